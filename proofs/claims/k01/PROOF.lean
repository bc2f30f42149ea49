import PyProof.Rows.All
import HandS.AnyAll
import HandS.Head2
import HandS.HeadHook4
import HandS.HeadWalk
import HandS.ForMost
import HandS.Defaults
import HandS.GenOver
import PyProof.TupleOfGen
import PyProof.SumAny
import PyProof.WalkInts
import HandS.WideBits
import HandS.IsInst
import HandS.SortInts
import HandS.Conv
import HandS.Flow
import KE.OsArith
import PyProof.Rows.FactsN_isinstance
import PyProof.PvWalk
import HandS.Evl
import Wide.All
import OpenK.AllK
import HandS.Base
import HandS.Call
import HandS.List
import KE.SortData
import HandS.TupSets
import KE.DataMinMax
import HandS.Remove
import PySem.Challenge.RW_sharebags_k01_whole_bars
section
set_option Elab.async false
set_option linter.all false
set_option maxRecDepth 100000
set_option maxHeartbeats 0
/-! The top of the row: where its statements stand, what is known of it behind the run. Written by wip/mkhead.py. -/
namespace K00
open PySem PySem.Spec PyProof.Rows L2
abbrev theRow : PySem.W.OpenLaw := PySem.Challenge.rw_sharebags_k01_whole_bars
def top (i : Nat) : Stmt := PySem.Challenge.pw_sharebags_k01_whole_bars.main.body.getD i (.Pass ⟨0, 0, 0, 0⟩)
def dd (x : Str) (i : Nat) : He.DefD := ⟨(x, none), x, x, defArgs (top i), defBody (top i), defScope (top i), [], []⟩
/-! the places of the defs: in the top, in the list fn -/
abbrev p_mask_of : Nat := 1
abbrev f_mask_of : Nat := 0
abbrev p_masks_of : Nat := 2
abbrev f_masks_of : Nat := 1
abbrev p_holds_two : Nat := 3
abbrev f_holds_two : Nat := 2
abbrev p_missing_bead : Nat := 5
abbrev f_missing_bead : Nat := 3
abbrev p_first_double : Nat := 6
abbrev f_first_double : Nat := 4
abbrev p_hanging_with_first : Nat := 7
abbrev f_hanging_with_first : Nat := 5
abbrev p_twice_held : Nat := 8
abbrev f_twice_held : Nat := 6
abbrev p_left_in_rings : Nat := 9
abbrev f_left_in_rings : Nat := 7
abbrev p_first_bar : Nat := 10
abbrev f_first_bar : Nat := 8
abbrev p_is_integer : Nat := 16
abbrev f_is_integer : Nat := 9
abbrev p_is_between : Nat := 17
abbrev f_is_between : Nat := 10
abbrev p_is_ascending : Nat := 18
abbrev f_is_ascending : Nat := 11
abbrev p_are_integers : Nat := 19
abbrev f_are_integers : Nat := 12
abbrev p_is_bead_tuple : Nat := 20
abbrev f_is_bead_tuple : Nat := 13
abbrev p_is_bag : Nat := 21
abbrev f_is_bag : Nat := 14
abbrev p_are_bags : Nat := 22
abbrev f_are_bags : Nat := 15
abbrev p_makes_family : Nat := 23
abbrev f_makes_family : Nat := 16
abbrev p_check_bags : Nat := 24
abbrev f_check_bags : Nat := 17
abbrev p_is_family : Nat := 26
abbrev f_is_family : Nat := 18
abbrev p_bar : Nat := 27
abbrev f_bar : Nat := 19
abbrev p_law_taken : Nat := 29
abbrev f_law_taken : Nat := 20
abbrev p_law_pick : Nat := 30
abbrev f_law_pick : Nat := 21
abbrev p_law_alike : Nat := 31
abbrev f_law_alike : Nat := 22
abbrev p_law_mixed : Nat := 32
abbrev f_law_mixed : Nat := 23
abbrev p_law_named : Nat := 33
abbrev f_law_named : Nat := 24
abbrev p_law_family : Nat := 34
abbrev f_law_family : Nat := 25
abbrev p_law : Nat := 35
abbrev f_law : Nat := 26
def fn0 : List He.DefD := [dd "mask_of" 1, dd "masks_of" 2, dd "holds_two" 3, dd "missing_bead" 5, dd "first_double" 6, dd "hanging_with_first" 7, dd "twice_held" 8, dd "left_in_rings" 9, dd "first_bar" 10, dd "is_integer" 16, dd "is_between" 17, dd "is_ascending" 18, dd "are_integers" 19, dd "is_bead_tuple" 20, dd "is_bag" 21, dd "are_bags" 22, dd "makes_family" 23, dd "check_bags" 24, dd "is_family" 26, dd "bar" 27]
def fn1 : List He.DefD := [dd "_law_taken" 29, dd "_law_pick" 30, dd "_law_alike" 31, dd "_law_mixed" 32, dd "_law_named" 33, dd "_law_family" 34, dd "law" 35]
def fn : List He.DefD := fn0 ++ (fn1)
/-- the defs whose tables of code objects grow -/
def tf : List He.Defn := [("mask_of", none), ("hanging_with_first", none), ("is_ascending", none), ("are_integers", none), ("are_bags", none)]
def fr : List Str := ["sum", "range", "len", "tuple", "list", "isinstance", "int", "bool", "all", "str", "sorted", "max", "set", "min", "reversed", "abs", "divmod", "any", "enumerate", "zip", "dict"]
def fi0 : List He.Fa := [.int "MOST_BEADS" 60]
def fi : List He.Fa := fi0
def fa : List He.Fa := (fn.map fun d => He.Fa.glo d.name) ++ (fr.map He.Fa.free ++ fi)
/-- the tables of code objects lie apart -/
def exK (K : PySem.W.Frag) : Bool := decide ((tf.map fun p => (He.cT K p).2).Nodup)
abbrev R : PySem.W.OpenRow := PySem.W.OpenLaw.row theRow
abbrev qv : Program := PySem.W.view R.prog [35]
def loose0 : List Str := ["mask_of", "masks_of", "holds_two", "missing_bead", "first_double", "hanging_with_first", "twice_held", "left_in_rings", "first_bar", "BagError", "BadBags", "MOST_BEADS", "is_integer", "is_between"]
def loose1 : List Str := ["is_ascending", "are_integers", "is_bead_tuple", "is_bag", "are_bags", "makes_family", "check_bags", "is_family", "bar", "_law_taken", "_law_pick", "_law_alike", "_law_mixed", "_law_named"]
def loose2 : List Str := ["_law_family"]
def loose : List Str := loose0 ++ (loose1 ++ (loose2))
abbrev hk : PySem.W.Hook := He.hookX 2 fa fn [] tf exK
def ob (s : PySem.W.SharedT) : He.AlX := He.obsX 2 fa fn [] tf exK (HandSHeadRun.getT s)
theorem ob_eq (s : PySem.W.SharedT) : ob s = hk.obs s.abs := He.obsX_eq (HandSHeadRun.getT_eq s)
theorem run (w : World) : HandSHeadRun.RunEq R qv hk ob 6000 loose w := by
  intro os
  kernel_rfl
end K00
end

section
set_option Elab.async false
set_option linter.all false
set_option maxRecDepth 100000
set_option maxHeartbeats 4000000
/-! A generator expression over anything that PI serves, its element and its tests told by PE and PTs in the context of its own frame. -/
namespace GX
open PySem PySem.Spec PyProof.Rows L2 GxR

abbrev gEx (elt : Expr) (x : Str) (px : Pos) (iter : Expr) (ifs : List Expr) (scope : Scope) (pos : Pos) : Expr :=
  .GeneratorExp elt [⟨.Name x px, iter, ifs, 0⟩] scope pos

/-- the names of the expression's own scope: the walked one, the captured ones with their slots in the def -/
structure CapOk (N : List Str) (sc scope : Scope) (x : Str) (cap : List (Str × Nat)) : Prop where
  kind : scope.kind = .function
  co : scope.isCoroutine = false
  nocell : ∀ y ∈ scope.names, y.2 ≠ .cell
  dot : scope.names.lookup (".0" : Str) = some NameKind.local
  loc : scope.names.lookup x = some .local
  free : ∀ y ∈ scope.names, y.2 = .free → sc.names.lookup y.1 = some .cell ∨ sc.names.lookup y.1 = some .free
  caps : ∀ p ∈ cap, N[p.2]? = some p.1 ∧ scope.names.lookup p.1 = some .free
  nd : (x :: cap.map (·.1)).Nodup

def capB (N : List Str) (sc scope : Scope) (x : Str) (cap : List (Str × Nat)) : Bool :=
  scope.kind == .function && !scope.isCoroutine && scope.names.all (fun y => y.2 != .cell) && scope.names.lookup (".0" : Str) == some NameKind.local &&
  scope.names.lookup x == some .local && scope.names.all (fun y => y.2 != .free || (sc.names.lookup y.1 == some .cell || sc.names.lookup y.1 == some .free)) &&
  cap.all (fun p => N[p.2]? == some p.1 && scope.names.lookup p.1 == some .free) && decide (x :: cap.map (·.1)).Nodup

theorem capOk_by {N : List Str} {sc scope : Scope} {x : Str} {cap : List (Str × Nat)} (h : capB N sc scope x cap = true) : CapOk N sc scope x cap := by
  unfold capB at h
  simp only [Bool.and_eq_true, List.all_eq_true, beq_iff_eq, bne_iff_ne, Bool.or_eq_true, decide_eq_true_eq, Bool.not_eq_true'] at h
  obtain ⟨⟨⟨⟨⟨⟨⟨h1, h2⟩, h3⟩, h4⟩, h5⟩, h6⟩, h7⟩, h8⟩ := h
  refine ⟨h1, h2, h3, h4, h5, fun y hy e => ?_, h7, h8⟩
  rcases h6 y hy with z | z
  · exact absurd e z
  · exact z

/-- the values of the captured names -/
def capV (cap : List (Str × Nat)) (σ : L2.St) : L2.St := cap.map fun p => (σ[p.2]?).getD none
theorem capV_length (cap : List (Str × Nat)) (σ : L2.St) : (capV cap σ).length = cap.length := List.length_map ..

/-- the frame's environment -/
abbrev gEnv (X : Cx) (scope : Scope) (C : Addr) (code : Value) : Env := genEnv scope (cloFrom X.env.cells scope.names []) C code builtinsNs X.env
/-- the context of the expression's frame -/
abbrev gcx (X : Cx) (s : Shared) (H : Hp) (x : Str) (cap : List (Str × Nat)) (scope : Scope) (C : Addr) (code : Value) (fp : List Addr) : Cx :=
  { X with A := X.A.in4.in1.deeper (gEnv X scope C code), N := x :: cap.map (·.1), s_0 := s, H_0 := H, env := gEnv X scope C code, outer := X.stack, stack := gEnv X scope C code :: X.stack, ex := fp, fn := fun _ => false, pn := [], xe := fun _ _ => False }

theorem room_g {X : Cx} {s : Shared} {H : Hp} {x : Str} {cap : List (Str × Nat)} {scope : Scope} {C : Addr} {code : Value} {fp : List Addr} {k : Nat} (hr : Room (k + 1) X.A) : Room k (gcx X s H x cap scope C code fp).A :=
  ⟨hr.hd, by have := hr.dp; show X.A.depth + 1 + 3 * k + 5 < _; omega, by have := hr.un; show X.A.units + 1 + 1 + 1 + 1 + 1 + 3 + 16 * k + 200 < _; omega⟩

theorem over_loop {A : Around} {elt : Expr} {x : Str} {px : Pos} {iter : Expr} {ifs : List Expr} {scope : Scope} {pos : Pos} {it : Addr} {env : Env} :
    A.over (.compLoop (gEx elt x px iter ifs scope pos) 0 (.ref it) .none env) [] = A.deeper env := by
  first
    | rfl
    | (obtain ⟨hd, d, fr, gs, u⟩ := A; simp [Around.over, Around.deeper, marksOver, frameCount, unitsOf, envsOf, guardsOf, pushEnvs, pushGuards, Code.envs, Code.env?, Code.isFrame, Code.guards, Code.isGuard, Code.weight, Code.frames, Code.isCreation, Code.isCaller, Code.cUnits])
theorem over_start {A : Around} {elt : Expr} {x : Str} {px : Pos} {iter : Expr} {ifs : List Expr} {scope : Scope} {pos : Pos} {it : Addr} {env : Env} :
    A.over (.compStart (gEx elt x px iter ifs scope pos) 0 (.ref it) .none env) [] = A.deeper env := by
  first
    | rfl
    | (obtain ⟨hd, d, fr, gs, u⟩ := A; simp [Around.over, Around.deeper, marksOver, frameCount, unitsOf, envsOf, guardsOf, pushEnvs, pushGuards, Code.envs, Code.env?, Code.isFrame, Code.guards, Code.isGuard, Code.weight, Code.frames, Code.isCreation, Code.isCaller, Code.cUnits])

section
variable {X : Cx} {pins : List (Addr × Obj)} {σ : L2.St} {H : Hp} {s : Shared}
/-- the frame has been laid: the context's invariant -/
theorem g_start {x : Str} {cap : List (Str × Nat)} {scope : Scope} {code : Value} {fp : List Addr} {m5 : Str → Option Value} {h5 : Heap} {g5 : Array GenState} {t5 : Nat}
    (I : Inv X pins σ H s) (ok : CapOk X.N X.env.scope scope x cap) (hfp : ∀ b ∈ fp, FpOk X pins H b ∧ b < s.heap.objs.size)
    (k : ∀ b o, s.heap.get? b = some o → h5.get? b = some o) (hn : h5.Ns s.heap.objs.size m5) (hg : AllBare g5) :
    Inv (gcx X s H x cap scope s.heap.objs.size code fp) [] (none :: capV cap σ) H { s with heap := h5, gens := g5, toks := t5 } := by
  have frees : ∀ y ∈ scope.names, y.2 = .free → ∃ c, X.env.cells.lookup y.1 = some c := fun y hy e => by
    rcases ok.free y hy e with q | q
    · exact I.ok.has _ (.inl q)
    · exact I.ok.has _ (.inr q)
  have down : ∀ {y : Str} {c : Addr}, (cloFrom X.env.cells scope.names []).lookup y = some c → X.env.cells.lookup y = some c := fun {y c} e => by
    rcases cloFrom_mem (PySem.mem_of_lookup e) with q | ⟨q1, q2⟩
    · cases q
    · obtain ⟨c', e'⟩ := frees _ q1 rfl
      rw [q2, show X.env.cells.lookup y = some c' from e']
      rfl
  have up : ∀ {y : Str}, scope.names.lookup y = some .free → ∃ c, (cloFrom X.env.cells scope.names []).lookup y = some c ∧ X.env.cells.lookup y = some c := fun {y} e => by
    obtain ⟨c, hc⟩ := mem_lookup (cloFrom_has (cells := X.env.cells) (acc := []) (PySem.mem_of_lookup e))
    exact ⟨c, hc, down hc⟩
  have okG : (gcx X s H x cap scope s.heap.objs.size code fp).Ok := by
    refine ⟨I.ok.mod, ok.kind, I.ok.glob, rfl, Nat.le_refl _, fun y z c e1 e2 => I.ok.inj y z c (down e1) (down e2), fun y hy => ?_, fun y c e => ?_, fun z => I.ok.hd z, ?_, .inr ⟨rfl, rfl⟩, fun b hb => ⟨Nat.ne_of_lt (hfp b hb).2, fun y c e => (hfp b hb).1.2.2.2.2.1 y c (down e)⟩,
      I.bs, Nat.le_trans I.ok.bsz I.sz, fun b o e hb => ?_, fun b hb z => ?_, I.stack, I.stkFree⟩
    · rcases hy with hy | hy
      · exact absurd rfl (ok.nocell _ (PySem.mem_of_lookup hy))
      · obtain ⟨c, h1, _⟩ := up hy
        exact ⟨c, h1⟩
    · cases e
    · have e : X.A.frames = some X.stack := I.ok.frames
      show (X.A.in4.in1.deeper _).frames = _
      simp [Around.deeper, Around.in4, e]
    · rcases (hfp b hb).1.2.2.2.1 with z | z
      · exact I.ok.noex b o e z
      · exact absurd (Nat.lt_of_lt_of_le (Heap.lt_size e) (Nat.le_trans I.ok.bsz z)) (Nat.lt_irrefl _)
    · rcases List.mem_cons.mp (I.stkSub b z) with z | z
      · exact (hfp b hb).1.2.1 z
      · exact (hfp b hb).1.2.2.1 z
  refine ⟨okG, rfl, hg, Un.kept k, ⟨m5, hn, fun i y v e1 e2 _ => ?_⟩, fun y c e => ?_, I.hok.fresh (Nat.le_refl _), fun y c e => I.freeC y c (down e), fun p hp => absurd (show p ∈ ([] : List (Addr × Obj)) ++ [] from hp) (by simp), I.hok.kept k, ?_⟩
  · obtain ⟨m, _, hl⟩ := I.loc
    cases i with
    | zero => cases e2
    | succ i =>
      have e1 : (cap.map (·.1))[i]? = some y := e1
      have e2 : (capV cap σ)[i]? = some (some v) := e2
      rw [List.getElem?_map] at e1
      unfold capV at e2
      rw [List.getElem?_map] at e2
      cases q : cap[i]? with
      | none => rw [q] at e1; cases e1
      | some p =>
        rw [q] at e1 e2
        have e1 : p.1 = y := Option.some.inj e1
        have e2 : (σ[p.2]?).getD none = some v := Option.some.inj e2
        obtain ⟨c1, c2⟩ := ok.caps p (List.mem_of_getElem? q)
        rw [e1] at c1 c2
        have e3 : σ[p.2]? = some (some v) := by
          cases q2 : σ[p.2]? with
          | none => rw [q2] at e2; cases e2
          | some w => rw [q2] at e2; exact congrArg some e2
        have hk := ok.free (y, .free) (PySem.mem_of_lookup c2) rfl
        obtain ⟨u, r, l⟩ := hl p.2 y v c1 e3 (hk.elim (fun z => .inr (.inl z)) fun z => .inr (.inr z))
        refine ⟨u, r, .inr ⟨.inr c2, ?_⟩⟩
        obtain ⟨c, h1, h2⟩ := up c2
        rcases l with ⟨l1, _⟩ | ⟨_, c', l2, l3⟩
        · have l1 : X.env.scope.names.lookup y = some .local := l1
          rcases hk with z | z <;> rw [show X.env.scope.names.lookup y = _ from z] at l1 <;> cases l1
        · rw [h2] at l2
          cases l2
          exact ⟨c, h1, l3.keeps k⟩
  · obtain ⟨v, z⟩ := I.cell y c (down e)
    exact ⟨v, z.keeps k⟩
  · show (none :: capV cap σ).length = (x :: cap.map (·.1)).length
    simp [capV_length]
end
end GX
end

section
set_option Elab.async false
set_option linter.all false
set_option maxRecDepth 100000
set_option maxHeartbeats 4000000
/-! A generator expression: its turns, its sleep, one step of it. -/
namespace GX
open PySem PySem.Spec PyProof.Rows L2 GxR

/-- what a walk over the expression is told by: Own, what the consumer keeps at the addresses Ss; W ahead of a turn; Yd at a yield; Zd at the end -/
structure Tell where
  Ss : List Addr
  Own : List V → Heap → Prop
  W : List V → Nat → Nat → Hp → Prop
  Yd : List V → V → Nat → Nat → Hp → Prop
  Zd : List V → Hp → Prop

/-- one turn keeps what is told -/
def Turns (D : Tell) (J : It) (tt : TT) (te : TE) (cv : L2.St) : Prop :=
  ∀ ys i m H, D.W ys i m H → (J.stop i H ∧ D.Zd ys H) ∨ (J.go i H ∧ ∃ (Nx : Hp → Prop) (Ny : VK), (∀ H', Nx H' → ∃ m', m' < m ∧ D.W ys (i + 1) m' H') ∧ (∀ y H', Ny y H' → D.Yd ys y i m H') ∧
    ∀ v H', J.yld i H v H' → tt (some v :: cv) H' fun b H3 => if b = true then te (some v :: cv) H3 Ny else Nx H3)

/-- the frame as it stands at place i, the consumer's objects as in h -/
structure At (Y : Cx) (D : Tell) (cv : L2.St) (fp : List Addr) (tn : Nat → Heap → Prop) (i : Nat) (H : Hp) (h : Heap) (s : Shared) : Prop where
  inv : Inv Y (pinsAt D.Ss h) (none :: cv) H s
  tn : tn i s.heap
  fpn : ∀ b ∈ fp, H b = none

def gR (Y : Cx) (D : Tell) (cv : L2.St) : GenEnd := fun _ s0 r s1 => r = .ok .next ∧ ∃ ys H, D.Own ys s0.heap ∧ D.Zd ys H ∧ Inv Y (pinsAt D.Ss s0.heap) (none :: cv) H s1
def gY (Y : Cx) (D : Tell) (cv : L2.St) (fp : List Addr) (tn : Nat → Heap → Prop) : Protocol := fun n s0 v s kap =>
  ∃ ys y i m H, RelV y v ∧ m ≤ n ∧ D.Own ys s0.heap ∧ D.Yd ys y i m H ∧ At Y D cv fp tn (i + 1) H s0.heap s ∧
    ∀ s2 m2 H2, m2 < m → D.W (ys ++ [y]) (i + 1) m2 H2 → D.Own (ys ++ [y]) s2.heap → At Y D cv fp tn (i + 1) H2 s2.heap s2 → kap (.send .none) s2

/-- the context that stands behind an expression's frame -/
structure Fr0 (Y : Cx) (B : Around) (x : Str) (cv : L2.St) (fp : List Addr) : Prop where
  A : B.deeper Y.env = Y.A
  xe : Y.xe = fun _ _ => False
  pn : Y.pn = []
  ex : Y.ex = fp
  calm : Y.calm = true
  nd : Y.N.Nodup
  at0 : Y.N[0]? = some x
  loc : Y.env.scope.names.lookup x = some .local
  co : Y.env.scope.isCoroutine = false
  kind : Y.env.scope.kind = .function
  len : Y.N.length = cv.length + 1

section
variable {Y : Cx} {B : Around} {x : Str} {cv : L2.St} {fp : List Addr} {tn : Nat → Heap → Prop} {D : Tell} {J : It} {it : Addr} {tt : TT} {te : TE}
variable {elt : Expr} {px : Pos} {iter : Expr} {ifs : List Expr} {scope : Scope} {pos : Pos}

/-- no exception leaves the frame -/
theorem no_xe {Al : Type} {t : Sem Al} {Q Q' : Al → Shared → Prop} {M : Model} {A : Around} {E : Value → Shared → Prop} {s : Shared} (e : Y.xe = fun _ _ => False) (h : wpAny M A t Q Y.xe s) (hQ : ∀ a s, Q a s → Q' a s) : wpAny M A t Q' E s :=
  wpAny_mono h hQ fun a b z => by rw [e] at z; exact z.elim

theorem g_loop (F : Fr0 Y B x cv fp) (T : Turn Y.prog Y.w Y.K (.Name x px) J fp it tn) (hS : ∀ b ∈ D.Ss, b ∉ fp) (pt : PTs Y ifs tt) (pe : PE Y elt te) (turn : Turns D J tt te cv) :
    ∀ (m n : Nat) (ys : List V) (i : Nat) (H : Hp) (s0 s : Shared), m < n → D.W ys i m H → D.Own ys s0.heap → At Y D cv fp tn i H s0.heap s →
      Seg (model Y.prog Y.w) B (gR Y D cv) (gY Y D cv fp tn) n s0 (.compLoop (gEx elt x px iter ifs scope pos) 0 (.ref it) .none Y.env)
        ((model Y.prog Y.w).den (.compLoop (gEx elt x px iter ifs scope pos) 0 (.ref it) .none Y.env)) [] s := by
  intro m
  induction m using Nat.strongRecOn with
  | ind m ih =>
    intro n ys i H s0 s hmn hW hO hA
    have hAr : B.over (.compLoop (gEx elt x px iter ifs scope pos) 0 (.ref it) .none Y.env) [] = Y.A := over_loop.trans F.A
    obtain ⟨I, st, fn⟩ := hA
    have good : ∀ {H' : Hp}, (∀ b ∈ fp, H' b = none) → ∀ b ∈ fp, FpOk Y (pinsAt D.Ss s0.heap) H' b := fun {H'} hn b hb => by
      have hbx : b ∈ Y.ex := by rw [F.ex]; exact hb
      refine ⟨hn b hb, (I.ok.exf b hbx).1, I.ok.exfs b hbx, .inl hbx, fun y c e => (I.ok.exf b hbx).2 y c e, fun p hp z => ?_⟩
      rw [F.pn, List.nil_append] at hp
      exact hS p.1 (of_pinsAt hp).1 (by rw [z]; exact hb)
    show Seg _ B _ _ n s0 _ ((compTurn (gEx elt x px iter ifs scope pos) 0 (.ref it) .none Y.env).onRaise (leaving Y.env)) [] s
    rw [compTurn_gen, Sem.onRaise_eq_wrap]
    refine seg_bind_wrap (wpAny_standAt ?_)
    rcases turn ys i m H hW with ⟨stop, hz⟩ | ⟨go, Nx, Ny, hNx, hNy, step⟩
    · refine seg_bind_wrap ?_
      rw [hAr]
      refine thnF (T.done Y rfl rfl rfl F.calm i _ s _ H (fun _ _ => False) I (good fn) st stop) fun r s6 ⟨hr, I6⟩ => ?_
      subst hr
      exact seg_end (.ok .next) ⟨rfl, ys, H, hO, hz, I6⟩
    · refine seg_bind_wrap ?_
      rw [hAr]
      refine thnF (T.item Y rfl rfl rfl F.calm i _ s _ H (fun _ _ => False) I (good fn) st go) fun r s6 ⟨u, hr, h6⟩ => ?_
      subst hr
      refine seg_bind_wrap ?_
      rw [hAr]
      refine thnF h6 fun _ s7 ⟨xv, H7, I7, r7, y7, st7, n7⟩ => ?_
      have I7' := I7.pinned (good n7) (T.obj _ _ st7)
      refine seg_bind_wrap ?_
      rw [hAr]
      have pg : PG Y (.Name x px) (gName 0) := pg_name F.nd F.at0 (.inl F.loc) (.inr F.loc)
      have hset : ((none :: cv : L2.St).set 0 (some xv)) = some xv :: cv := rfl
      refine no_xe F.xe (pg.run _ s7 _ H7 xv u (fun σ' H' => σ' = some xv :: cv ∧ H' = H7) I7' r7 ⟨hset, rfl⟩) fun _ s8 ⟨σ8, H8, I8, e1, e2⟩ => ?_
      subst e1 e2
      refine seg_bind_wrap ?_
      rw [hAr]
      refine no_xe F.xe (pt.run _ s8 _ H8 _ I8 (step xv H8 y7)) fun b s9 ⟨H9, I9, q9⟩ => ?_
      have back : ∀ {σ' : L2.St} {H' : Hp} {s' : Shared}, σ' = some xv :: cv → Inv Y (pinsAt D.Ss s0.heap ++ pinsAt fp s7.heap) σ' H' s' → At Y D cv fp tn (i + 1) H' s0.heap s' := fun {σ' H' s'} e I' => by
        subst e
        have pin' : ∀ b ∈ fp, ∀ o, s7.heap.get? b = some o → s'.heap.get? b = some o ∧ H' b = none := fun b hb o e =>
          let z := I'.pin (b, o) (List.mem_append_right _ (List.mem_append_right _ (mem_pinsAt hb e)))
          ⟨z.1, z.2.1⟩
        refine ⟨I'.unpinned.weak rfl fun j v e => ?_, T.keep _ _ _ st7 fun b hb o e => (pin' b hb o e).1, fun b hb => ?_⟩
        · cases j with
          | zero => cases e
          | succ j => exact e
        · obtain ⟨o, e, _⟩ := T.obj _ _ st7 b hb
          exact (pin' b hb o e).2
      cases b with
      | false =>
        simp only [Bool.false_eq_true, if_false] at q9 ⊢
        obtain ⟨m2, hm2, w2⟩ := hNx H9 q9
        exact seg_again rfl (ih m2 hm2 n ys (i + 1) H9 s0 s9 (by omega) w2 hO (back rfl I9))
      | true =>
        simp only [if_true] at q9 ⊢
        have hy : ∀ v, yieldOut Y.env v = yieldValue v := fun v => by simp only [yieldOut, F.co, Bool.false_eq_true, if_false]
        simp only [hy]
        rw [Sem.bind_eq_wrap', Sem.bind_eq_wrap', Sem.wrap_wrap, Sem.wrap_wrap]
        refine seg_wrap ?_
        rw [hAr]
        refine no_xe F.xe (pe.run _ s9 _ H9 _ I9 q9) fun yv s10 ⟨y, H10, I10, r10, hyd⟩ => ?_
        have A10 := back rfl I10
        cases n with
        | zero => exact absurd hmn (Nat.not_lt_zero _)
        | succ n =>
          refine seg_at (seg_yield rfl rfl rfl ?_)
          refine ⟨ys, y, i, m, H10, r10, Nat.le_of_lt_succ hmn, hO, hNy _ _ hyd, A10, fun s2 m2 H2 hm2 w2 o2 a2 => ?_⟩
          exact seg_again rfl (ih m2 hm2 n (ys ++ [y]) (i + 1) H2 s2 s2 (by omega) w2 o2 a2)

/-- the first turn -/
theorem g_first (F : Fr0 Y B x cv fp) (T : Turn Y.prog Y.w Y.K (.Name x px) J fp it tn) (hS : ∀ b ∈ D.Ss, b ∉ fp) (pt : PTs Y ifs tt) (pe : PE Y elt te) (turn : Turns D J tt te cv)
    (m n : Nat) (ys : List V) (i : Nat) (H : Hp) (s0 s : Shared) (hmn : m < n) (hW : D.W ys i m H) (hO : D.Own ys s0.heap) (hA : At Y D cv fp tn i H s0.heap s) :
      Seg (model Y.prog Y.w) B (gR Y D cv) (gY Y D cv fp tn) n s0 (.compStart (gEx elt x px iter ifs scope pos) 0 (.ref it) .none Y.env)
        ((model Y.prog Y.w).den (.compStart (gEx elt x px iter ifs scope pos) 0 (.ref it) .none Y.env)) [] s := by
  have loop := g_loop (iter := iter) (scope := scope) (pos := pos) F T hS pt pe turn m n ys i H s0 s hmn hW hO hA
  show Seg _ B _ _ n s0 _ ((compStart (gEx elt x px iter ifs scope pos) 0 (.ref it) .none Y.env).onRaise (leaving Y.env)) [] s
  unfold compStart
  rw [Sem.onRaise_eq_wrap]
  show Seg _ B _ _ n s0 _ ((ask >>= _).wrap _ _ _ _) [] s
  refine seg_bind_wrap (wpAny_askSetting ?_)
  split
  · exact seg_again rfl loop
  · refine seg_bind_wrap (wpAny_rule ?_)
    show Seg _ B _ _ n s0 _ ((standAt iter.pos >>= _).wrap _ _ _ _) [] s
    exact seg_bind_wrap (wpAny_standAt (seg_bind_wrap (T.self _ i s _ _ hA.tn (seg_again rfl loop))))

/-- the generator a (number g) sleeps, n more turns at most -/
def Asleep (Y : Cx) (B : Around) (D : Tell) (cv : L2.St) (fp : List Addr) (tn : Nat → Heap → Prop) (a : Addr) (g n : Nat) (s : Shared) : Prop :=
  ∃ ys i m H gs, m < n ∧ D.W ys i m H ∧ D.Own ys s.heap ∧ At Y D cv fp tn i H s.heap s ∧ s.heap.IsGen a g ∧ s.gens[g]? = some gs ∧
    ∀ s2 m2 H2, m2 ≤ m → D.W ys i m2 H2 → D.Own ys s2.heap → At Y D cv fp tn i H2 s2.heap s2 → gs.Goes (model Y.prog Y.w) B (gR Y D cv) (gY Y D cv fp tn) n (.send .none) s2

/-- behind a yield of y -/
def Given (Y : Cx) (B : Around) (D : Tell) (cv : L2.St) (fp : List Addr) (tn : Nat → Heap → Prop) (a : Addr) (g n : Nat) (ys : List V) (y : V) (i m : Nat) (H : Hp) (s : Shared) : Prop :=
  m ≤ n ∧ D.Own ys s.heap ∧ D.Yd ys y i m H ∧ At Y D cv fp tn (i + 1) H s.heap s ∧ s.heap.IsGen a g ∧ ∃ gs, s.gens[g]? = some gs ∧
    ∀ s2 m2 H2, m2 < m → D.W (ys ++ [y]) (i + 1) m2 H2 → D.Own (ys ++ [y]) s2.heap → At Y D cv fp tn (i + 1) H2 s2.heap s2 → gs.Goes (model Y.prog Y.w) B (gR Y D cv) (gY Y D cv fp tn) n (.send .none) s2
/-- behind the end -/
def Over (Y : Cx) (D : Tell) (cv : L2.St) (ys : List V) (H : Hp) (s : Shared) : Prop := D.Own ys s.heap ∧ D.Zd ys H ∧ Inv Y (pinsAt D.Ss s.heap) (none :: cv) H s

/-- what Own says is read off the consumer's objects, which are there -/
structure Owns (D : Tell) (a : Addr) : Prop where
  keep : ∀ ys h h', D.Own ys h → (∀ b ∈ D.Ss, ∀ o, h.get? b = some o → h'.get? b = some o) → D.Own ys h'
  has : ∀ ys h, D.Own ys h → ∀ b ∈ D.Ss, b ≠ a → ∃ o, h.get? b = some o
  mem : a ∈ D.Ss

theorem inv_gens {pins : List (Addr × Obj)} {σ : L2.St} {H : Hp} {s : Shared} {g' : Array GenState} (I : Inv Y pins σ H s) (hg : AllBare g') : Inv Y pins σ H { s with gens := g' } := by
  refine ⟨I.ok, I.os, hg, I.base, I.loc, I.cell, I.free, I.freeC, I.pin, I.hok, I.len⟩
theorem bare_set {s : Shared} {g : Nat} {z : GenState} (h : AllBare s.gens) (hz : z.bare = true) : AllBare (s.setGen g z).gens := by
  intro y hy
  rcases Array.mem_or_eq_of_mem_setIfInBounds (show y ∈ s.gens.setIfInBounds g z from hy) with q | q
  · exact h y q
  · rw [q]; exact hz
theorem repin {h0 : Heap} {l : List Addr} {σ : L2.St} {H : Hp} {s : Shared} (I : Inv Y (pinsAt l h0) σ H s) (hl : ∀ b ∈ l, ∃ o, h0.get? b = some o) : Inv Y (pinsAt l s.heap) σ H s := by
  refine I.pins_of fun p hp => ?_
  obtain ⟨hb, e⟩ := of_pinsAt hp
  obtain ⟨o, e0⟩ := hl p.1 hb
  obtain ⟨e1, q⟩ := I.pin (p.1, o) (List.mem_append_right _ (mem_pinsAt hb e0))
  rw [e] at e1
  cases e1
  exact ⟨e, q⟩
theorem pin_keep {h0 : Heap} {l : List Addr} {σ : L2.St} {H : Hp} {s : Shared} (I : Inv Y (pinsAt l h0) σ H s) : ∀ b ∈ l, ∀ o, h0.get? b = some o → s.heap.get? b = some o := fun b hb o e =>
  (I.pin (b, o) (List.mem_append_right _ (mem_pinsAt hb e))).1

theorem g_next {A : Around} {a : Addr} {g : Nat} (hAB : B = A.in1) (hroom : A.depth < recursionLimit) (hh : A.handled = none) (O : Owns D a) {n : Nat} {s : Shared} {Q : Option Value → Shared → Prop} {E : Value → Shared → Prop} (h : Asleep Y B D cv fp tn a g (n + 1) s)
    (hY : ∀ ys y v i m H s', RelV y v → (∀ b ∈ D.Ss, ∀ o, s.heap.get? b = some o → s'.heap.get? b = some o) → Given Y B D cv fp tn a g n ys y i m H s' → Q (some v) s')
    (hZ : ∀ ys H s', (∀ b ∈ D.Ss, ∀ o, s.heap.get? b = some o → s'.heap.get? b = some o) → Over Y D cv ys H s' → Q none s') : wpAny (model Y.prog Y.w) A (pyNext (.ref a)) Q E s := by
  obtain ⟨ys, i, m, H, gs, hmn, hW, hO, hA, hg, hgs, kap⟩ := h
  subst hAB
  have has : ∀ b ∈ D.Ss, ∃ o, s.heap.get? b = some o := fun b hb => by
    by_cases e : b = a
    · obtain ⟨o, _, _, ho, _⟩ := hg
      exact ⟨o, by rw [e]; exact ho⟩
    · exact O.has ys _ hO b hb e
  have hA1 : At Y D cv fp tn i H s.heap (s.setGen g .running) := ⟨inv_gens hA.inv (bare_set hA.inv.bare rfl), hA.tn, hA.fpn⟩
  have hgo := kap (s.setGen g .running) m H (Nat.le_refl _) hW hO hA1
  have sz : g < s.gens.size := by
    rcases Nat.lt_or_ge g s.gens.size with z | z
    · exact z
    · rw [Array.getElem?_eq_none z] at hgs; cases hgs
  have gen_at : ∀ h' : Heap, (∀ b ∈ D.Ss, ∀ o, s.heap.get? b = some o → h'.get? b = some o) → h'.IsGen a g := fun h' k => by
    obtain ⟨o, nm, qn, ho, r⟩ := hg
    exact ⟨o, nm, qn, k a O.mem o ho, r⟩
  refine GenW.wpAny_gsz (n := s.gens.size) (Nat.le_refl _) (wpAny_pyNext_genexpQ (P := fun _ s0 s1 => ∃ ys H, D.Own ys s0.heap ∧ D.Zd ys H ∧ Inv Y (pinsAt D.Ss s0.heap) (none :: cv) H s1) (Y := gY Y D cv fp tn) hh hA.inv.nolimit hroom hg hgs hgo (fun v s1 gs2 hb hv hsz => ?_) (fun s1 hp h2 hk hsz => ?_))
  · obtain ⟨ys2, y, i2, m2, H2, rv, hm2, hO2, hyd, hA2, kap2⟩ := hv
    have kp : ∀ b ∈ D.Ss, ∀ o, s.heap.get? b = some o → s1.heap.get? b = some o := pin_keep hA2.inv
    refine hY ys2 y v i2 m2 H2 _ rv kp ⟨hm2, O.keep ys2 _ _ hO2 kp, hyd, ⟨inv_gens (repin hA2.inv has) (bare_set hA2.inv.bare hb), hA2.tn, hA2.fpn⟩, gen_at _ kp, gs2, ?_, kap2⟩
    have hz : g < s1.gens.size := by
      have hsz : s.gens.size ≤ (s1.gens.setIfInBounds g gs2).size := hsz
      rw [Array.size_setIfInBounds] at hsz
      omega
    show (s1.gens.setIfInBounds g gs2)[g]? = some gs2
    simp [hz]
  · obtain ⟨ys2, H2, hO2, hz2, I2⟩ := hp
    have kp : ∀ b ∈ D.Ss, ∀ o, s.heap.get? b = some o → s1.heap.get? b = some o := pin_keep I2
    refine hZ ys2 H2 _ (fun b hb o e => hk b o (kp b hb o e)) ⟨O.keep ys2 _ _ hO2 fun b hb o e => hk b o (kp b hb o e), hz2, ?_⟩
    have I3 : Inv Y (pinsAt D.Ss s.heap) (none :: cv) H2 { s1.setGen g .finished with heap := h2 } := (inv_gens I2 (bare_set (g := g) (z := .finished) I2.bare rfl)).kept (t' := s1.toks) hk
    exact repin I3 has
/-- .. a few arounds further out -/
theorem g_next1 {X : Cx} {a : Addr} {g : Nat} (hB : B = X.A.in4.in1) (hroom : X.A.depth < recursionLimit) (hh : X.A.handled = none) (O : Owns D a) {n : Nat} {s : Shared} {Q : Option Value → Shared → Prop} {E : Value → Shared → Prop} (h : Asleep Y B D cv fp tn a g (n + 1) s)
    (hY : ∀ ys y v i m H s', RelV y v → (∀ b ∈ D.Ss, ∀ o, s.heap.get? b = some o → s'.heap.get? b = some o) → Given Y B D cv fp tn a g n ys y i m H s' → Q (some v) s')
    (hZ : ∀ ys H s', (∀ b ∈ D.Ss, ∀ o, s.heap.get? b = some o → s'.heap.get? b = some o) → Over Y D cv ys H s' → Q none s') : wpAny (model Y.prog Y.w) X.A.in1 (pyNext (.ref a)) Q E s :=
  wpAny_of_in1 (A := X.A.in1) (wpAny_of_in1 (A := X.A.in1.in1) (wpAny_of_in1 (A := X.A.in1.in1.in1) (g_next (A := X.A.in4) hB hroom hh O h hY hZ)))
theorem g_next3 {X : Cx} {a : Addr} {g : Nat} (hB : B = X.A.in4.in1) (hroom : X.A.depth < recursionLimit) (hh : X.A.handled = none) (O : Owns D a) {n : Nat} {s : Shared} {Q : Option Value → Shared → Prop} {E : Value → Shared → Prop} (h : Asleep Y B D cv fp tn a g (n + 1) s)
    (hY : ∀ ys y v i m H s', RelV y v → (∀ b ∈ D.Ss, ∀ o, s.heap.get? b = some o → s'.heap.get? b = some o) → Given Y B D cv fp tn a g n ys y i m H s' → Q (some v) s')
    (hZ : ∀ ys H s', (∀ b ∈ D.Ss, ∀ o, s.heap.get? b = some o → s'.heap.get? b = some o) → Over Y D cv ys H s' → Q none s') : wpAny (model Y.prog Y.w) X.A.in1.in1.in1 (pyNext (.ref a)) Q E s :=
  wpAny_of_in1 (A := X.A.in1.in1.in1) (g_next (A := X.A.in4) hB hroom hh O h hY hZ)
/-- the consumer goes on -/
theorem again {a : Addr} {g n : Nat} {ys : List V} {y : V} {i m m2 : Nat} {H : Hp} {s : Shared} (G : Given Y B D cv fp tn a g n ys y i m H s) (hm : m2 < m) (hW : D.W (ys ++ [y]) (i + 1) m2 H) (hO : D.Own (ys ++ [y]) s.heap) : ∃ n', n = n' + 1 ∧ Asleep Y B D cv fp tn a g (n' + 1) s := by
  obtain ⟨h1, _, _, h4, h5, gs, h6, h7⟩ := G
  obtain ⟨n', rfl⟩ : ∃ n', n = n' + 1 := ⟨n - 1, by omega⟩
  exact ⟨n', rfl, ys ++ [y], i + 1, m2, H, gs, by omega, hW, hO, h4, h5, h6, fun s2 m3 H2 hm3 w3 o3 a3 => h7 s2 m3 H2 (by omega) w3 o3 a3⟩
end
end GX
end

section
set_option Elab.async false
set_option linter.all false
set_option maxRecDepth 100000
set_option maxHeartbeats 4000000
/-! A generator expression made; all and any of it. -/
namespace GX
open PySem PySem.Spec PyProof.Rows L2 GxR
section
variable {X : Cx} {pins : List (Addr × Obj)} {σ : L2.St} {H : Hp} {s : Shared}
variable {x : Str} {cap : List (Str × Nat)} {elt : Expr} {px : Pos} {iter : Expr} {ifs : List Expr} {scope : Scope} {pos : Pos} {c P : Addr} {k : Nat} {wi : TI} {tt : TT} {te : TE}

/-- the generator at a as it has been made -/
structure Made (X : Cx) (pins : List (Addr × Obj)) (σ : L2.St) (x : Str) (cap : List (Str × Nat)) (elt : Expr) (px : Pos) (iter : Expr) (ifs : List Expr) (scope : Scope) (pos : Pos)
    (a g : Addr) (s4 : Shared) (H2 : Hp) (code : Value) (it : Addr) (fp : List Addr) (tn : Nat → Heap → Prop) (J : It) (s5 : Shared) : Prop where
  out : Inv X pins σ H2 s4
  T : Turn X.prog X.w X.K (.Name x px) J fp it tn
  ok : ∀ b ∈ fp, FpOk X pins H2 b ∧ b < s4.heap.objs.size
  inn : Inv (gcx X s4 H2 x cap scope s4.heap.objs.size code fp) [] (none :: capV cap σ) H2 s5
  st : tn 0 s5.heap
  gen : s5.heap.IsGen a g
  gs : s5.gens[g]? = some (.fresh (.compStart (gEx elt x px iter ifs scope pos) 0 (.ref it) .none (gEnv X scope s4.heap.objs.size code)))
  new : s4.heap.objs.size < a
  lt : a < s5.heap.objs.size
  keep : ∀ b o, s4.heap.get? b = some o → s5.heap.get? b = some o

theorem g_make {Q : Value → Shared → Prop} {R : It → Hp → Prop} (hr : Room k X.A) (TB : TabB X.base X.mg c P) (hcode : X.env.code = .ref c) (ok : CapOk X.N X.env.scope scope x cap) (hi : PI X (.Name x px) iter wi)
    (hs : ∀ v, genFold iter X.env v = pure v) (I : Inv X pins σ H s) (h : wi σ H fun J H1 => TabG H1 P ∧ R J H1)
    (hQ : ∀ a g s4 H1 H2 code it fp tn J s5, Made X pins σ x cap elt px iter ifs scope pos a g s4 H2 code it fp tn J s5 → Tabbed P H1 H2 → R J H1 → Q (.ref a) s5) :
    wpAny (model X.prog X.w) X.A (eval (gEx elt x px iter ifs scope pos) X.env) Q X.xe s := by
  have frees : ∀ y ∈ scope.names, y.2 = .free → ∃ c, X.env.cells.lookup y.1 = some c := fun y hy e => by
    rcases ok.free y hy e with q | q
    · exact I.ok.has _ (.inl q)
    · exact I.ok.has _ (.inr q)
  refine wpAny_GeneratorExp_make ok.co (closure_ok frees) ok.nocell ok.dot ok.kind hr.depth ?_ hs
  refine thn (hi.run pins s σ H _ I h) fun xv s1 hx => thn hx fun itv s2 h2 => ?_
  obtain ⟨it, fp, tn, J, H1, e, I2, T, st2, f2, ⟨ps, hP, htr⟩, hR⟩ := h2
  subst e
  have hPs : s2.heap.get? P = some { cls := .none, data := .fields ps } := I2.hok P _ hP
  have cd : PySem.W.CodeHd s2.heap c P := TB.code.keeps fun b u e => I2.bk b u e
  -- what follows from the code on
  have go : ∀ (code : Value) (h3 : Heap) (tk : Nat) (more : Array Value), Heap.ExtBut P s2.heap h3 → h3.get? P = some { cls := .none, data := .fields (ps ++ more) } → TriplesOk (ps ++ more).toList →
      wpAny (model X.prog X.w) X.A (builtinsFor X.env.globals X.env.builtins) (fun bi s4 => ∀ h', h'.Ns s4.heap.objs.size (fun y => if y = ".0" then some (.ref it) else none) →
        Heap.SameBut s4.heap.objs.size (s4.heap.push { cls := .type "frame", data := .dict #[] }) h' →
          Q (.ref h'.objs.size) { s4 with
            gens := s4.gens.push (.fresh (.compStart (gEx elt x px iter ifs scope pos) 0 (.ref it) .none (genEnv scope (cloFrom X.env.cells scope.names []) s4.heap.objs.size code bi X.env))),
            toks := s4.toks + 1 + 1 + 1,
            heap := h'.push { cls := .type "generator", data := .fields #[.int s4.gens.size 0, .str "<genexpr>" (s4.toks + 1), .str (X.env.qual ++ "<genexpr>") (s4.toks + 1 + 1)] } }) X.xe { s2 with heap := h3, toks := tk } := by
    intro code h3 tk more hx hP3 ht3
    obtain ⟨bm, ob, e1, e2, e3, e4, e5, e6, e7, e8⟩ := TB.bm
    have keep3 : ∀ b u, b ≠ P → s2.heap.get? b = some u → h3.get? b = some u := fun b u hb e => hx b u hb e
    refine wpAny_builtinsFor (m := X.mg) (by rw [I2.ok.glob]; exact (I2.mod.glob.keeps I2.bk).extBut hx TB.gP) e1 e2 (keep3 _ _ e4 (I2.bk _ _ e5)) e6 e7 e8 ?_
    intro h' hn' hs'
    have J4 : Inv X pins σ (upd H1 P (.tbl (ps ++ more))) { s2 with heap := h3, toks := tk } := inv_tab (g' := s2.gens) (d' := s2.drawn) (t' := tk) I2 hP (fun b u hb e => keep3 b u hb e) hP3 I2.bare
    have nP : ∀ b ∈ fp, b ≠ P := fun b hb z => by
      have q := (f2 b hb).1
      rw [z, hP] at q
      cases q
    have fpOk : ∀ b ∈ fp, FpOk X pins (upd H1 P (.tbl (ps ++ more))) b ∧ b < h3.objs.size := fun b hb => by
      obtain ⟨o, e, _⟩ := T.obj _ _ st2 b hb
      refine ⟨⟨?_, (f2 b hb).2⟩, Heap.lt_size (keep3 b o (nP b hb) e)⟩
      rw [upd_ne (nP b hb)]
      exact (f2 b hb).1
    have hsz : h'.objs.size = h3.objs.size + 1 := by rw [hs'.1, Heap.size_push]
    have keep' : ∀ b o, h3.get? b = some o → h'.get? b = some o := fun b o e => hs'.extBut b o (Nat.ne_of_lt (Heap.lt_size e)) (Heap.get?_push_of_some _ e)
    have keep5 : ∀ (o5 : Obj) b o, h3.get? b = some o → (h'.push o5).get? b = some o := fun o5 b o e => Heap.get?_push_of_some _ (keep' b o e)
    refine hQ _ s2.gens.size { s2 with heap := h3, toks := tk } H1 (upd H1 P (.tbl (ps ++ more))) code it fp tn J _ ⟨J4, T, fpOk, ?_, ?_, ?_, ?_, ?_, ?_, fun b o e => keep5 _ b o e⟩ ⟨⟨ps ++ more, upd_same, ht3⟩, fun b hb => upd_ne hb⟩ hR
    · exact g_start (s := { s2 with heap := h3, toks := tk }) J4 ok fpOk (fun b o e => keep5 _ b o e) (hn'.push _) (J4.bare.push rfl)
    · exact T.keep _ _ _ st2 fun b hb o e => keep5 _ b o (keep3 b o (nP b hb) e)
    · exact ⟨_, _, _, Heap.get?_push_size _ rfl, rfl, rfl, rfl⟩
    · exact Array.getElem?_push_size ..
    · show h3.objs.size < h'.objs.size
      omega
    · show h'.objs.size < (h'.push _).objs.size
      rw [Heap.size_push]
      exact Nat.lt_succ_self _
  refine ⟨I2.nolimit, ?_⟩
  cases hf : codeAmong pos ps.toList with
  | none =>
    refine wpAny_genexprCodeX hcode (cd.code hPs htr) (cd.tab hPs) hf fun c' h' tk hx hge hlt hco' _ htab' _ => ?_
    obtain ⟨o1, vs, f1, tf, fl, tg, inF, tx, tt, op, _, _, _, _, _, _, _, _, _, htr', _⟩ := hco'
    exact go _ h' tk _ hx htab'.2 htr'
  | some cv =>
    refine wpAny_genexprCode_hit hcode (cd.code hPs htr) hf ?_
    exact go cv s2.heap s2.toks #[] (Heap.ExtBut.refl _ _) (by simpa using hPs) (by simpa using htr)

/-- back in the def's context -/
theorem Made.back {a g : Addr} {s4 : Shared} {H2 : Hp} {code : Value} {it : Addr} {fp : List Addr} {tn : Nat → Heap → Prop} {J : It} {s5 s' : Shared} {pl : List (Addr × Obj)} {H' : Hp}
    (M : Made X pins σ x cap elt px iter ifs scope pos a g s4 H2 code it fp tn J s5) (I : Inv (gcx X s4 H2 x cap scope s4.heap.objs.size code fp) pl (none :: capV cap σ) H' s') : Inv X pins σ H' s' :=
  M.out.call' (ch := fp) I.os I.base I.hok I.bare fun b hb => ⟨(M.ok b hb).1.2.2.2.1, (M.ok b hb).1.2.1, (M.ok b hb).1.2.2.2.2.1, (M.ok b hb).1.2.2.2.2.2⟩
theorem Made.fr0 {a g : Addr} {s4 : Shared} {H2 : Hp} {code : Value} {it : Addr} {fp : List Addr} {tn : Nat → Heap → Prop} {J : It} {s5 : Shared} (ok : CapOk X.N X.env.scope scope x cap) (hc : X.calm = true)
    (M : Made X pins σ x cap elt px iter ifs scope pos a g s4 H2 code it fp tn J s5) : Fr0 (gcx X s4 H2 x cap scope s4.heap.objs.size code fp) X.A.in4.in1 x (capV cap σ) fp :=
  ⟨rfl, rfl, rfl, rfl, hc, ok.nd, rfl, ok.loc, ok.co, ok.kind, by show (x :: cap.map (·.1)).length = _; simp [capV_length]⟩
end
end GX
end

section
set_option Elab.async false
set_option linter.all false
set_option maxRecDepth 100000
set_option maxHeartbeats 4000000
/-! all and any of a generator expression. -/
namespace GX
open PySem PySem.Spec PyProof.Rows L2 GxR
section
variable {X : Cx} {pins : List (Addr × Obj)} {σ : L2.St} {H : Hp} {s : Shared}
variable {x : Str} {cap : List (Str × Nat)} {elt : Expr} {px : Pos} {iter : Expr} {ifs : List Expr} {scope : Scope} {pos : Pos} {c P : Addr} {k : Nat} {wi : TI} {tt : TT} {te : TE}
variable {a g : Addr} {s4 : Shared} {H2 : Hp} {code : Value} {it : Addr} {fp : List Addr} {tn : Nat → Heap → Prop} {J : It} {s5 : Shared}

/-- what may be pinned: laid behind the frame -/
theorem Made.pinOk (M : Made X pins σ x cap elt px iter ifs scope pos a g s4 H2 code it fp tn J s5) {l : List Addr} {H' : Hp} {s' : Shared} {σ' : L2.St} {pl : List (Addr × Obj)}
    (I : Inv (gcx X s4 H2 x cap scope s4.heap.objs.size code fp) pl σ' H' s') (hl : ∀ b ∈ l, s4.heap.objs.size < b ∧ H' b = none ∧ ∀ o, s'.heap.get? b = some o → ∀ v, o.data ≠ .cell v) :
    Inv (gcx X s4 H2 x cap scope s4.heap.objs.size code fp) (pinsAt l s'.heap) σ' H' s' := by
  refine I.pins_of fun p hp => ?_
  obtain ⟨hb, e⟩ := of_pinsAt hp
  obtain ⟨h1, h2, h3⟩ := hl p.1 hb
  refine ⟨e, h2, Nat.ne_of_gt h1, fun z => ?_, h3 _ e⟩
  have z : p.1 ∈ frs X.stack := z
  rcases List.mem_cons.mp (M.out.stkSub _ z) with q | q
  · have h4 := M.out.lt
    rw [← q] at h4
    exact absurd (Nat.lt_trans h4 h1) (Nat.lt_irrefl _)
  · exact M.out.nofs (Nat.le_of_lt h1) q

/-- the start of a walk -/
theorem Made.asleep (M : Made X pins σ x cap elt px iter ifs scope pos a g s4 H2 code it fp tn J s5) (ok : CapOk X.N X.env.scope scope x cap) (hc : X.calm = true) {D : Tell}
    (hl : ∀ b ∈ D.Ss, s4.heap.objs.size < b) (pt : PTs (gcx X s4 H2 x cap scope s4.heap.objs.size code fp) ifs tt) (pe : PE (gcx X s4 H2 x cap scope s4.heap.objs.size code fp) elt te) (turn : Turns D J tt te (capV cap σ))
    {m : Nat} {s : Shared} (hW : D.W [] 0 m H2) (hO : D.Own [] s.heap) (hA : At (gcx X s4 H2 x cap scope s4.heap.objs.size code fp) D (capV cap σ) fp tn 0 H2 s.heap s) (hg : s.heap.IsGen a g) (hgs : s.gens = s5.gens) :
    Asleep (gcx X s4 H2 x cap scope s4.heap.objs.size code fp) X.A.in4.in1 D (capV cap σ) fp tn a g (m + 1) s := by
  refine ⟨[], 0, m, H2, .fresh (.compStart (gEx elt x px iter ifs scope pos) 0 (.ref it) .none (gEnv X scope s4.heap.objs.size code)), Nat.lt_succ_self _, hW, hO, hA, hg, by rw [hgs]; exact M.gs, fun s2 m2 H3 hm hW2 hO2 hA2 => ⟨rfl, ?_⟩⟩
  exact g_first (M.fr0 ok hc) M.T (fun b hb z => absurd (Nat.lt_trans (hl b hb) (M.ok b z).2) (Nat.lt_irrefl _)) pt pe turn m2 (m + 1) [] 0 H3 s2 s2 (Nat.lt_succ_of_le hm) hW2 hO2 hA2

/-- the consumer keeps nothing -/
abbrev tellA (a : Addr) (W : List V → Nat → Nat → Hp → Prop) (Yd : List V → V → Nat → Nat → Hp → Prop) (Zd : List V → Hp → Prop) : Tell := ⟨[a], fun _ _ => True, W, Yd, Zd⟩
theorem owns_a {W Yd Zd} : Owns (tellA a W Yd Zd) a := ⟨fun _ _ _ _ _ => trivial, fun _ _ _ b hb ne => absurd (List.mem_singleton.mp hb) ne, List.mem_singleton.mpr rfl⟩

theorem Made.a_ok (M : Made X pins σ x cap elt px iter ifs scope pos a g s4 H2 code it fp tn J s5) : s4.heap.objs.size < a ∧ H2 a = none ∧ ∀ o, s5.heap.get? a = some o → ∀ v, o.data ≠ .cell v := by
  refine ⟨M.new, M.out.hok.fresh (Nat.le_of_lt M.new), fun o e v z => ?_⟩
  obtain ⟨o', _, _, e', _, d, _⟩ := M.gen
  rw [e] at e'
  cases e'
  rw [d] at z
  cases z

section loops
variable {Y : Cx} {B : Around} {cv : L2.St} {W : List V → Nat → Nat → Hp → Prop} {Yd : List V → V → Nat → Nat → Hp → Prop} {Zd : List V → Hp → Prop} {R : Result → Shared → Prop}
theorem all_loop (hP : Y.prog = X.prog) (hw : Y.w = X.w) (hB : B = X.A.in4.in1) (hroom : X.A.depth < recursionLimit) (hh : X.A.handled = none)
    (hY : ∀ ys y i m H s', Yd ys y i m H → Inv Y (pinsAt [a] s'.heap) (none :: cv) H s' → ∃ b, y = .bl b ∧ (b = true → ∃ m2, m2 < m ∧ W (ys ++ [y]) (i + 1) m2 H) ∧ (b = false → R (.ok (.ret (.bool false))) s'))
    (hZ : ∀ ys H s', Zd ys H → Inv Y (pinsAt [a] s'.heap) (none :: cv) H s' → R (.ok (.ret (.bool true))) s') :
    ∀ (n : Nat) (s : Shared), Asleep Y B (tellA a W Yd Zd) cv fp tn a g (n + 1) s → codeAny (model X.prog X.w) X.A (.builtin "all.loop" ⟨[.ref a], []⟩) R s := by
  intro n
  induction n with
  | zero =>
    intro s h
    refine codeAny_builtin F.entry_all_loop ?_
    rw [Around.under_plainId F.plain_all_loop _, ← hP, ← hw]
    refine wpAny_bind (g_next1 (X := X) hB hroom hh owns_a h (fun ys y v i m H s' rv _ G => ?_) fun ys H s' _ O => ?_)
    · obtain ⟨b, rfl, h1, h2⟩ := hY ys y i m H s' G.2.2.1 G.2.2.2.1.inv
      obtain rfl : v = Value.bool b := rv
      refine wpAny_bind (wpAny_holding (wpAny_truthy_bool (wpAny_bind (wpAny_letGo ?_))))
      cases b with
      | true =>
        obtain ⟨m2, hm, w2⟩ := h1 rfl
        obtain ⟨n', e, _⟩ := GX.again G hm w2 trivial
        cases e
      | false =>
        simp only [Bool.false_eq_true, if_false]
        exact wpAny_bind (wpAny_rule (wpAny_pure (h2 rfl)))
    · exact wpAny_bind (wpAny_rule (wpAny_pure (hZ ys H s' O.2.1 O.2.2)))
  | succ n ih =>
    intro s h
    refine codeAny_builtin F.entry_all_loop ?_
    rw [Around.under_plainId F.plain_all_loop _, ← hP, ← hw]
    refine wpAny_bind (g_next1 (X := X) hB hroom hh owns_a h (fun ys y v i m H s' rv _ G => ?_) fun ys H s' _ O => ?_)
    · obtain ⟨b, rfl, h1, h2⟩ := hY ys y i m H s' G.2.2.1 G.2.2.2.1.inv
      obtain rfl : v = Value.bool b := rv
      refine wpAny_bind (wpAny_holding (wpAny_truthy_bool (wpAny_bind (wpAny_letGo ?_))))
      cases b with
      | true =>
        obtain ⟨m2, hm, w2⟩ := h1 rfl
        obtain ⟨n', e, S⟩ := GX.again G hm w2 trivial
        cases e
        simp only [if_true]
        rw [hP, hw]
        exact wpAny_pure ⟨plainId_quiet F.plain_all_loop _, ih _ S⟩
      | false =>
        simp only [Bool.false_eq_true, if_false]
        exact wpAny_bind (wpAny_rule (wpAny_pure (h2 rfl)))
    · exact wpAny_bind (wpAny_rule (wpAny_pure (hZ ys H s' O.2.1 O.2.2)))
theorem any_loop (hP : Y.prog = X.prog) (hw : Y.w = X.w) (hB : B = X.A.in4.in1) (hroom : X.A.depth < recursionLimit) (hh : X.A.handled = none)
    (hY : ∀ ys y i m H s', Yd ys y i m H → Inv Y (pinsAt [a] s'.heap) (none :: cv) H s' → ∃ b, y = .bl b ∧ (b = false → ∃ m2, m2 < m ∧ W (ys ++ [y]) (i + 1) m2 H) ∧ (b = true → R (.ok (.ret (.bool true))) s'))
    (hZ : ∀ ys H s', Zd ys H → Inv Y (pinsAt [a] s'.heap) (none :: cv) H s' → R (.ok (.ret (.bool false))) s') :
    ∀ (n : Nat) (s : Shared), Asleep Y B (tellA a W Yd Zd) cv fp tn a g (n + 1) s → codeAny (model X.prog X.w) X.A (.builtin "any.loop" ⟨[.ref a], []⟩) R s := by
  intro n
  induction n with
  | zero =>
    intro s h
    refine codeAny_builtin F.entry_any_loop ?_
    rw [Around.under_plainId F.plain_any_loop _, ← hP, ← hw]
    refine wpAny_bind (g_next1 (X := X) hB hroom hh owns_a h (fun ys y v i m H s' rv _ G => ?_) fun ys H s' _ O => ?_)
    · obtain ⟨b, rfl, h1, h2⟩ := hY ys y i m H s' G.2.2.1 G.2.2.2.1.inv
      obtain rfl : v = Value.bool b := rv
      refine wpAny_bind (wpAny_holding (wpAny_truthy_bool (wpAny_bind (wpAny_letGo ?_))))
      cases b with
      | false =>
        obtain ⟨m2, hm, w2⟩ := h1 rfl
        obtain ⟨n', e, _⟩ := GX.again G hm w2 trivial
        cases e
      | true =>
        simp only [if_true]
        exact wpAny_bind (wpAny_rule (wpAny_pure (h2 rfl)))
    · exact wpAny_bind (wpAny_rule (wpAny_pure (hZ ys H s' O.2.1 O.2.2)))
  | succ n ih =>
    intro s h
    refine codeAny_builtin F.entry_any_loop ?_
    rw [Around.under_plainId F.plain_any_loop _, ← hP, ← hw]
    refine wpAny_bind (g_next1 (X := X) hB hroom hh owns_a h (fun ys y v i m H s' rv _ G => ?_) fun ys H s' _ O => ?_)
    · obtain ⟨b, rfl, h1, h2⟩ := hY ys y i m H s' G.2.2.1 G.2.2.2.1.inv
      obtain rfl : v = Value.bool b := rv
      refine wpAny_bind (wpAny_holding (wpAny_truthy_bool (wpAny_bind (wpAny_letGo ?_))))
      cases b with
      | false =>
        obtain ⟨m2, hm, w2⟩ := h1 rfl
        obtain ⟨n', e, S⟩ := GX.again G hm w2 trivial
        cases e
        simp only [Bool.false_eq_true, if_false]
        rw [hP, hw]
        exact wpAny_pure ⟨plainId_quiet F.plain_any_loop _, ih _ S⟩
      | true =>
        simp only [if_true]
        exact wpAny_bind (wpAny_rule (wpAny_pure (h2 rfl)))
    · exact wpAny_bind (wpAny_rule (wpAny_pure (hZ ys H s' O.2.1 O.2.2)))
end loops

/-- all(elt for x in iter if ..): P the table of the running def's code -/
def tAllG (P : Addr) (cap : List (Str × Nat)) (wi : TI) (tt : TT) (te : TE) : TE := fun σ H Q => wi σ H fun J H1 => TabG H1 P ∧ ∀ H2, Tabbed P H1 H2 → ∃ W : Nat → Nat → Hp → Prop, (∃ m, W 0 m H2) ∧ ∀ i m H, W i m H →
  (J.stop i H ∧ Q (.bl true) H) ∨ (J.go i H ∧ ∃ Nx : Hp → Prop, (∀ H', Nx H' → ∃ m', m' < m ∧ W (i + 1) m' H') ∧
    ∀ v H', J.yld i H v H' → tt (some v :: capV cap σ) H' fun b H3 => if b = true then te (some v :: capV cap σ) H3 fun y H4 => ∃ z, y = .bl z ∧ (z = true → Nx H4) ∧ (z = false → Q (.bl false) H4) else Nx H3)
def tAnyG (P : Addr) (cap : List (Str × Nat)) (wi : TI) (tt : TT) (te : TE) : TE := fun σ H Q => wi σ H fun J H1 => TabG H1 P ∧ ∀ H2, Tabbed P H1 H2 → ∃ W : Nat → Nat → Hp → Prop, (∃ m, W 0 m H2) ∧ ∀ i m H, W i m H →
  (J.stop i H ∧ Q (.bl false) H) ∨ (J.go i H ∧ ∃ Nx : Hp → Prop, (∀ H', Nx H' → ∃ m', m' < m ∧ W (i + 1) m' H') ∧
    ∀ v H', J.yld i H v H' → tt (some v :: capV cap σ) H' fun b H3 => if b = true then te (some v :: capV cap σ) H3 fun y H4 => ∃ z, y = .bl z ∧ (z = false → Nx H4) ∧ (z = true → Q (.bl true) H4) else Nx H3)

variable {p cpos : Pos}
theorem pe_allG (hr : Room k X.A) (hc : X.calm = true) (hg : Gl X "all") (hm : X.mg "all" = none) (TB : TabB X.base X.mg c P) (hcode : X.env.code = .ref c) (ok : CapOk X.N X.env.scope scope x cap) (hi : PI X (.Name x px) iter wi)
    (ht : ∀ (s : Shared) (H : Hp) (C : Addr) (code : Value) (fp : List Addr), PTs (gcx X s H x cap scope C code fp) ifs tt) (he : ∀ (s : Shared) (H : Hp) (C : Addr) (code : Value) (fp : List Addr), PE (gcx X s H x cap scope C code fp) elt te)
    (hs : ∀ v, genFold iter X.env v = pure v := by intro _; rfl)
    (hst : starEach [gEx elt x px iter ifs scope pos] X.env = (false, eval (gEx elt x px iter ifs scope pos) X.env) :: starEach [] X.env := by rfl) :
    PE X (.Call (.Name "all" p) [gEx elt x px iter ifs scope pos] [] cpos) (tAllG P cap wi tt te) := by
  refine ⟨fun pins s σ H Q I h => ?_⟩
  refine wpAny_Call_Name_kw (ld_blt I hg hm (show bootBuiltins "all" = some (.builtin "all") by decide +kernel) ?_)
  refine PyProof.Rows.callWith_builtin1 ?_ hst (by rfl)
  rw [hst]
  show wpAny _ _ (spliced ((false, eval (gEx elt x px iter ifs scope pos) X.env) :: backTo cpos (starEach [] X.env))) _ _ s
  refine Calls.spliced_cons (g_make hr TB hcode ok hi hs I h fun a g s4 H1 H2 code it fp tn J s5 M hT hR => ?_)
  refine Calls.spliced_nil ?_
  obtain ⟨W, ⟨m0, w0⟩, turn⟩ := hR H2 hT
  refine call_function_tree F.kind_all F.plain_all F.entry_all (F.args_all1 _) ?_
  unfold Builtin.«all»
  refine wpAny_bind (m := oneArg "all" _) (wpAny_pure ?_)
  refine wpAny_bind (wpAny_pyIter_gen M.gen ?_)
  have S : Asleep (gcx X s4 H2 x cap scope s4.heap.objs.size code fp) X.A.in4.in1 (tellA a (fun _ => W) (fun _ y i m H => ∃ z, y = .bl z ∧ (z = true → ∃ m', m' < m ∧ W (i + 1) m' H) ∧ (z = false → Q (.bl false) H)) (fun _ H => Q (.bl true) H)) (capV cap σ) fp tn a g (m0 + 1) s5 := by
    refine M.asleep ok hc (fun b hb => by rw [List.mem_singleton.mp hb]; exact M.new) (ht ..) (he ..) (fun ys i m H w => ?_) w0 trivial ⟨M.pinOk M.inn fun b hb => by rw [List.mem_singleton.mp hb]; exact M.a_ok, M.st, fun b hb => (M.ok b hb).1.1⟩ M.gen rfl
    rcases turn i m H w with ⟨st, q⟩ | ⟨gg, Nx, hN, q⟩
    · exact .inl ⟨st, q⟩
    · exact .inr ⟨gg, Nx, _, hN, fun y H' ⟨z, e, h1, h2⟩ => ⟨z, e, fun q => hN H' (h1 q), h2⟩, q⟩
  refine wpAny_pure ⟨plainId_quiet F.plain_all_loop _, all_loop (X := X) (Y := gcx X s4 H2 x cap scope s4.heap.objs.size code fp) rfl rfl rfl hr.depth hr.hd (fun ys y i m H s' hyd I' => ?_) (fun ys H s' q I' => ?_) m0 s5 S⟩
  · obtain ⟨z, e, h1, h2⟩ := hyd
    exact ⟨z, e, h1, fun q => ⟨.bl false, H, M.back I', rfl, h2 q⟩⟩
  · exact ⟨.bl true, H, M.back I', rfl, q⟩
theorem pe_anyG (hr : Room k X.A) (hc : X.calm = true) (hg : Gl X "any") (hm : X.mg "any" = none) (TB : TabB X.base X.mg c P) (hcode : X.env.code = .ref c) (ok : CapOk X.N X.env.scope scope x cap) (hi : PI X (.Name x px) iter wi)
    (ht : ∀ (s : Shared) (H : Hp) (C : Addr) (code : Value) (fp : List Addr), PTs (gcx X s H x cap scope C code fp) ifs tt) (he : ∀ (s : Shared) (H : Hp) (C : Addr) (code : Value) (fp : List Addr), PE (gcx X s H x cap scope C code fp) elt te)
    (hs : ∀ v, genFold iter X.env v = pure v := by intro _; rfl)
    (hst : starEach [gEx elt x px iter ifs scope pos] X.env = (false, eval (gEx elt x px iter ifs scope pos) X.env) :: starEach [] X.env := by rfl) :
    PE X (.Call (.Name "any" p) [gEx elt x px iter ifs scope pos] [] cpos) (tAnyG P cap wi tt te) := by
  refine ⟨fun pins s σ H Q I h => ?_⟩
  refine wpAny_Call_Name_kw (ld_blt I hg hm (show bootBuiltins "any" = some (.builtin "any") by decide +kernel) ?_)
  refine PyProof.Rows.callWith_builtin1 ?_ hst (by rfl)
  rw [hst]
  show wpAny _ _ (spliced ((false, eval (gEx elt x px iter ifs scope pos) X.env) :: backTo cpos (starEach [] X.env))) _ _ s
  refine Calls.spliced_cons (g_make hr TB hcode ok hi hs I h fun a g s4 H1 H2 code it fp tn J s5 M hT hR => ?_)
  refine Calls.spliced_nil ?_
  obtain ⟨W, ⟨m0, w0⟩, turn⟩ := hR H2 hT
  refine call_function_tree F.kind_any F.plain_any F.entry_any (F.args_any1 _) ?_
  unfold Builtin.«any»
  refine wpAny_bind (m := oneArg "any" _) (wpAny_pure ?_)
  refine wpAny_bind (wpAny_pyIter_gen M.gen ?_)
  have S : Asleep (gcx X s4 H2 x cap scope s4.heap.objs.size code fp) X.A.in4.in1 (tellA a (fun _ => W) (fun _ y i m H => ∃ z, y = .bl z ∧ (z = false → ∃ m', m' < m ∧ W (i + 1) m' H) ∧ (z = true → Q (.bl true) H)) (fun _ H => Q (.bl false) H)) (capV cap σ) fp tn a g (m0 + 1) s5 := by
    refine M.asleep ok hc (fun b hb => by rw [List.mem_singleton.mp hb]; exact M.new) (ht ..) (he ..) (fun ys i m H w => ?_) w0 trivial ⟨M.pinOk M.inn fun b hb => by rw [List.mem_singleton.mp hb]; exact M.a_ok, M.st, fun b hb => (M.ok b hb).1.1⟩ M.gen rfl
    rcases turn i m H w with ⟨st, q⟩ | ⟨gg, Nx, hN, q⟩
    · exact .inl ⟨st, q⟩
    · exact .inr ⟨gg, Nx, _, hN, fun y H' ⟨z, e, h1, h2⟩ => ⟨z, e, fun q => hN H' (h1 q), h2⟩, q⟩
  refine wpAny_pure ⟨plainId_quiet F.plain_any_loop _, any_loop (X := X) (Y := gcx X s4 H2 x cap scope s4.heap.objs.size code fp) rfl rfl rfl hr.depth hr.hd (fun ys y i m H s' hyd I' => ?_) (fun ys H s' q I' => ?_) m0 s5 S⟩
  · obtain ⟨z, e, h1, h2⟩ := hyd
    exact ⟨z, e, h1, fun q => ⟨.bl true, H, M.back I', rfl, h2 q⟩⟩
  · exact ⟨.bl false, H, M.back I', rfl, q⟩
end
end GX
end

section
set_option Elab.async false
set_option linter.all false
set_option maxRecDepth 100000
set_option maxHeartbeats 4000000
/-! Consumers that keep a list: sum, max, tuple of a generator expression. -/
namespace GX
open PySem PySem.Spec PyProof.Rows L2 GxR

/-- the consumer's list -/
abbrev lo (acc : Array Value) (n : Nat) : Obj := { cls := .type "list", dict := none, data := .seq acc n, slots := #[] }
/-- the consumer keeps a list at S -/
abbrev tellS (a S : Addr) (OwnR : List V → Array Value → Prop) (W : List V → Nat → Nat → Hp → Prop) (Yd : List V → V → Nat → Nat → Hp → Prop) (Zd : List V → Hp → Prop) : Tell :=
  ⟨[a, S], fun ys h => ∃ acc n, h.get? S = some (lo acc n) ∧ OwnR ys acc, W, Yd, Zd⟩
section
variable {a S g : Addr} {OwnR : List V → Array Value → Prop} {W : List V → Nat → Nat → Hp → Prop} {Yd : List V → V → Nat → Nat → Hp → Prop} {Zd : List V → Hp → Prop}
variable {Y : Cx} {B : Around} {cv : L2.St} {fp : List Addr} {tn : Nat → Heap → Prop}
theorem owns_s : Owns (tellS a S OwnR W Yd Zd) a := by
  refine ⟨fun ys h h' ⟨acc, n, e, q⟩ k => ⟨acc, n, k S (by simp) _ e, q⟩, fun ys h ⟨acc, n, e, q⟩ b hb ne => ?_, by simp⟩
  rcases List.mem_cons.mp hb with z | z
  · exact absurd z ne
  · rw [List.mem_singleton.mp z]
    exact ⟨_, e⟩

/-- the consumer's list has changed -/
theorem inv_put {H : Hp} {s : Shared} {h' : Heap} {tk : Nat} {acc : Array Value} {n n' : Nat} {acc' : Array Value} (hpn : Y.pn = []) (hSY : Y.s_0.heap.objs.size ≤ S) (hne : S ≠ a)
    (I : Inv Y (pinsAt [a, S] s.heap) (none :: cv) H s) (hS : s.heap.get? S = some (lo acc n)) (ha : ∃ o, s.heap.get? a = some o)
    (k : ∀ b o, b ≠ S → s.heap.get? b = some o → h'.get? b = some o) (hS' : h'.get? S = some (lo acc' n')) : Inv Y (pinsAt [a, S] h') (none :: cv) H { s with heap := h', toks := tk } := by
  obtain ⟨_, pS2, pS3, pS4, pS5⟩ := I.pin (S, lo acc n) (List.mem_append_right _ (mem_pinsAt (by simp) hS))
  obtain ⟨oa, ea⟩ := ha
  obtain ⟨_, pa2, pa3, pa4, pa5⟩ := I.pin (a, oa) (List.mem_append_right _ (mem_pinsAt (by simp) ea))
  have I0 : Inv Y [] (none :: cv) H s := I.pins_of fun p hp => nomatch hp
  have I1 : Inv Y [] (none :: cv) H { s with heap := h', toks := tk } := by
    refine I0.turned (t' := tk) k pS2 pS3 (.inr hSY) (fun x c e z => ?_) fun p hp => ?_
    · obtain ⟨v, o, e1, e2⟩ := I.cell x c e
      rw [z, hS] at e1
      cases e1
      cases e2
    · rw [hpn] at hp
      cases hp
  refine I1.pins_of fun p hp => ?_
  obtain ⟨hb, e⟩ := of_pinsAt hp
  rcases List.mem_cons.mp hb with z | z
  · rw [z] at e ⊢
    have e' := k a oa (fun q => hne q.symm) ea
    rw [show h'.get? a = some p.2 from e] at e'
    cases e'
    exact ⟨e, pa2, pa3, pa4, pa5⟩
  · have z := List.mem_singleton.mp z
    rw [z] at e ⊢
    have e2 : h'.get? S = some p.2 := e
    rw [hS'] at e2
    have e3 : p.2 = lo acc' n' := (Option.some.inj e2).symm
    exact ⟨e, pS2, pS3, pS4, fun v q => by rw [e3] at q; cases q⟩
/-- the consumer has put its list anew and goes on -/
theorem again_s {D : Tell} {J : It} {it : Addr} {P : Program} {w : World} {K : PySem.W.Frag} {tg : Expr} (hD : D = tellS a S OwnR W Yd Zd) (T : Turn P w K tg J fp it tn) (hpn : Y.pn = []) (hSY : Y.s_0.heap.objs.size ≤ S) (hne : S ≠ a) (hSf : S ∉ fp)
    {n : Nat} {ys : List V} {y : V} {i m m2 : Nat} {H : Hp} {s : Shared} {h' : Heap} {tk : Nat} {acc' : Array Value} {n' : Nat} (G : Given Y B D cv fp tn a g n ys y i m H s)
    (k : ∀ b o, b ≠ S → s.heap.get? b = some o → h'.get? b = some o) (hS' : h'.get? S = some (lo acc' n')) (hO : OwnR (ys ++ [y]) acc') (hm : m2 < m) (hW : W (ys ++ [y]) (i + 1) m2 H) :
    ∃ n2, n = n2 + 1 ∧ Asleep Y B D cv fp tn a g (n2 + 1) { s with heap := h', toks := tk } := by
  subst hD
  obtain ⟨h1, ⟨acc, n0, hS, _⟩, _, h4, ⟨oa, nm, qn, ho, r⟩, gs, h6, h7⟩ := G
  obtain ⟨n2, rfl⟩ : ∃ n2, n = n2 + 1 := ⟨n - 1, by omega⟩
  have hO' : (tellS a S OwnR W Yd Zd).Own (ys ++ [y]) h' := ⟨acc', n', hS', hO⟩
  refine ⟨n2, rfl, ys ++ [y], i + 1, m2, H, gs, by omega, hW, hO', ⟨inv_put hpn hSY hne h4.inv hS ⟨oa, ho⟩ k hS', ?_, h4.fpn⟩, ⟨oa, nm, qn, k a oa (fun q => hne q.symm) ho, r⟩, h6, fun s2 m3 H2 hm3 w3 o3 a3 => h7 s2 m3 H2 (by omega) w3 o3 a3⟩
  exact T.keep _ _ _ h4.tn fun b hb o e => k b o (fun z => hSf (by rw [← z]; exact hb)) e

/-! ### sum -/
def OwnSum : List V → Array Value → Prop := fun ys acc => ∃ (js : List Int) (t : Tok), ys = js.map V.int ∧ acc = #[.int js.sum t]
theorem sum_loop {X : Cx} {J : It} {it : Addr} {P : Program} {w : World} {K : PySem.W.Frag} {tg : Expr} {R : Result → Shared → Prop} (T : Turn P w K tg J fp it tn) (hP : Y.prog = X.prog) (hw : Y.w = X.w) (hB : B = X.A.in4.in1) (hroom : X.A.depth < recursionLimit) (hh : X.A.handled = none)
    (hpn : Y.pn = []) (hSY : Y.s_0.heap.objs.size ≤ S) (hne : S ≠ a) (hSf : S ∉ fp)
    (hY : ∀ ys y i m H, Yd ys y i m H → ∃ j, y = .int j ∧ ∃ m2, m2 < m ∧ W (ys ++ [y]) (i + 1) m2 H)
    (hZ : ∀ (js : List Int) H s' t pl, Zd (js.map V.int) H → Inv Y pl (none :: cv) H s' → R (.ok (.ret (.int js.sum t))) s') :
    ∀ (n : Nat) (st : Int) (s : Shared), (st = 0 ∨ st = 2) → Asleep Y B (tellS a S OwnSum W Yd Zd) cv fp tn a g (n + 1) s → codeAny (model X.prog X.w) X.A (.builtin "sum.loop" ⟨[.ref a, .ref S, rawInt st, rawInt 0], []⟩) R s := by
  intro n
  induction n with
  | zero =>
    intro st s hst h
    obtain ⟨acc0, n0, hS0, js0, t0, _, ea0⟩ : ∃ acc n, s.heap.get? S = some (lo acc n) ∧ ∃ (js : List Int) (t : Tok), True ∧ acc = #[.int js.sum t] := by
      obtain ⟨ys, i, m, H, gs, _, _, ⟨acc, n, e, js, t, _, e2⟩, _⟩ := h
      exact ⟨acc, n, e, js, t, trivial, e2⟩
    subst ea0
    refine codeAny_builtin F.entry_sum_loop ?_
    rw [Around.under_plainId F.plain_sum_loop _, ← hP, ← hw]
    refine wpAny_bind (wpAny_seqItems hS0 rfl ?_)
    refine wpAny_bind (wpAny_tryCatch (g_next1 (X := X) hB hroom hh owns_s h (fun ys y v i m H s' rv kp G => ?_) fun ys H s' kp O => ?_))
    · obtain ⟨j, _, m2, hm, w2⟩ := hY ys y i m H G.2.2.1
      have := G.1
      omega
    · obtain ⟨⟨acc, n1, e1, js, t, e2, e3⟩, z, I'⟩ := O
      have e4 := kp S (by simp) _ hS0
      rw [e1] at e4
      have e5 : acc = #[.int js0.sum t0] := by
        have := congrArg Obj.data (Option.some.inj e4)
        injection this
      rw [e3] at e5
      have e6 : Value.int js.sum t = Value.int js0.sum t0 := by simpa using e5
      injection e6 with e7 e8
      subst e2
      refine wpAny_pure ?_
      rw [← e7]
      exact hZ js H s' _ _ z I'
  | succ n ih =>
    intro st s hst h
    obtain ⟨acc0, n0, hS0, js0, t0, _, ea0⟩ : ∃ acc n, s.heap.get? S = some (lo acc n) ∧ ∃ (js : List Int) (t : Tok), True ∧ acc = #[.int js.sum t] := by
      obtain ⟨ys, i, m, H, gs, _, _, ⟨acc, n, e, js, t, _, e2⟩, _⟩ := h
      exact ⟨acc, n, e, js, t, trivial, e2⟩
    subst ea0
    refine codeAny_builtin F.entry_sum_loop ?_
    rw [Around.under_plainId F.plain_sum_loop _, ← hP, ← hw]
    refine wpAny_bind (wpAny_seqItems hS0 rfl ?_)
    refine wpAny_bind (wpAny_tryCatch (g_next1 (X := X) hB hroom hh owns_s h (fun ys y v i m H s' rv kp G => ?_) fun ys H s' kp O => ?_))
    · obtain ⟨j, rfl, m2, hm, w2⟩ := hY ys y i m H G.2.2.1
      obtain ⟨t, rfl⟩ := rv
      obtain ⟨acc, n1, e1, js, t1, e2, e3⟩ := G.2.1
      have hS' := kp S (by simp) _ hS0
      have e4 := hS'
      rw [e1] at e4
      have e5 : acc = #[.int js0.sum t0] := by
        have := congrArg Obj.data (Option.some.inj e4)
        injection this
      rw [e3] at e5
      have e6 : Value.int js.sum t1 = Value.int js0.sum t0 := by simpa using e5
      injection e6 with e7 e8
      have own : ∀ tk, OwnSum (ys ++ [V.int j]) #[.int (js0.sum + j) tk] := fun tk => ⟨js ++ [j], tk, by rw [e2, List.map_append]; rfl, by rw [List.sum_append, e7]; simp⟩
      have step : ∀ (h' : Heap) (tk : Nat) (tk2 : Tok) (n' : Nat), (∀ b o, b ≠ S → s'.heap.get? b = some o → h'.get? b = some o) → h'.get? S = some (lo #[.int (js0.sum + j) tk2] n') → Asleep Y B (tellS a S OwnSum W Yd Zd) cv fp tn a g (n + 1) { s' with heap := h', toks := tk } := fun h' tk tk2 n' k e => by
        obtain ⟨n2, en, A'⟩ := again_s rfl T hpn hSY hne hSf G k e (own tk2) hm w2 (tk := tk)
        cases en
        exact A'
      have oth : ∀ {b : Addr}, b ≠ S → S ≠ b := fun h q => h q.symm
      rcases hst with rfl | rfl
      · show wpAny _ X.A.in1 (if (_ : Bool) = true then (mkInt (js0.sum + j) >>= _) else _) _ _ _
        split
        · refine wpAny_bind (wpAny_mkInt ?_)
          refine wpAny_bind (wpAny_updateSeq hS' rfl (wpAny_pure ?_))
          rw [hP, hw]
          exact ⟨plainId_quiet F.plain_sum_loop _, ih 0 _ (.inl rfl) (step _ _ _ _ (fun b o hb e => (Heap.get?_update_other _ _ (oth hb)).trans e) (Heap.get?_update_self _ hS' rfl))⟩
        · refine wpAny_bind (wpAny_rule (wpAny_bind (wpAny_attempt (wpAny_holding (wpAny_add_int ?_)))))
          show wpAny _ X.A.in1 (updateSeq S (fun _ => #[.int (js0.sum + j) s'.toks]) >>= _) _ _ _
          refine wpAny_bind (wpAny_updateSeq hS' rfl ?_)
          have hS2 := Heap.get?_update_self (Obj.mapSeq fun _ => #[Value.int (js0.sum + j) s'.toks]) hS' rfl
          refine wpAny_bind (wpAny_letGo (wpAny_bind (wpAny_updateSeq hS2 rfl (wpAny_pure ?_))))
          rw [hP, hw]
          exact ⟨plainId_quiet F.plain_sum_loop _, ih 2 _ (.inr rfl) (step _ _ _ _ (fun b o hb e => (Heap.get?_update_other _ _ (oth hb)).trans ((Heap.get?_update_other _ _ (oth hb)).trans e)) (Heap.get?_update_self _ hS2 rfl))⟩
      · refine wpAny_bind (wpAny_attempt (wpAny_holding (wpAny_add_int ?_)))
        show wpAny _ X.A.in1 (updateSeq S (fun _ => #[.int (js0.sum + j) s'.toks]) >>= _) _ _ _
        refine wpAny_bind (wpAny_updateSeq hS' rfl ?_)
        have hS2 := Heap.get?_update_self (Obj.mapSeq fun _ => #[Value.int (js0.sum + j) s'.toks]) hS' rfl
        refine wpAny_bind (wpAny_letGo (wpAny_bind (wpAny_updateSeq hS2 rfl (wpAny_pure ?_))))
        rw [hP, hw]
        exact ⟨plainId_quiet F.plain_sum_loop _, ih 2 _ (.inr rfl) (step _ _ _ _ (fun b o hb e => (Heap.get?_update_other _ _ (oth hb)).trans ((Heap.get?_update_other _ _ (oth hb)).trans e)) (Heap.get?_update_self _ hS2 rfl))⟩
    · obtain ⟨⟨acc, n1, e1, js, t, e2, e3⟩, z, I'⟩ := O
      have e4 := kp S (by simp) _ hS0
      rw [e1] at e4
      have e5 : acc = #[.int js0.sum t0] := by
        have := congrArg Obj.data (Option.some.inj e4)
        injection this
      rw [e3] at e5
      have e6 : Value.int js.sum t = Value.int js0.sum t0 := by simpa using e5
      injection e6 with e7 e8
      subst e2
      refine wpAny_pure ?_
      rw [← e7]
      exact hZ js H s' _ _ z I'
end
end GX
end

section
set_option Elab.async false
set_option linter.all false
set_option maxRecDepth 100000
set_option maxHeartbeats 4000000
/-! sum(..), max(..), tuple(..) of a generator expression, as rules. -/
namespace GX
open PySem PySem.Spec PyProof.Rows L2 GxR
section
variable {X : Cx} {pins : List (Addr × Obj)} {σ : L2.St} {H : Hp} {s : Shared}
variable {x : Str} {cap : List (Str × Nat)} {elt : Expr} {px : Pos} {iter : Expr} {ifs : List Expr} {scope : Scope} {pos : Pos} {c P : Addr} {k : Nat} {wi : TI} {tt : TT} {te : TE}
variable {p cpos : Pos}

theorem map_int_inj : ∀ {a b : List Int}, a.map V.int = b.map V.int → a = b
  | [], [], _ => rfl
  | [], _ :: _, h => by cases h
  | _ :: _, [], h => by cases h
  | a :: l, b :: r, h => by
    injection h with h1 h2
    injection h1 with h1
    rw [h1, map_int_inj h2]

/-- sum(elt for x in iter if ..), the elements ints -/
def tSumG (P : Addr) (cap : List (Str × Nat)) (wi : TI) (tt : TT) (te : TE) : TE := fun σ H Q => wi σ H fun J H1 => TabG H1 P ∧ ∀ H2, Tabbed P H1 H2 → ∃ W : List Int → Nat → Nat → Hp → Prop, (∃ m, W [] 0 m H2) ∧ ∀ js i m H, W js i m H →
  (J.stop i H ∧ Q (.int js.sum) H) ∨ (J.go i H ∧ ∃ (Nx : Hp → Prop) (Ny : Int → Hp → Prop), (∀ H', Nx H' → ∃ m', m' < m ∧ W js (i + 1) m' H') ∧ (∀ j H', Ny j H' → ∃ m', m' < m ∧ W (js ++ [j]) (i + 1) m' H') ∧
    ∀ v H', J.yld i H v H' → tt (some v :: capV cap σ) H' fun b H3 => if b = true then te (some v :: capV cap σ) H3 fun y H4 => ∃ j, y = .int j ∧ Ny j H4 else Nx H3)

/-- the state behind the consumer's new list -/
theorem Made.at_list {a g : Addr} {s4 : Shared} {H2 : Hp} {code : Value} {it : Addr} {fp : List Addr} {tn : Nat → Heap → Prop} {J : It} {s5 : Shared} {acc : Array Value} {n tk : Nat}
    (M : Made X pins σ x cap elt px iter ifs scope pos a g s4 H2 code it fp tn J s5) {OwnR W Yd Zd} :
    At (gcx X s4 H2 x cap scope s4.heap.objs.size code fp) (tellS a s5.heap.objs.size OwnR W Yd Zd) (capV cap σ) fp tn 0 H2 (s5.heap.push (lo acc n)) { s5 with heap := s5.heap.push (lo acc n), toks := tk } := by
  have kp : ∀ b o, s5.heap.get? b = some o → (s5.heap.push (lo acc n)).get? b = some o := fun b o e => Heap.get?_push_of_some _ e
  have I1 := M.inn.kept (t' := tk) kp
  have lt5 := Nat.lt_trans M.new M.lt
  refine ⟨M.pinOk I1 fun b hb => ?_, M.T.keep _ _ _ M.st fun b _ o e => kp b o e, fun b hb => (M.ok b hb).1.1⟩
  rcases List.mem_cons.mp hb with z | z
  · rw [z]
    refine ⟨M.new, M.a_ok.2.1, fun o e v q => ?_⟩
    obtain ⟨o', nm, qn, e', r⟩ := M.gen
    have e2 := kp a o' e'
    rw [show (s5.heap.push (lo acc n)).get? a = some o from e] at e2
    cases e2
    exact M.a_ok.2.2 _ e' v q
  · rw [List.mem_singleton.mp z]
    refine ⟨lt5, M.out.hok.fresh (Nat.le_of_lt lt5), fun o e v q => ?_⟩
    have e2 : (s5.heap.push (lo acc n)).get? s5.heap.objs.size = some (lo acc n) := Heap.get?_push_size _ rfl
    rw [show (s5.heap.push (lo acc n)).get? s5.heap.objs.size = some o from e] at e2
    cases e2
    cases q

theorem pe_sumG (hr : Room k X.A) (hc : X.calm = true) (hg : Gl X "sum") (hm : X.mg "sum" = none) (TB : TabB X.base X.mg c P) (hcode : X.env.code = .ref c) (ok : CapOk X.N X.env.scope scope x cap) (hi : PI X (.Name x px) iter wi)
    (ht : ∀ (s : Shared) (H : Hp) (C : Addr) (code : Value) (fp : List Addr), PTs (gcx X s H x cap scope C code fp) ifs tt) (he : ∀ (s : Shared) (H : Hp) (C : Addr) (code : Value) (fp : List Addr), PE (gcx X s H x cap scope C code fp) elt te)
    (hs : ∀ v, genFold iter X.env v = pure v := by intro _; rfl)
    (hst : starEach [gEx elt x px iter ifs scope pos] X.env = (false, eval (gEx elt x px iter ifs scope pos) X.env) :: starEach [] X.env := by rfl) :
    PE X (.Call (.Name "sum" p) [gEx elt x px iter ifs scope pos] [] cpos) (tSumG P cap wi tt te) := by
  refine ⟨fun pins s σ H Q I h => ?_⟩
  refine wpAny_Call_Name_kw (ld_blt I hg hm (show bootBuiltins "sum" = some (.builtin "sum") by decide +kernel) ?_)
  refine PyProof.Rows.callWith_builtin1 ?_ hst (by rfl)
  rw [hst]
  show wpAny _ _ (spliced ((false, eval (gEx elt x px iter ifs scope pos) X.env) :: backTo cpos (starEach [] X.env))) _ _ s
  refine Calls.spliced_cons (g_make hr TB hcode ok hi hs I h fun a g s4 H1 H2 code it fp tn J s5 M hT hR => ?_)
  refine Calls.spliced_nil ?_
  obtain ⟨W, ⟨m0, w0⟩, turn⟩ := hR H2 hT
  refine call_function_tree F.kind_sum F.plain_sum F.entry_sum (F.args_sum1 _) ?_
  unfold Builtin.«sum»
  simp only [List.length_cons, List.length_nil]
  rw [if_neg (by decide)]
  refine wpAny_bind (wpAny_of_eq (show Builtin.Builtins.bindParams "sum" ["start"] 0 { } = pure [none] from rfl) ?_)
  refine wpAny_bind (wpAny_pyIter_gen M.gen ?_)
  refine wpAny_bind (wpAny_mkInt (wpAny_bind (wpAny_pure ?_)))
  simp only [List.forIn_cons, List.forIn_nil]
  refine wpAny_bind (wpAny_bind (wpAny_bind (wpAny_isInstance (T := "int") (b := false) (typeIs_int _ _ _) PySem.sub_int_str ?_)))
  simp only [Bool.false_eq_true, if_false]
  refine wpAny_pure (wpAny_bind (wpAny_bind (wpAny_isInstance (T := "int") (b := false) (typeIs_int _ _ _) PySem.sub_int_bytes ?_)))
  simp only [Bool.false_eq_true, if_false]
  refine wpAny_pure (wpAny_bind (wpAny_bind (wpAny_isInstance (T := "int") (b := false) (typeIs_int _ _ _) PySem.sub_int_bytearray ?_)))
  simp only [Bool.false_eq_true, if_false]
  refine wpAny_pure (wpAny_pure (wpAny_bind (wpAny_newObj_type ?_)))
  have hne : s5.heap.objs.size ≠ a := Nat.ne_of_gt M.lt
  have lt5 := Nat.lt_trans M.new M.lt
  have S : Asleep (gcx X s4 H2 x cap scope s4.heap.objs.size code fp) X.A.in4.in1 (tellS a s5.heap.objs.size OwnSum (fun ys i m H => ∃ js : List Int, ys = js.map V.int ∧ W js i m H)
      (fun ys y i m H => ∃ j, y = .int j ∧ ∃ m', m' < m ∧ ∃ js : List Int, ys ++ [y] = js.map V.int ∧ W js (i + 1) m' H) (fun ys H => ∃ js : List Int, ys = js.map V.int ∧ Q (.int js.sum) H)) (capV cap σ) fp tn a g (m0 + 1)
      { s5 with heap := s5.heap.push (lo #[.int 0 s5.toks] 0), toks := s5.toks + 1 } := by
    refine M.asleep ok hc (fun b hb => ?_) (ht ..) (he ..) (fun ys i m H w => ?_) ⟨[], rfl, w0⟩ ⟨_, _, Heap.get?_push_size _ rfl, [], s5.toks, rfl, rfl⟩ M.at_list ?_ rfl
    · rcases List.mem_cons.mp hb with z | z
      · rw [z]; exact M.new
      · rw [List.mem_singleton.mp z]; exact lt5
    · obtain ⟨js, rfl, w⟩ := w
      rcases turn js i m H w with ⟨st, q⟩ | ⟨gg, Nx, Ny, hN, hNy, q⟩
      · exact .inl ⟨st, js, rfl, q⟩
      · refine .inr ⟨gg, Nx, _, fun H' z => ?_, fun y H' ⟨j, e, h1⟩ => ?_, q⟩
        · obtain ⟨m', hm', w'⟩ := hN H' z
          exact ⟨m', hm', js, rfl, w'⟩
        · obtain ⟨m', hm', w'⟩ := hNy j H' h1
          exact ⟨j, e, m', hm', js ++ [j], by rw [e, List.map_append]; rfl, w'⟩
    · obtain ⟨o, nm, qn, e, r⟩ := M.gen
      exact ⟨o, nm, qn, Heap.get?_push_of_some _ e, r⟩
  refine wpAny_pure ⟨plainId_quiet F.plain_sum_loop _, sum_loop (X := X) (Y := gcx X s4 H2 x cap scope s4.heap.objs.size code fp) M.T rfl rfl rfl hr.depth hr.hd rfl (Nat.le_of_lt lt5) hne (fun z => absurd (Nat.lt_trans lt5 (M.ok _ z).2) (Nat.lt_irrefl _)) (fun ys y i m H hyd => hyd) (fun js H s' t pl z I' => ?_) m0 0 _ (.inl rfl) S⟩
  obtain ⟨js', e, q⟩ := z
  rw [map_int_inj e]
  exact ⟨.int js'.sum, H, M.back I', ⟨t, rfl⟩, q⟩
end
end GX
end

section
set_option Elab.async false
set_option linter.all false
set_option maxRecDepth 100000
set_option maxHeartbeats 4000000
/-! max of a generator expression of ints. -/
namespace GX
open PySem PySem.Spec PyProof.Rows L2 GxR
/-- the greater of two, the first of equal ones; of a row -/
def gr (b z : Int) : Int := if b < z then z else b
def best (j : Int) (js : List Int) : Int := js.foldl gr j
theorem best_snoc (j : Int) (js : List Int) (z : Int) : best j (js ++ [z]) = gr (best j js) z := by simp [best, List.foldl_append]

def OwnMax : List V → Array Value → Prop := fun ys acc => (ys = [] ∧ acc = #[]) ∨ ∃ (j : Int) (js : List Int) (t : Tok), ys = (j :: js).map V.int ∧ acc = #[.int (best j js) t, .int (best j js) t]
theorem seq_inj {acc acc' : Array Value} {n n' : Nat} (h : some (lo acc n) = some (lo acc' n')) : acc = acc' := by
  have := congrArg Obj.data (Option.some.inj h)
  injection this
section
variable {a S g : Addr} {W : List V → Nat → Nat → Hp → Prop} {Yd : List V → V → Nat → Nat → Hp → Prop} {Zd : List V → Hp → Prop}
variable {Y : Cx} {B : Around} {cv : L2.St} {fp : List Addr} {tn : Nat → Heap → Prop}
theorem max_name : (toString "max" ++ toString ".loop" : String) = "max.loop" := by decide
theorem gt_ints {prog : Program} {w : World} {A : Around} {i j : Int} {t u : Tok} {s : Shared} {Q : Value → Shared → Prop} {E : Value → Shared → Prop} (h : Q (.bool (decide (i > j))) s) : wpAny (model prog w) A (richCompare .Gt (.int i t) (.int j u)) Q E s :=
  CmpOf.ints_gt (prog := prog) (w := w) (A := A) (P := fun k v => if k = 0 then v = .int i t else v = .int j u) (fun k => if k = 0 then i else j)
    (fun k v hv => by by_cases hk : k = 0 <;> simp [hk] at hv ⊢ <;> exact ⟨_, hv⟩) 0 1 _ _ s Q E (by simp) (by simp) (by simpa using h)

theorem max_loop {X : Cx} {J : It} {it : Addr} {P : Program} {w : World} {K : PySem.W.Frag} {tg : Expr} {R : Result → Shared → Prop} (T : Turn P w K tg J fp it tn) (hP : Y.prog = X.prog) (hw : Y.w = X.w) (hB : B = X.A.in4.in1) (hroom : X.A.depth < recursionLimit) (hh : X.A.handled = none)
    (hpn : Y.pn = []) (hSY : Y.s_0.heap.objs.size ≤ S) (hne : S ≠ a) (hSf : S ∉ fp)
    (hY : ∀ ys y i m H, Yd ys y i m H → ∃ j, y = .int j ∧ ∃ m2, m2 < m ∧ W (ys ++ [y]) (i + 1) m2 H)
    (hZ0 : ∀ H, ¬ Zd [] H) (hZ : ∀ (j : Int) (js : List Int) H s' t pl, Zd ((j :: js).map V.int) H → Inv Y pl (none :: cv) H s' → R (.ok (.ret (.int (best j js) t))) s') :
    ∀ (n : Nat) (s : Shared), Asleep Y B (tellS a S OwnMax W Yd Zd) cv fp tn a g (n + 1) s → codeAny (model X.prog X.w) X.A (.builtin "max.loop" ⟨[.ref a, .none, .ref S], []⟩) R s := by
  intro n
  induction n with
  | zero =>
    intro s h
    obtain ⟨acc0, n0, hS0, how⟩ : ∃ acc n, s.heap.get? S = some (lo acc n) ∧ ∃ ys, OwnMax ys acc := by
      obtain ⟨ys, i, m, H, gs, _, _, ⟨acc, n, e, o⟩, _⟩ := h
      exact ⟨acc, n, e, ys, o⟩
    obtain ⟨oa, ha⟩ : ∃ o, s.heap.get? a = some o := by
      obtain ⟨ys, i, m, H, gs, _, _, _, _, ⟨o, _, _, e, _⟩, _⟩ := h
      exact ⟨o, e⟩
    refine codeAny_builtin F.entry_max_loop ?_
    rw [Around.under_plainId F.plain_max_loop _, ← hP, ← hw]
    refine wpAny_bind (wpAny_seqItems hS0 rfl ?_)
    obtain ⟨ys0, how⟩ := how
    have fin : ∀ {ys H s'}, (∀ b ∈ [a, S], ∀ o, s.heap.get? b = some o → s'.heap.get? b = some o) → Over Y (tellS a S OwnMax W Yd Zd) cv ys H s' → ∃ (j : Int) (js : List Int) (t : Tok), acc0 = #[.int (best j js) t, .int (best j js) t] ∧ s'.heap.get? S = some (lo acc0 n0) ∧ (∃ o, s'.heap.get? a = some o) ∧ Zd ((j :: js).map V.int) H ∧ Inv Y (pinsAt [a, S] s'.heap) (none :: cv) H s' := fun {ys H s'} kp O => by
      obtain ⟨⟨acc, n1, e1, o⟩, z, I'⟩ := O
      have e4 := kp S (by simp) _ hS0
      have e5 : acc0 = acc := seq_inj (e4.symm.trans e1)
      subst e5
      rcases o with ⟨rfl, _⟩ | ⟨j, js, t, rfl, e6⟩
      · exact absurd z (hZ0 H)
      · exact ⟨j, js, t, e6, e4, ⟨_, kp a (by simp) _ ha⟩, z, I'⟩
    refine wpAny_bind (wpAny_tryCatch (g_next1 (X := X) hB hroom hh owns_s h (fun ys y v i m H s' rv kp G => ?_) fun ys H s' kp O => ?_))
    · obtain ⟨j, _, m2, hm, w2⟩ := hY ys y i m H G.2.2.1
      have := G.1
      omega
    · obtain ⟨j, js, t, e, hS', ⟨o, ha'⟩, z, I'⟩ := fin kp O
      subst e
      show wpAny _ X.A.in1 (updateSeq S (fun _ => #[]) >>= _) _ _ _
      refine wpAny_bind (wpAny_updateSeq hS' rfl (wpAny_bind (wpAny_letGo (wpAny_pure ?_))))
      exact hZ j js H _ t _ z (inv_put (tk := s'.toks) hpn hSY hne I' hS' ⟨o, ha'⟩ (fun b o hb e => (Heap.get?_update_other _ _ (fun q => hb q.symm)).trans e) (Heap.get?_update_self _ hS' rfl))
  | succ n ih =>
    intro s h
    obtain ⟨acc0, n0, hS0, how⟩ : ∃ acc n, s.heap.get? S = some (lo acc n) ∧ ∃ ys, OwnMax ys acc := by
      obtain ⟨ys, i, m, H, gs, _, _, ⟨acc, n, e, o⟩, _⟩ := h
      exact ⟨acc, n, e, ys, o⟩
    obtain ⟨oa, ha⟩ : ∃ o, s.heap.get? a = some o := by
      obtain ⟨ys, i, m, H, gs, _, _, _, _, ⟨o, _, _, e, _⟩, _⟩ := h
      exact ⟨o, e⟩
    refine codeAny_builtin F.entry_max_loop ?_
    rw [Around.under_plainId F.plain_max_loop _, ← hP, ← hw]
    refine wpAny_bind (wpAny_seqItems hS0 rfl ?_)
    obtain ⟨ys0, how⟩ := how
    have fin : ∀ {ys H s'}, (∀ b ∈ [a, S], ∀ o, s.heap.get? b = some o → s'.heap.get? b = some o) → Over Y (tellS a S OwnMax W Yd Zd) cv ys H s' → ∃ (j : Int) (js : List Int) (t : Tok), acc0 = #[.int (best j js) t, .int (best j js) t] ∧ s'.heap.get? S = some (lo acc0 n0) ∧ (∃ o, s'.heap.get? a = some o) ∧ Zd ((j :: js).map V.int) H ∧ Inv Y (pinsAt [a, S] s'.heap) (none :: cv) H s' := fun {ys H s'} kp O => by
      obtain ⟨⟨acc, n1, e1, o⟩, z, I'⟩ := O
      have e4 := kp S (by simp) _ hS0
      have e5 : acc0 = acc := seq_inj (e4.symm.trans e1)
      subst e5
      rcases o with ⟨rfl, _⟩ | ⟨j, js, t, rfl, e6⟩
      · exact absurd z (hZ0 H)
      · exact ⟨j, js, t, e6, e4, ⟨_, kp a (by simp) _ ha⟩, z, I'⟩
    have oth : ∀ {b : Addr}, b ≠ S → S ≠ b := fun h q => h q.symm
    refine wpAny_bind (wpAny_tryCatch (g_next1 (X := X) hB hroom hh owns_s h (fun ys y v i m H s' rv kp G => ?_) fun ys H s' kp O => ?_))
    · obtain ⟨z, rfl, m2, hm, w2⟩ := hY ys y i m H G.2.2.1
      obtain ⟨tv, rfl⟩ := rv
      obtain ⟨acc, n1, e1, o⟩ := G.2.1
      have hS' := kp S (by simp) _ hS0
      have e5 : acc0 = acc := seq_inj (hS'.symm.trans e1)
      subst e5
      have step : ∀ (h' : Heap) (tk : Nat) (acc' : Array Value) (n' : Nat), (∀ b o, b ≠ S → s'.heap.get? b = some o → h'.get? b = some o) → h'.get? S = some (lo acc' n') → OwnMax (ys ++ [V.int z]) acc' → Asleep Y B (tellS a S OwnMax W Yd Zd) cv fp tn a g (n + 1) { s' with heap := h', toks := tk } := fun h' tk acc' n' k e ow => by
        obtain ⟨n2, en, A'⟩ := again_s rfl T hpn hSY hne hSf G k e ow hm w2 (tk := tk)
        cases en
        exact A'
      rcases o with ⟨rfl, e6⟩ | ⟨j, js, t, rfl, e6⟩
      · subst e6
        show wpAny _ X.A.in1 (updateSeq S (fun _ => #[.int z tv, .int z tv]) >>= _) _ _ _
        refine wpAny_bind (wpAny_updateSeq hS' rfl ?_)
        rw [max_name]
        refine wpAny_pure ?_
        rw [hP, hw]
        exact ⟨plainId_quiet F.plain_max_loop _, ih _ (step _ _ _ _ (fun b o hb e => (Heap.get?_update_other _ _ (oth hb)).trans e) (Heap.get?_update_self _ hS' rfl) (.inr ⟨z, [], tv, rfl, rfl⟩))⟩
      · subst e6
        have ap : (j :: js).map V.int ++ [V.int z] = (j :: (js ++ [z])).map V.int := by simp
        show wpAny _ X.A.in1 (tryCatch (holding [.int z tv, .int z tv] (richCompare .Gt (.int z tv) (.int (best j js) t) >>= _)) _ >>= _) _ _ _
        refine wpAny_bind (wpAny_tryCatch (wpAny_holding (wpAny_bind (gt_ints ?_))))
        refine wpAny_bind (wpAny_holding (wpAny_truthy_bool (wpAny_bind (wpAny_letGo (wpAny_pure ?_)))))
        by_cases hlt : best j js < z
        · rw [decide_eq_true (show z > best j js from hlt)]
          simp only [if_true]
          refine wpAny_bind (wpAny_updateSeq hS' rfl (wpAny_bind (wpAny_letGo ?_)))
          rw [max_name]
          refine wpAny_pure ?_
          rw [hP, hw]
          exact ⟨plainId_quiet F.plain_max_loop _, ih _ (step _ _ _ _ (fun b o hb e => (Heap.get?_update_other _ _ (oth hb)).trans e) (Heap.get?_update_self _ hS' rfl) (.inr ⟨j, js ++ [z], tv, ap, by rw [best_snoc, gr, if_pos hlt]⟩))⟩
        · rw [decide_eq_false (show ¬ z > best j js from hlt)]
          simp only [Bool.false_eq_true, if_false]
          refine wpAny_bind (wpAny_letGo ?_)
          rw [max_name]
          refine wpAny_pure ?_
          rw [hP, hw]
          exact ⟨plainId_quiet F.plain_max_loop _, ih _ (step s'.heap s'.toks _ _ (fun b o hb e => e) hS' (.inr ⟨j, js ++ [z], t, ap, by rw [best_snoc, gr, if_neg hlt]⟩))⟩
    · obtain ⟨j, js, t, e, hS', ⟨o, ha'⟩, z, I'⟩ := fin kp O
      subst e
      show wpAny _ X.A.in1 (updateSeq S (fun _ => #[]) >>= _) _ _ _
      refine wpAny_bind (wpAny_updateSeq hS' rfl (wpAny_bind (wpAny_letGo (wpAny_pure ?_))))
      exact hZ j js H _ t _ z (inv_put (tk := s'.toks) hpn hSY hne I' hS' ⟨o, ha'⟩ (fun b o hb e => (Heap.get?_update_other _ _ (fun q => hb q.symm)).trans e) (Heap.get?_update_self _ hS' rfl))
end
section
variable {X : Cx} {pins : List (Addr × Obj)} {σ : L2.St} {H : Hp} {s : Shared}
variable {x : Str} {cap : List (Str × Nat)} {elt : Expr} {px : Pos} {iter : Expr} {ifs : List Expr} {scope : Scope} {pos : Pos} {c P : Addr} {k : Nat} {wi : TI} {tt : TT} {te : TE}
variable {p cpos : Pos}
/-- max(elt for x in iter if ..), the elements ints, one at least -/
def tMaxG (P : Addr) (cap : List (Str × Nat)) (wi : TI) (tt : TT) (te : TE) : TE := fun σ H Q => wi σ H fun J H1 => TabG H1 P ∧ ∀ H2, Tabbed P H1 H2 → ∃ W : List Int → Nat → Nat → Hp → Prop, (∃ m, W [] 0 m H2) ∧ ∀ js i m H, W js i m H →
  (J.stop i H ∧ ∃ j r, js = j :: r ∧ Q (.int (best j r)) H) ∨ (J.go i H ∧ ∃ (Nx : Hp → Prop) (Ny : Int → Hp → Prop), (∀ H', Nx H' → ∃ m', m' < m ∧ W js (i + 1) m' H') ∧ (∀ j H', Ny j H' → ∃ m', m' < m ∧ W (js ++ [j]) (i + 1) m' H') ∧
    ∀ v H', J.yld i H v H' → tt (some v :: capV cap σ) H' fun b H3 => if b = true then te (some v :: capV cap σ) H3 fun y H4 => ∃ j, y = .int j ∧ Ny j H4 else Nx H3)
theorem pe_maxG (hr : Room k X.A) (hc : X.calm = true) (hg : Gl X "max") (hm : X.mg "max" = none) (TB : TabB X.base X.mg c P) (hcode : X.env.code = .ref c) (ok : CapOk X.N X.env.scope scope x cap) (hi : PI X (.Name x px) iter wi)
    (ht : ∀ (s : Shared) (H : Hp) (C : Addr) (code : Value) (fp : List Addr), PTs (gcx X s H x cap scope C code fp) ifs tt) (he : ∀ (s : Shared) (H : Hp) (C : Addr) (code : Value) (fp : List Addr), PE (gcx X s H x cap scope C code fp) elt te)
    (hs : ∀ v, genFold iter X.env v = pure v := by intro _; rfl)
    (hst : starEach [gEx elt x px iter ifs scope pos] X.env = (false, eval (gEx elt x px iter ifs scope pos) X.env) :: starEach [] X.env := by rfl) :
    PE X (.Call (.Name "max" p) [gEx elt x px iter ifs scope pos] [] cpos) (tMaxG P cap wi tt te) := by
  refine ⟨fun pins s σ H Q I h => ?_⟩
  refine wpAny_Call_Name_kw (ld_blt I hg hm (show bootBuiltins "max" = some (.builtin "max") by decide +kernel) ?_)
  refine PyProof.Rows.callWith_builtin1 ?_ hst (by rfl)
  rw [hst]
  show wpAny _ _ (spliced ((false, eval (gEx elt x px iter ifs scope pos) X.env) :: backTo cpos (starEach [] X.env))) _ _ s
  refine Calls.spliced_cons (g_make hr TB hcode ok hi hs I h fun a g s4 H1 H2 code it fp tn J s5 M hT hR => ?_)
  refine Calls.spliced_nil ?_
  obtain ⟨W, ⟨m0, w0⟩, turn⟩ := hR H2 hT
  refine call_function_tree F.kind_max F.plain_max F.entry_max (F.args_max1 _) ?_
  show wpAny _ X.A.in1 (Builtin.Builtins.bindParams "max" ["key", "default"] 0 ⟨[], []⟩ >>= _) _ _ _
  refine wpAny_bind (wpAny_of_eq (show Builtin.Builtins.bindParams "max" ["key", "default"] 0 ⟨[], []⟩ = pure [none, none] from rfl) ?_)
  refine wpAny_bind (wpAny_pure (wpAny_bind (wpAny_pyIter_gen M.gen (wpAny_bind (wpAny_newObj_type ?_)))))
  rw [max_name]
  have hne : s5.heap.objs.size ≠ a := Nat.ne_of_gt M.lt
  have lt5 := Nat.lt_trans M.new M.lt
  have S : Asleep (gcx X s4 H2 x cap scope s4.heap.objs.size code fp) X.A.in4.in1 (tellS a s5.heap.objs.size OwnMax (fun ys i m H => ∃ js : List Int, ys = js.map V.int ∧ W js i m H)
      (fun ys y i m H => ∃ j, y = .int j ∧ ∃ m', m' < m ∧ ∃ js : List Int, ys ++ [y] = js.map V.int ∧ W js (i + 1) m' H) (fun ys H => ∃ j r, ys = (j :: r : List Int).map V.int ∧ Q (.int (best j r)) H)) (capV cap σ) fp tn a g (m0 + 1)
      { s5 with heap := s5.heap.push (lo #[] 0), toks := s5.toks } := by
    refine M.asleep ok hc (fun b hb => ?_) (ht ..) (he ..) (fun ys i m H w => ?_) ⟨[], rfl, w0⟩ ⟨_, _, Heap.get?_push_size _ rfl, .inl ⟨rfl, rfl⟩⟩ M.at_list ?_ rfl
    · rcases List.mem_cons.mp hb with z | z
      · rw [z]; exact M.new
      · rw [List.mem_singleton.mp z]; exact lt5
    · obtain ⟨js, rfl, w⟩ := w
      rcases turn js i m H w with ⟨st, j, r, e, q⟩ | ⟨gg, Nx, Ny, hN, hNy, q⟩
      · exact .inl ⟨st, j, r, by rw [e], q⟩
      · refine .inr ⟨gg, Nx, _, fun H' z => ?_, fun y H' ⟨j, e, h1⟩ => ?_, q⟩
        · obtain ⟨m', hm', w'⟩ := hN H' z
          exact ⟨m', hm', js, rfl, w'⟩
        · obtain ⟨m', hm', w'⟩ := hNy j H' h1
          exact ⟨j, e, m', hm', js ++ [j], by rw [e, List.map_append]; rfl, w'⟩
    · obtain ⟨o, nm, qn, e, r⟩ := M.gen
      exact ⟨o, nm, qn, Heap.get?_push_of_some _ e, r⟩
  refine wpAny_pure ⟨plainId_quiet F.plain_max_loop _, max_loop (X := X) (Y := gcx X s4 H2 x cap scope s4.heap.objs.size code fp) M.T rfl rfl rfl hr.depth hr.hd rfl (Nat.le_of_lt lt5) hne (fun z => absurd (Nat.lt_trans lt5 (M.ok _ z).2) (Nat.lt_irrefl _)) (fun ys y i m H hyd => hyd) (fun H ⟨j, r, e, _⟩ => by cases e) (fun j js H s' t pl z I' => ?_) m0 _ S⟩
  obtain ⟨j', r, e, q⟩ := z
  obtain ⟨rfl, rfl⟩ : j = j' ∧ js = r := by
    have := map_int_inj (a := j :: js) (b := j' :: r) e
    injection this with h1 h2
    exact ⟨h1, h2⟩
  exact ⟨.int _, H, M.back I', ⟨t, rfl⟩, q⟩
end
end GX
end

section
set_option Elab.async false
set_option linter.all false
set_option maxRecDepth 100000
set_option maxHeartbeats 4000000
/-! tuple of a generator expression. -/
namespace GX
open PySem PySem.Spec PyProof.Rows L2 GxR
def OwnTup : List V → Array Value → Prop := fun ys acc => Vals ys acc.toList
section
variable {a S g : Addr} {W : List V → Nat → Nat → Hp → Prop} {Yd : List V → V → Nat → Nat → Hp → Prop} {Zd : List V → Hp → Prop}
variable {Y : Cx} {B : Around} {cv : L2.St} {fp : List Addr} {tn : Nat → Heap → Prop}
/-- the loop of list.extend over the generator, called two codes further in -/
theorem ext_loop {X : Cx} {J : It} {it : Addr} {P : Program} {w : World} {K : PySem.W.Frag} {tg : Expr} {res : Value} {R : Result → Shared → Prop} (T : Turn P w K tg J fp it tn) (hP : Y.prog = X.prog) (hw : Y.w = X.w) (hB : B = X.A.in4.in1) (hroom : X.A.depth < recursionLimit) (hh : X.A.handled = none)
    (hpn : Y.pn = []) (hSY : Y.s_0.heap.objs.size ≤ S) (hne : S ≠ a) (hSf : S ∉ fp)
    (hY : ∀ ys y i m H, Yd ys y i m H → ys.length < sizeLine ∧ ∃ m2, m2 < m ∧ W (ys ++ [y]) (i + 1) m2 H)
    (hZ : ∀ ys H s' acc n pl, Zd ys H → Vals ys acc.toList → s'.heap.get? S = some (lo acc n) → Inv Y pl (none :: cv) H s' → R (.ok (.ret res)) s') :
    ∀ (n : Nat) (s : Shared), Asleep Y B (tellS a S OwnTup W Yd Zd) cv fp tn a g (n + 1) s → codeAny (model X.prog X.w) X.A.in1.in1 (.builtin "list.extend.loop" ⟨[.ref S, .ref a, res], []⟩) R s := by
  intro n
  induction n with
  | zero =>
    intro s h
    refine codeAny_builtin F.entry_extend_loop ?_
    rw [Around.under_plainId F.plain_extend_loop _, ← hP, ← hw]
    refine wpAny_bind (g_next3 (X := X) hB hroom hh owns_s h (fun ys y v i m H s' rv kp G => ?_) fun ys H s' kp O => ?_)
    · obtain ⟨_, m2, hm, w2⟩ := hY ys y i m H G.2.2.1
      have := G.1
      omega
    · obtain ⟨⟨acc, n1, e1, o⟩, z, I'⟩ := O
      exact wpAny_pure (hZ ys H s' acc n1 _ z o e1 I')
  | succ n ih =>
    intro s h
    refine codeAny_builtin F.entry_extend_loop ?_
    rw [Around.under_plainId F.plain_extend_loop _, ← hP, ← hw]
    refine wpAny_bind (g_next3 (X := X) hB hroom hh owns_s h (fun ys y v i m H s' rv kp G => ?_) fun ys H s' kp O => ?_)
    · obtain ⟨hlen, m2, hm, w2⟩ := hY ys y i m H G.2.2.1
      obtain ⟨acc, n1, hS', o⟩ := G.2.1
      have hl : ys.length = acc.size := by rw [← Array.length_toList]; exact Vals.length o
      show wpAny _ X.A.in1.in1.in1 (updateSeq S (·.push v) >>= _) _ _ _
      refine wpAny_bind ?_
      refine wpAny_updateSeq hS' rfl (wpAny_pure ?_) (by rw [← hl]; omega) (by show (acc.push v).size ≤ sizeLine + 1; rw [Array.size_push, ← hl]; omega)
      rw [hP, hw]
      refine ⟨plainId_quiet F.plain_extend_loop _, ih _ ?_⟩
      have hS2 := Heap.get?_update_self (Obj.mapSeq (·.push v)) hS' rfl
      obtain ⟨n2, en, A'⟩ := again_s rfl T hpn hSY hne hSf G (fun b o hb e => (Heap.get?_update_other _ _ (fun q : S = b => hb q.symm)).trans e) hS2 (show OwnTup (ys ++ [y]) (acc.push v) by
        show Vals _ _
        rw [Array.toList_push]
        exact Vals.append o (.cons rv .nil)) hm w2 (tk := s'.toks)
      cases en
      exact A'
    · obtain ⟨⟨acc, n1, e1, o⟩, z, I'⟩ := O
      exact wpAny_pure (hZ ys H s' acc n1 _ z o e1 I')
end
section
variable {X : Cx} {pins : List (Addr × Obj)} {σ : L2.St} {H : Hp} {s : Shared}
variable {x : Str} {cap : List (Str × Nat)} {elt : Expr} {px : Pos} {iter : Expr} {ifs : List Expr} {scope : Scope} {pos : Pos} {c P : Addr} {k : Nat} {wi : TI} {tt : TT} {te : TE}
variable {p cpos : Pos}
/-- tuple(elt for x in iter if ..) -/
def tTupG (P : Addr) (cap : List (Str × Nat)) (wi : TI) (tt : TT) (te : TE) : TE := fun σ H Q => wi σ H fun J H1 => TabG H1 P ∧ ∀ H2, Tabbed P H1 H2 → ∃ W : List V → Nat → Nat → Hp → Prop, (∃ m, W [] 0 m H2) ∧ ∀ ys i m H, W ys i m H →
  (J.stop i H ∧ ys.length ≤ sizeLine ∧ ∀ l, H l = none → Q (.ref l) (upd H l (.tup ys))) ∨ (J.go i H ∧ ∃ (Nx : Hp → Prop) (Ny : VK), (∀ H', Nx H' → ∃ m', m' < m ∧ W ys (i + 1) m' H') ∧ (∀ y H', Ny y H' → ys.length < sizeLine ∧ ∃ m', m' < m ∧ W (ys ++ [y]) (i + 1) m' H') ∧
    ∀ v H', J.yld i H v H' → tt (some v :: capV cap σ) H' fun b H3 => if b = true then te (some v :: capV cap σ) H3 Ny else Nx H3)

theorem collect_g {Q : List Value → Shared → Prop} {E : Value → Shared → Prop} (hr : Room k X.A) (hc : X.calm = true) (ok : CapOk X.N X.env.scope scope x cap)
    (ht : ∀ (s : Shared) (H : Hp) (C : Addr) (code : Value) (fp : List Addr), PTs (gcx X s H x cap scope C code fp) ifs tt) (he : ∀ (s : Shared) (H : Hp) (C : Addr) (code : Value) (fp : List Addr), PE (gcx X s H x cap scope C code fp) elt te)
    {a g : Addr} {s4 : Shared} {H2 : Hp} {code : Value} {it : Addr} {fp : List Addr} {tn : Nat → Heap → Prop} {J : It} {s5 : Shared} (M : Made X pins σ x cap elt px iter ifs scope pos a g s4 H2 code it fp tn J s5)
    {W : List V → Nat → Nat → Hp → Prop} {m0 : Nat} {Zd : List V → Hp → Prop} (w0 : W [] 0 m0 H2)
    (turn : ∀ ys i m H, W ys i m H → (J.stop i H ∧ Zd ys H) ∨ (J.go i H ∧ ∃ (Nx : Hp → Prop) (Ny : VK), (∀ H', Nx H' → ∃ m', m' < m ∧ W ys (i + 1) m' H') ∧ (∀ y H', Ny y H' → ys.length < sizeLine ∧ ∃ m', m' < m ∧ W (ys ++ [y]) (i + 1) m' H') ∧
      ∀ v H', J.yld i H v H' → tt (some v :: capV cap σ) H' fun b H3 => if b = true then te (some v :: capV cap σ) H3 Ny else Nx H3))
    (hQ : ∀ ys H' (acc : Array Value) s', Zd ys H' → Vals ys acc.toList → Inv X pins σ H' s' → Q acc.toList s') : wpAny (model X.prog X.w) X.A.in1.in1 (collect (.ref a)) Q E s5 := by
  have hne : s5.heap.objs.size ≠ a := Nat.ne_of_gt M.lt
  have lt5 := Nat.lt_trans M.new M.lt
  have ty : ∀ h : Heap, (∀ b o, s5.heap.get? b = some o → h.get? b = some o) → ∀ s' : Shared, s'.heap = h → s'.TypeIs (.ref a) "generator" := fun h k s' e => by
    obtain ⟨o, nm, qn, e', r, _⟩ := M.gen
    exact ⟨o, by rw [e]; exact k a o e', r⟩
  unfold collect
  refine wpAny_bind (wpAny_runValue (codeAny_builtin F.entry_proto_collect ?_))
  rw [Around.under_plainId F.plain_proto_collect _]
  show wpAny _ _ (newList [] >>= fun l => PySem.again (.builtin "list.__iadd__" ⟨[l, .ref a], []⟩)) _ _ s5
  refine wpAny_bind (wpAny_newObj_type (wpAny_pure ⟨plainId_quiet F.plain_list_iadd _, codeAny_builtin F.entry_list_iadd ?_⟩))
  rw [Around.under_plainId F.plain_list_iadd _]
  have kp : ∀ b o, s5.heap.get? b = some o → (s5.heap.push (lo #[] 0)).get? b = some o := fun b o e => Heap.get?_push_of_some _ e
  show wpAny _ _ (Builtin.List.listExtendWith (.ref s5.heap.objs.size) (.ref a) (.ref s5.heap.objs.size)) _ _ _
  unfold Builtin.List.listExtendWith
  refine wpAny_bind (wpAny_typeOf (ty _ kp _ rfl) ?_)
  have h1 : Builtin.List.listSameRef (.ref s5.heap.objs.size) (.ref a) = false := by simp [Builtin.List.listSameRef, hne]
  have h2 : (Value.type "generator" == Value.type "list") = false := by decide
  have h3 : (Value.type "generator" == Value.type "tuple") = false := by decide
  simp only [h1, h2, h3, Bool.or_false, Bool.false_eq_true, if_false]
  have gen6 : (s5.heap.push (lo #[] 0)).IsGen a g := by
    obtain ⟨o, nm, qn, e, r⟩ := M.gen
    exact ⟨o, nm, qn, kp a o e, r⟩
  refine wpAny_bind (wpAny_pyIter_gen gen6 (wpAny_bind (wpAny_holding ?_)))
  unfold Builtin.List.listLengthHint
  refine wpAny_bind (wpAny_specialOf (ty _ kp _ rfl) F.gen_no_len ?_)
  show wpAny _ _ (specialOf (Value.ref a) (Str.ofString "__length_hint__") >>= _) _ _ _
  refine wpAny_bind (wpAny_specialOf (ty _ kp _ rfl) F.gen_no_hint (wpAny_pure ?_))
  show wpAny _ _ (rule "list.extend.makes-room" >>= fun _ => Builtin.List.listTouch (.ref s5.heap.objs.size) >>= fun _ =>
    PySem.again (.builtin "list.extend.loop" ⟨[.ref s5.heap.objs.size, .ref a, .ref s5.heap.objs.size], []⟩)) _ _ _
  refine wpAny_bind (wpAny_rule ?_)
  have hS1 : (s5.heap.push (lo #[] 0)).get? s5.heap.objs.size = some (lo #[] 0) := Heap.get?_push_size _ rfl
  refine wpAny_bind ?_
  show wpAny _ _ (updateSeq s5.heap.objs.size (·.push .none) >>= fun _ => updateSeq s5.heap.objs.size (·.pop)) _ _ _
  refine wpAny_bind (wpAny_updateSeq hS1 rfl ?_)
  have hS2 := Heap.get?_update_self (Obj.mapSeq (·.push Value.none)) hS1 rfl
  refine wpAny_updateSeq hS2 rfl ?_
  have hS3 := Heap.get?_update_self (Obj.mapSeq (·.pop)) hS2 rfl
  have oth : ∀ b o, b ≠ s5.heap.objs.size → (s5.heap.push (lo #[] 0)).get? b = some o →
      (((s5.heap.push (lo #[] 0)).update s5.heap.objs.size (Obj.mapSeq (·.push Value.none))).update s5.heap.objs.size (Obj.mapSeq (·.pop))).get? b = some o :=
    fun b o hb e => (Heap.get?_update_other _ _ (Ne.symm hb)).trans ((Heap.get?_update_other _ _ (Ne.symm hb)).trans e)
  have S : Asleep (gcx X s4 H2 x cap scope s4.heap.objs.size code fp) X.A.in4.in1 (tellS a s5.heap.objs.size OwnTup W (fun ys y i m H => ys.length < sizeLine ∧ ∃ m', m' < m ∧ W (ys ++ [y]) (i + 1) m' H) Zd) (capV cap σ) fp tn a g (m0 + 1)
      { s5 with heap := ((s5.heap.push (lo #[] 0)).update s5.heap.objs.size (Obj.mapSeq (·.push Value.none))).update s5.heap.objs.size (Obj.mapSeq (·.pop)), toks := s5.toks } := by
    have A1 : At (gcx X s4 H2 x cap scope s4.heap.objs.size code fp) (tellS a s5.heap.objs.size OwnTup W (fun ys y i m H => ys.length < sizeLine ∧ ∃ m', m' < m ∧ W (ys ++ [y]) (i + 1) m' H) Zd) (capV cap σ) fp tn 0 H2 _ _ := M.at_list (acc := #[]) (n := 0) (tk := s5.toks)
    obtain ⟨o, nm, qn, ea, ra⟩ := gen6
    refine M.asleep ok hc (fun b hb => ?_) (ht ..) (he ..) (fun ys i m H w => ?_) w0 ⟨_, _, hS3, .nil⟩ ⟨inv_put (s := { s5 with heap := s5.heap.push (lo #[] 0) }) (tk := s5.toks) rfl (Nat.le_of_lt lt5) hne A1.inv hS1 ⟨o, ea⟩ oth hS3, ?_, A1.fpn⟩ ⟨o, nm, qn, oth a o (fun q => hne q.symm) ea, ra⟩ rfl
    · rcases List.mem_cons.mp hb with z | z
      · rw [z]; exact M.new
      · rw [List.mem_singleton.mp z]; exact lt5
    · rcases turn ys i m H w with ⟨st, q⟩ | ⟨gg, Nx, Ny, hN, hNy, q⟩
      · exact .inl ⟨st, q⟩
      · exact .inr ⟨gg, Nx, Ny, hN, hNy, q⟩
    · exact M.T.keep _ _ _ A1.tn fun b hb o e => oth b o (fun z => absurd (Nat.lt_trans lt5 (by rw [← z]; exact (M.ok b hb).2)) (Nat.lt_irrefl _)) e
  refine wpAny_pure ⟨plainId_quiet F.plain_extend_loop _, ext_loop (X := X) (Y := gcx X s4 H2 x cap scope s4.heap.objs.size code fp) M.T rfl rfl rfl hr.depth hr.hd rfl (Nat.le_of_lt lt5) hne (fun z => absurd (Nat.lt_trans lt5 (M.ok _ z).2) (Nat.lt_irrefl _)) (fun ys y i m H hyd => hyd) (fun ys H s' acc n pl z o e I' => ?_) m0 _ S⟩
  show wpAny _ _ (load s5.heap.objs.size >>= _) _ _ s'
  refine wpAny_bind (wpAny_load e ?_)
  exact wpAny_pure (hQ ys H acc s' z o (M.back I'))

theorem code_tuple_g {Q1 : Value → Shared → Prop} {E : Value → Shared → Prop} (hr : Room k X.A) (hc : X.calm = true) (ok : CapOk X.N X.env.scope scope x cap)
    (ht : ∀ (s : Shared) (H : Hp) (C : Addr) (code : Value) (fp : List Addr), PTs (gcx X s H x cap scope C code fp) ifs tt) (he : ∀ (s : Shared) (H : Hp) (C : Addr) (code : Value) (fp : List Addr), PE (gcx X s H x cap scope C code fp) elt te)
    {a g : Addr} {s4 : Shared} {H2 : Hp} {code : Value} {it : Addr} {fp : List Addr} {tn : Nat → Heap → Prop} {J : It} {s5 : Shared} (M : Made X pins σ x cap elt px iter ifs scope pos a g s4 H2 code it fp tn J s5)
    {W : List V → Nat → Nat → Hp → Prop} {m0 : Nat} {Zd : List V → Hp → Prop} (w0 : W [] 0 m0 H2) (hZl : ∀ ys H, Zd ys H → ys.length ≤ sizeLine)
    (turn : ∀ ys i m H, W ys i m H → (J.stop i H ∧ Zd ys H) ∨ (J.go i H ∧ ∃ (Nx : Hp → Prop) (Ny : VK), (∀ H', Nx H' → ∃ m', m' < m ∧ W ys (i + 1) m' H') ∧ (∀ y H', Ny y H' → ys.length < sizeLine ∧ ∃ m', m' < m ∧ W (ys ++ [y]) (i + 1) m' H') ∧
      ∀ v H', J.yld i H v H' → tt (some v :: capV cap σ) H' fun b H3 => if b = true then te (some v :: capV cap σ) H3 Ny else Nx H3))
    (hQ : ∀ ys H' (acc : Array Value) s', Zd ys H' → Vals ys acc.toList → Inv X pins σ H' s' → Q1 (.ref s'.heap.objs.size) { s' with heap := s'.heap.push { cls := .type "tuple", data := .seq acc } }) :
    codeAny (model X.prog X.w) X.A.in1 (.call (.builtin "tuple.__new__") ⟨[.type "tuple", .ref a], []⟩) (wants Q1 E) s5 := by
  refine codeAny_of_tree ?_
  show wpAny _ X.A.in1.in1 (do checkBuiltinCall "tuple.__new__" ⟨[.type "tuple", .ref a], []⟩; PySem.again (.builtin "tuple.__new__" ⟨[.type "tuple", .ref a], []⟩)) _ _ s5
  refine wpAny_bind (wpAny_of_eq (F.newCall_tuple_1 _) (wpAny_pure ⟨plainId_quiet F.plain_tuple_new _, codeAny_builtin F.entry_tuple_new ?_⟩))
  rw [Around.under_plainId F.plain_tuple_new _]
  have hsub := sub_tuple_self
  have hinit := init_tuple_lookup
  have hmh := madeHere_tuple
  have hTI := M.gen.typeIs
  wp_walk using wpAny_typeOf hTI, collect_g hr hc ok ht he M w0 turn
  intro ys H' acc s' hz hv I'
  have hl : acc.size ≤ sizeLine := by
    have e : ys.length = acc.toList.length := Vals.length hv
    have e2 : acc.toList.length = acc.size := by simp
    have e3 := hZl ys H' hz
    omega
  show wpAny _ _ (Builtin.Tuple.tupleExact acc.toList.toArray >>= fun v => ret v) _ _ _
  unfold Builtin.Tuple.tupleExact
  refine wpAny_bind (wpAny_newObj_type ?_ (by show acc.toList.toArray.size ≤ sizeLine; simpa using hl))
  refine wpAny_pure ?_
  have e : acc.toList.toArray = acc := by simp
  rw [e]
  exact hQ ys H' acc s' hz hv I'

theorem pe_tupG (hr : Room k X.A) (hc : X.calm = true) (hg : Gl X "tuple") (hm : X.mg "tuple" = none) (TB : TabB X.base X.mg c P) (hcode : X.env.code = .ref c) (ok : CapOk X.N X.env.scope scope x cap) (hi : PI X (.Name x px) iter wi)
    (ht : ∀ (s : Shared) (H : Hp) (C : Addr) (code : Value) (fp : List Addr), PTs (gcx X s H x cap scope C code fp) ifs tt) (he : ∀ (s : Shared) (H : Hp) (C : Addr) (code : Value) (fp : List Addr), PE (gcx X s H x cap scope C code fp) elt te)
    (hs : ∀ v, genFold iter X.env v = pure v := by intro _; rfl)
    (hst : starEach [gEx elt x px iter ifs scope pos] X.env = (false, eval (gEx elt x px iter ifs scope pos) X.env) :: starEach [] X.env := by rfl) (hpl : (backTo cpos (starEach [] X.env)).any (·.1) = false := by rfl) :
    PE X (.Call (.Name "tuple" p) [gEx elt x px iter ifs scope pos] [] cpos) (tTupG P cap wi tt te) := by
  refine ⟨fun pins s σ H Q I h => ?_⟩
  refine wpAny_Call_Name_kw (ld_blt I hg hm (show bootBuiltins "tuple" = some (.type "tuple") by decide +kernel) ?_)
  refine PyProof.Rows.callWith_type1 ?_ hst hpl
  rw [hst]
  show wpAny _ _ (spliced ((false, eval (gEx elt x px iter ifs scope pos) X.env) :: backTo cpos (starEach [] X.env))) _ _ s
  refine Calls.spliced_cons (g_make hr TB hcode ok hi hs I h fun a g s4 H1 H2 code it fp tn J s5 M hT hR => ?_)
  refine Calls.spliced_nil ?_
  obtain ⟨W, ⟨m0, w0⟩, turn⟩ := hR H2 hT
  refine callType_codes (Q₁ := fun obj s1 => s1.TypeIs obj "tuple" ∧ EP X pins σ Q obj s1) F.called_tuple (F.typeCall_tuple_1 _) F.entry_object_init
    (code_tuple_g (Zd := fun ys H => ys.length ≤ sizeLine ∧ ∀ l, H l = none → Q (.ref l) (upd H l (.tup ys))) hr hc ok ht he M w0 (fun ys H q => q.1) turn fun ys H' acc s' hz hv I' => ⟨⟨_, Heap.get?_push_size _ rfl, rfl⟩, ?_⟩) fun obj s1 h1 => ?_
  · have hf : H' s'.heap.objs.size = none := I'.hok.fresh (Nat.le_refl _)
    refine ⟨.ref s'.heap.objs.size, upd H' s'.heap.objs.size (.tup ys), I'.laid (t' := s'.toks) (fun b u e => Heap.get?_push_of_some _ e) (Nat.le_refl _) ⟨hz.1, acc.toList, hv, ⟨{ cls := .type "tuple", data := .seq acc }, Heap.get?_push_size _ rfl, rfl, 0, by simp⟩⟩, rfl, hz.2 _ hf⟩
  · exact ⟨h1.1, F.args_object_init_2 obj _, object_init_meets F.called_tuple.init.lookup F.called_tuple.made (by decide) X.prog X.w X.A.in1 _ s1 ⟨h1.1, rfl, h1.2⟩⟩
end
end GX
end

section
set_option Elab.async false
set_option linter.all false
set_option maxRecDepth 100000
set_option maxHeartbeats 4000000
/-! Tools for a program of many defs: the tables of code objects, heaps that grow, walks over known sources. -/
namespace PG
open PySem PySem.Spec PyProof.Rows L2 GX GxR

/-! ### tables -/
def Tabs (T : List Addr) (H : Hp) : Prop := ∀ P ∈ T, TabG H P
/-- all that is no table is kept; the tables stand -/
structure Ext (T : List Addr) (H H' : Hp) : Prop where
  keep : ∀ b o, H b = some o → (∀ ps, o ≠ .tbl ps) → H' b = some o
  tabs : Tabs T H'
  dom : ∀ b o, H b = some o → ∃ o', H' b = some o'
section
variable {T : List Addr} {H H1 H2 : Hp}
theorem Ext.refl (h : Tabs T H) : Ext T H H := ⟨fun _ _ e _ => e, h, fun _ o e => ⟨o, e⟩⟩
theorem Ext.trans (a : Ext T H H1) (b : Ext T H1 H2) : Ext T H H2 := ⟨fun c o e n => b.keep c o (a.keep c o e n) n, b.tabs, fun c o e => let ⟨o', e'⟩ := a.dom c o e; b.dom c o' e'⟩
theorem tabs_upd {p : Addr} {o : HO} (h : Tabs T H) (hp : H p = none) : Tabs T (upd H p o) := fun P hP => by
  obtain ⟨ps, e, r⟩ := h P hP
  exact ⟨ps, by rw [upd_ne (ne_of_none e hp)]; exact e, r⟩
theorem Ext.new {p : Addr} {o : HO} (h : Tabs T H) (hp : H p = none) : Ext T H (upd H p o) := ⟨fun b u e _ => by rw [upd_ne (ne_of_none e hp)]; exact e, tabs_upd h hp, fun b u e => ⟨u, by rw [upd_ne (ne_of_none e hp)]; exact e⟩⟩
theorem Ext.tabbed {P : Addr} (h : Tabs T H) (hP : TabG H P) (t : Tabbed P H H1) : Ext T H H1 := by
  obtain ⟨⟨ps, e1, r1⟩, k⟩ := t
  obtain ⟨ps0, e0, _⟩ := hP
  refine ⟨fun b o e n => ?_, fun Q hQ => ?_, fun b o e => ?_⟩
  · have hb : b ≠ P := fun z => by
      rw [z, e0] at e
      exact n ps0 (Option.some.inj e).symm
    rw [k b hb]
    exact e
  · by_cases hb : Q = P
    · rw [hb]; exact ⟨ps, e1, r1⟩
    · obtain ⟨qs, e, r⟩ := h Q hQ
      exact ⟨qs, by rw [k Q hb]; exact e, r⟩
  · by_cases hb : b = P
    · rw [hb]; exact ⟨_, e1⟩
    · exact ⟨o, by rw [k b hb]; exact e⟩
/-- a list or another thing that is no table has changed at p -/
theorem Ext.set {p : Addr} {o : HO} (a : Ext T H H1) (hp : H p = none) (hn : ∃ u, H1 p = some u ∧ ∀ ps, u ≠ .tbl ps) : Ext T H (upd H1 p o) := by
  obtain ⟨u, eu, nu⟩ := hn
  refine ⟨fun b v e n => by rw [upd_ne (ne_of_none e hp)]; exact a.keep b v e n, fun P hP => ?_, fun b v e => by rw [upd_ne (ne_of_none e hp)]; exact a.dom b v e⟩
  obtain ⟨ps, e, r⟩ := a.tabs P hP
  have : P ≠ p := fun z => by
    rw [z, eu] at e
    exact nu ps (Option.some.inj e)
  exact ⟨ps, by rw [upd_ne this]; exact e, r⟩
theorem Ext.none (a : Ext T H H1) {p : Addr} (h : H1 p = none) : H p = none := by
  cases q : H p with
  | none => rfl
  | some o =>
    obtain ⟨o', e⟩ := a.dom p o q
    rw [h] at e
    cases e
theorem Ext.seqL {K : PySem.W.Frag} {a : Addr} {xs : List V} (e : Ext T H H1) (h : SqL K H a xs) : SqL K H1 a xs := by
  rcases h with (h | ⟨o, h⟩) | h
  · exact .inl (.inl (e.keep _ _ h fun _ z => by cases z))
  · exact .inl (.inr ⟨o, e.keep _ _ h fun _ z => by cases z⟩)
  · exact .inr h
theorem Ext.seqT {K : PySem.W.Frag} {a : Addr} {xs : List V} (e : Ext T H H1) (h : SqT K H a xs) : SqT K H1 a xs := by
  rcases h with (h | ⟨o, h⟩) | h
  · exact .inl (.inl (e.keep _ _ h fun _ z => by cases z))
  · exact .inl (.inr ⟨o, e.keep _ _ h fun _ z => by cases z⟩)
  · exact .inr h
theorem Ext.lst {a : Addr} {xs : List V} (e : Ext T H H1) (h : H a = some (.lst xs)) : H1 a = some (.lst xs) := e.keep _ _ h fun _ z => by cases z
theorem Ext.tup {a : Addr} {xs : List V} (e : Ext T H H1) (h : H a = some (.tup xs)) : H1 a = some (.tup xs) := e.keep _ _ h fun _ z => by cases z
end

/-! ### sources -/
/-- the iterator hands out xs as long as Ok -/
structure Src (J : It) (xs : List V) (Ok : Hp → Prop) : Prop where
  go : ∀ i H, Ok H → i < xs.length → J.go i H
  yld : ∀ i H v H', Ok H → i < xs.length → J.yld i H v H' → H' = H ∧ xs[i]? = some v
  stop : ∀ i H, Ok H → xs.length ≤ i → J.stop i H
theorem src_list {K : PySem.W.Frag} {a : Addr} {xs : List V} : Src (Itl K a) xs fun H => SqL K H a xs :=
  ⟨fun i H h hi => ⟨xs, xs[i], h, by simp [hi]⟩, fun i H v H' h hi ⟨e, y⟩ => ⟨e, by rw [List.getElem?_eq_getElem hi]; have q := y xs h; rw [List.getElem?_eq_getElem hi] at q; exact q⟩, fun i H h hi => ⟨xs, h, hi⟩⟩
theorem src_tup {K : PySem.W.Frag} {a : Addr} {xs : List V} : Src (Itt K a) xs fun H => SqT K H a xs :=
  ⟨fun i H h hi => ⟨xs, xs[i], h, by simp [hi]⟩, fun i H v H' h hi ⟨e, y⟩ => ⟨e, by rw [List.getElem?_eq_getElem hi]; have q := y xs h; rw [List.getElem?_eq_getElem hi] at q; exact q⟩, fun i H h hi => ⟨xs, h, hi⟩⟩
def rngV (lo : Int) (n : Nat) : List V := (List.range n).map fun (k : Nat) => V.int (lo + k)
theorem rngV_length {lo : Int} {n : Nat} : (rngV lo n).length = n := by simp [rngV]
theorem rngV_get {lo : Int} {n i : Nat} (h : i < n) : (rngV lo n)[i]? = some (.int (lo + i)) := by simp [rngV, h]
theorem src_rng {lo : Int} {n : Nat} : Src (Itr lo n) (rngV lo n) fun _ => True :=
  ⟨fun i H _ hi => by rw [rngV_length] at hi; exact hi, fun i H v H' _ hi ⟨e, y⟩ => ⟨e, by rw [rngV_length] at hi; rw [rngV_get hi, y]⟩, fun i H _ hi => by rw [rngV_length] at hi; exact hi⟩

section
variable {J : It} {xs : List V} {Ok : Hp → Prop} {tt : TT} {te : TE} {cv : L2.St} {Q : VK} {H2 : Hp}
/-- all(..) without tests: Pv by the turn -/
theorem all_src (S : Src J xs Ok) (Pv : Nat → Hp → Prop) (h0 : Pv 0 H2) (hl : ∀ i H, Pv i H → Ok H)
    (hs : ∀ i v H, xs[i]? = some v → Pv i H → te (some v :: cv) H fun y H4 => ∃ z, y = .bl z ∧ (z = true → Pv (i + 1) H4) ∧ (z = false → Q (.bl false) H4)) (hd : ∀ H, Pv xs.length H → Q (.bl true) H) :
    ∃ W : Nat → Nat → Hp → Prop, (∃ m, W 0 m H2) ∧ ∀ i m H, W i m H →
      (J.stop i H ∧ Q (.bl true) H) ∨ (J.go i H ∧ ∃ Nx : Hp → Prop, (∀ H', Nx H' → ∃ m', m' < m ∧ W (i + 1) m' H') ∧
        ∀ v H', J.yld i H v H' → tYes (some v :: cv) H' fun b H3 => if b = true then te (some v :: cv) H3 fun y H4 => ∃ z, y = .bl z ∧ (z = true → Nx H4) ∧ (z = false → Q (.bl false) H4) else Nx H3) := by
  refine ⟨fun i m H => m = xs.length - i ∧ i ≤ xs.length ∧ Pv i H, ⟨xs.length, by simp, Nat.zero_le _, h0⟩, ?_⟩
  rintro i m H ⟨rfl, hi, p⟩
  by_cases hlt : i < xs.length
  · refine .inr ⟨S.go i H (hl i H p) hlt, Pv (i + 1), fun H' p' => ⟨xs.length - (i + 1), by omega, rfl, hlt, p'⟩, fun v H' y => ?_⟩
    obtain ⟨e, q⟩ := S.yld i H v H' (hl i H p) hlt y
    subst e
    exact iteT (B := Pv (i + 1) H') (hs i v _ q p)
  · have e : i = xs.length := by omega
    subst e
    exact .inl ⟨S.stop _ H (hl _ H p) (Nat.le_refl _), hd H p⟩
theorem any_src (S : Src J xs Ok) (Pv : Nat → Hp → Prop) (h0 : Pv 0 H2) (hl : ∀ i H, Pv i H → Ok H)
    (hs : ∀ i v H, xs[i]? = some v → Pv i H → te (some v :: cv) H fun y H4 => ∃ z, y = .bl z ∧ (z = false → Pv (i + 1) H4) ∧ (z = true → Q (.bl true) H4)) (hd : ∀ H, Pv xs.length H → Q (.bl false) H) :
    ∃ W : Nat → Nat → Hp → Prop, (∃ m, W 0 m H2) ∧ ∀ i m H, W i m H →
      (J.stop i H ∧ Q (.bl false) H) ∨ (J.go i H ∧ ∃ Nx : Hp → Prop, (∀ H', Nx H' → ∃ m', m' < m ∧ W (i + 1) m' H') ∧
        ∀ v H', J.yld i H v H' → tYes (some v :: cv) H' fun b H3 => if b = true then te (some v :: cv) H3 fun y H4 => ∃ z, y = .bl z ∧ (z = false → Nx H4) ∧ (z = true → Q (.bl true) H4) else Nx H3) := by
  refine ⟨fun i m H => m = xs.length - i ∧ i ≤ xs.length ∧ Pv i H, ⟨xs.length, by simp, Nat.zero_le _, h0⟩, ?_⟩
  rintro i m H ⟨rfl, hi, p⟩
  by_cases hlt : i < xs.length
  · refine .inr ⟨S.go i H (hl i H p) hlt, Pv (i + 1), fun H' p' => ⟨xs.length - (i + 1), by omega, rfl, hlt, p'⟩, fun v H' y => ?_⟩
    obtain ⟨e, q⟩ := S.yld i H v H' (hl i H p) hlt y
    subst e
    exact iteT (B := Pv (i + 1) H') (hs i v _ q p)
  · have e : i = xs.length := by omega
    subst e
    exact .inl ⟨S.stop _ H (hl _ H p) (Nat.le_refl _), hd H p⟩
/-- sum(..) without tests, the elements fs -/
theorem sum_src (S : Src J xs Ok) (fs : List Int) (hf : fs.length = xs.length) (Pv : Nat → Hp → Prop) (h0 : Pv 0 H2) (hl : ∀ i H, Pv i H → Ok H)
    (hs : ∀ i v f H, xs[i]? = some v → fs[i]? = some f → Pv i H → te (some v :: cv) H fun y H4 => ∃ j, y = .int j ∧ (j = f ∧ Pv (i + 1) H4)) (hd : ∀ H, Pv xs.length H → Q (.int fs.sum) H) :
    ∃ W : List Int → Nat → Nat → Hp → Prop, (∃ m, W [] 0 m H2) ∧ ∀ js i m H, W js i m H →
      (J.stop i H ∧ Q (.int js.sum) H) ∨ (J.go i H ∧ ∃ (Nx : Hp → Prop) (Ny : Int → Hp → Prop), (∀ H', Nx H' → ∃ m', m' < m ∧ W js (i + 1) m' H') ∧ (∀ j H', Ny j H' → ∃ m', m' < m ∧ W (js ++ [j]) (i + 1) m' H') ∧
        ∀ v H', J.yld i H v H' → tYes (some v :: cv) H' fun b H3 => if b = true then te (some v :: cv) H3 fun y H4 => ∃ j, y = .int j ∧ Ny j H4 else Nx H3) := by
  refine ⟨fun js i m H => m = xs.length - i ∧ i ≤ xs.length ∧ js = fs.take i ∧ Pv i H, ⟨xs.length, by simp, Nat.zero_le _, by simp, h0⟩, ?_⟩
  rintro js i m H ⟨rfl, hi, rfl, p⟩
  by_cases hlt : i < xs.length
  · have hff : fs[i]? = some fs[i] := List.getElem?_eq_getElem (by omega)
    refine .inr ⟨S.go i H (hl i H p) hlt, fun _ => False, fun j H' => j = fs[i] ∧ Pv (i + 1) H', fun _ z => z.elim, fun j H' ⟨e, p'⟩ => ⟨xs.length - (i + 1), by omega, rfl, hlt, by rw [List.take_add_one, hff, e]; rfl, p'⟩, fun v H' y => ?_⟩
    obtain ⟨e, q⟩ := S.yld i H v H' (hl i H p) hlt y
    subst e
    exact iteT (B := False) (hs i v _ _ q hff p)
  · have e : i = xs.length := by omega
    subst e
    refine .inl ⟨S.stop _ H (hl _ H p) (Nat.le_refl _), ?_⟩
    rw [List.take_of_length_le (by omega)]
    exact hd H p
/-- max(..) without tests, the elements f :: fs -/
theorem max_src (S : Src J xs Ok) (f0 : Int) (fr : List Int) (hf : (f0 :: fr).length = xs.length) (Pv : Nat → Hp → Prop) (h0 : Pv 0 H2) (hl : ∀ i H, Pv i H → Ok H)
    (hs : ∀ i v f H, xs[i]? = some v → (f0 :: fr)[i]? = some f → Pv i H → te (some v :: cv) H fun y H4 => ∃ j, y = .int j ∧ (j = f ∧ Pv (i + 1) H4)) (hd : ∀ H, Pv xs.length H → Q (.int (best f0 fr)) H) :
    ∃ W : List Int → Nat → Nat → Hp → Prop, (∃ m, W [] 0 m H2) ∧ ∀ js i m H, W js i m H →
      (J.stop i H ∧ ∃ j r, js = j :: r ∧ Q (.int (best j r)) H) ∨ (J.go i H ∧ ∃ (Nx : Hp → Prop) (Ny : Int → Hp → Prop), (∀ H', Nx H' → ∃ m', m' < m ∧ W js (i + 1) m' H') ∧ (∀ j H', Ny j H' → ∃ m', m' < m ∧ W (js ++ [j]) (i + 1) m' H') ∧
        ∀ v H', J.yld i H v H' → tYes (some v :: cv) H' fun b H3 => if b = true then te (some v :: cv) H3 fun y H4 => ∃ j, y = .int j ∧ Ny j H4 else Nx H3) := by
  generalize hfs : f0 :: fr = fs at hf hs
  refine ⟨fun js i m H => m = xs.length - i ∧ i ≤ xs.length ∧ js = fs.take i ∧ Pv i H, ⟨xs.length, by simp, Nat.zero_le _, by simp, h0⟩, ?_⟩
  rintro js i m H ⟨rfl, hi, rfl, p⟩
  by_cases hlt : i < xs.length
  · have hff : fs[i]? = some fs[i] := List.getElem?_eq_getElem (by omega)
    refine .inr ⟨S.go i H (hl i H p) hlt, fun _ => False, fun j H' => j = fs[i] ∧ Pv (i + 1) H', fun _ z => z.elim, fun j H' ⟨e, p'⟩ => ⟨xs.length - (i + 1), by omega, rfl, hlt, by rw [List.take_add_one, hff, e]; rfl, p'⟩, fun v H' y => ?_⟩
    obtain ⟨e, q⟩ := S.yld i H v H' (hl i H p) hlt y
    subst e
    exact iteT (B := False) (hs i v _ _ q hff p)
  · have e : i = xs.length := by omega
    subst e
    refine .inl ⟨S.stop _ H (hl _ H p) (Nat.le_refl _), f0, fr, ?_, hd H p⟩
    rw [List.take_of_length_le (by omega), hfs]
/-- tuple(..), gs what comes of each item (none: it is left out) -/
theorem tup_src (S : Src J xs Ok) (gs : List (Option V)) (hg : gs.length = xs.length) (hlen : xs.length ≤ sizeLine) (Pv : Nat → Hp → Prop) (h0 : Pv 0 H2) (hl : ∀ i H, Pv i H → Ok H)
    (hs : ∀ i v g H, xs[i]? = some v → gs[i]? = some g → Pv i H → tt (some v :: cv) H fun b H3 => if b = true then te (some v :: cv) H3 fun y H4 => g = some y ∧ Pv (i + 1) H4 else g = none ∧ Pv (i + 1) H3)
    (hd : ∀ H, Pv xs.length H → ∀ l, H l = none → Q (.ref l) (upd H l (.tup (gs.filterMap id)))) :
    ∃ W : List V → Nat → Nat → Hp → Prop, (∃ m, W [] 0 m H2) ∧ ∀ ys i m H, W ys i m H →
      (J.stop i H ∧ ys.length ≤ sizeLine ∧ ∀ l, H l = none → Q (.ref l) (upd H l (.tup ys))) ∨ (J.go i H ∧ ∃ (Nx : Hp → Prop) (Ny : VK), (∀ H', Nx H' → ∃ m', m' < m ∧ W ys (i + 1) m' H') ∧ (∀ y H', Ny y H' → ys.length < sizeLine ∧ ∃ m', m' < m ∧ W (ys ++ [y]) (i + 1) m' H') ∧
        ∀ v H', J.yld i H v H' → tt (some v :: cv) H' fun b H3 => if b = true then te (some v :: cv) H3 Ny else Nx H3) := by
  refine ⟨fun ys i m H => m = xs.length - i ∧ i ≤ xs.length ∧ ys = (gs.take i).filterMap id ∧ Pv i H, ⟨xs.length, by simp, Nat.zero_le _, by simp, h0⟩, ?_⟩
  rintro ys i m H ⟨rfl, hi, rfl, p⟩
  have short : ∀ j, ((gs.take j).filterMap id).length ≤ j := fun j => Nat.le_trans (List.length_filterMap_le _ _) (List.length_take_le _ _)
  by_cases hlt : i < xs.length
  · have hgg : gs[i]? = some gs[i] := List.getElem?_eq_getElem (by omega)
    have tk : gs.take (i + 1) = gs.take i ++ [gs[i]] := by rw [List.take_add_one, hgg]; rfl
    refine .inr ⟨S.go i H (hl i H p) hlt, fun H' => gs[i] = none ∧ Pv (i + 1) H', fun y H' => gs[i] = some y ∧ Pv (i + 1) H', fun H' ⟨e, p'⟩ => ⟨xs.length - (i + 1), by omega, rfl, hlt, by rw [tk, List.filterMap_append]; simp [e], p'⟩,
      fun y H' ⟨e, p'⟩ => ⟨Nat.lt_of_le_of_lt (short i) (Nat.lt_of_lt_of_le hlt hlen), xs.length - (i + 1), by omega, rfl, hlt, by rw [tk, List.filterMap_append]; simp [e], p'⟩, fun v H' y => ?_⟩
    obtain ⟨e, q⟩ := S.yld i H v H' (hl i H p) hlt y
    subst e
    exact hs i v _ _ q hgg p
  · have e : i = xs.length := by omega
    subst e
    refine .inl ⟨S.stop _ H (hl _ H p) (Nat.le_refl _), Nat.le_trans (short _) hlen, ?_⟩
    rw [List.take_of_length_le (by omega)]
    exact hd H p
end

/-! ### a def of the text whose code object is known -/
section
variable {P : Program} {w : World} {K : PySem.W.Frag} {mg : Str → Option Value} {base : Heap}
/-- the def's code object, its table -/
abbrev cA (K : PySem.W.Frag) (x : Str) : Addr := (He.cT K (x, none)).1
abbrev cP (K : PySem.W.Frag) (x : Str) : Addr := (He.cT K (x, none)).2
theorem okC {x : Str} {params : Arguments} {body : List Stmt} {scope : Scope} {fd : FuncData} {N ps : List Str} {k : Nat} {sp : Sp} (F : FunD K x x params body scope [] [] (He.ga K x) fd) (S : FnScope N ps scope) (len : ∀ vs H Q E, sp vs H Q E → vs.length = ps.length)
    (hbody : ∀ (A : Around) (outer : List Env) (s : Shared) (H : Hp) (vs : List V) (Q : VK) (E : XK), Room k (A.deeper (envOfC x scope s.heap.objs.size (He.ga K x) (.ref (cA K x)))) → sp vs H Q E →
      ∃ t, PSs (cxOf C8.CX0 P w K mg base N x scope (He.ga K x) (.ref (cA K x)) A outer s H E).nox body t ∧ t { nx := fun _ H' => Q .non H', rt := Q } (start N vs) H) : FnOk P w K mg base C8.CX0 (k + 1) (He.ga K x) fd ps sp := by
  obtain ⟨oc, od, dV, kV, doc, pm, an, cdv, ct, osl, rfl, lk, hcd, _, _⟩ := F.ex
  obtain ⟨c, rfl⟩ := He.codeIn_ref hcd
  have e : cA K x = c := He.codeOf_eq (p := (x, none)) lk rfl
  refine fn_of lk hcd S len fun A outer s H vs Q E hr hsp => ?_
  rw [e] at hbody
  obtain ⟨t, h, q⟩ := hbody A outer s H vs Q E hr hsp
  exact ⟨t, h.nox, q⟩
/-- a def's promise, under its name -/
theorem calC {x : Str} {params : Arguments} {body : List Stmt} {scope : Scope} {N ps : List Str} {k : Nat} {sp : Sp} (F : ∃ fd, FunD K x x params body scope [] [] (He.ga K x) fd) (hm : mg x = some (.ref (He.ga K x))) (S : FnScope N ps scope)
    (hb : ∀ (kV doc pm : Value) (an : Option Addr) (cdv ct : Value) (us : List Value), us.length = ps.length → bindArgs (PySem.W.fnOf x x params body scope .none kV doc pm an cdv ct) ⟨us, []⟩ = pure (ps.zip us)) (len : ∀ vs H Q E, sp vs H Q E → vs.length = ps.length)
    (hbody : ∀ (A : Around) (outer : List Env) (s : Shared) (H : Hp) (vs : List V) (Q : VK) (E : XK), Room k (A.deeper (envOfC x scope s.heap.objs.size (He.ga K x) (.ref (cA K x)))) → sp vs H Q E →
      ∃ t, PSs (cxOf C8.CX0 P w K mg base N x scope (He.ga K x) (.ref (cA K x)) A outer s H E).nox body t ∧ t { nx := fun _ H' => Q .non H', rt := Q } (start N vs) H) : C8.Cal P w K mg base (k + 1) x sp [] := by
  obtain ⟨fd, F⟩ := F
  exact ⟨He.ga K x, fd, ps, [], okC F S len hbody, hm, F.kp, F.bindsN hb, .nil⟩
end

/-! ### rules in which the written part is named -/
section
variable {X : Cx} {K : PySem.W.Frag} {a : Expr} {ta : TE}
theorem ixLK (hK : X.K = K) : IxR X (rIxL K) := by subst hK; exact ix_list
theorem ixTK (hK : X.K = K) : IxR X (rIxT K) := by subst hK; exact ix_tup
def rLen (K : PySem.W.Frag) : List V → Hp → VK → Prop := fun xs H Q => ∃ x n, xs = [x] ∧ LenV K x H n ∧ Q (.int (n : Nat)) H
theorem lenK (hK : X.K = K) : CallR X (.builtin "len") (rLen K) := by subst hK; exact call_len
def tTru (K : PySem.W.Frag) (ta : TE) : TT := fun σ H Q => ta σ H fun x H' => ∃ k, TruV K x H' k ∧ Q k H'
theorem pt_tru (hK : X.K = K) (ha : PE X a ta) (he : ∀ whole, isTrue a X.env whole = (do let v ← whole; standAt a.pos; holding [v] (truthy v)) := by intro _; rfl) : PT X a (tTru K ta) := by subst hK; exact pt_truth ha he
end
end PG
end

section
/-! Bags of beads as lists of naturals, their masks, families as trees: mathematics alone. -/
namespace FM

/-- the mask of a bag -/
def mask (b : List Nat) : Nat := (b.map (2 ^ ·)).sum

theorem mask_nil : mask [] = 0 := rfl
theorem mask_snoc (b : List Nat) (x : Nat) : mask (b ++ [x]) = mask b + 2 ^ x := by
  simp [mask, List.sum_append]

/-- ascending -/
abbrev Asc (b : List Nat) : Prop := b.Pairwise (· < ·)

theorem asc_snoc {b : List Nat} {x : Nat} (h : Asc (b ++ [x])) : Asc b ∧ ∀ y ∈ b, y < x := by
  obtain ⟨h1, _, h3⟩ := List.pairwise_append.mp h
  exact ⟨h1, fun y hy => h3 y hy x (by simp)⟩

theorem rev_ind {α : Type} {P : List α → Prop} (h0 : P []) (h1 : ∀ l x, P l → P (l ++ [x])) : ∀ l, P l := by
  have key : ∀ n (l : List α), l.length = n → P l := by
    intro n
    induction n with
    | zero => intro l hl; rw [List.length_eq_zero_iff.mp hl]; exact h0
    | succ n ih =>
      intro l hl
      have hne : l ≠ [] := by intro e; rw [e] at hl; simp at hl
      rw [← List.dropLast_concat_getLast hne]
      exact h1 _ _ (ih _ (by rw [List.length_dropLast, hl]; rfl))
  exact fun l => key l.length l rfl

theorem mask_lt : ∀ (b : List Nat), Asc b → ∀ n, (∀ y ∈ b, y < n) → mask b < 2 ^ n := by
  intro b
  refine rev_ind (P := fun b => Asc b → ∀ n, (∀ y ∈ b, y < n) → mask b < 2 ^ n) ?_ ?_ b
  · intro _ n _
    rw [mask_nil]
    exact Nat.two_pow_pos n
  · intro l x ih h n hn
    obtain ⟨h1, h2⟩ := asc_snoc h
    have a := ih h1 x h2
    have hx : x < n := hn x (by simp)
    have e : 2 ^ (x + 1) ≤ 2 ^ n := Nat.pow_le_pow_right (by decide) hx
    rw [mask_snoc]
    rw [Nat.pow_succ] at e
    omega

theorem mask_bit : ∀ (b : List Nat), Asc b → ∀ k, (mask b).testBit k = decide (k ∈ b) := by
  intro b
  refine rev_ind (P := fun b => Asc b → ∀ k, (mask b).testBit k = decide (k ∈ b)) ?_ ?_ b
  · intro _ k
    simp [mask_nil]
  · intro l x ih h k
    obtain ⟨h1, h2⟩ := asc_snoc h
    have a := mask_lt l h1 x h2
    have i := ih h1 k
    rw [mask_snoc, Nat.add_comm]
    rcases Nat.lt_trichotomy k x with q | q | q
    · rw [Nat.testBit_two_pow_add_gt q, i]
      simp [Nat.ne_of_lt q]
    · subst q
      rw [Nat.testBit_two_pow_add_eq, Nat.testBit_lt_two_pow a]
      simp
    · have : 2 ^ x + mask l < 2 ^ k := by
        have e : 2 ^ (x + 1) ≤ 2 ^ k := Nat.pow_le_pow_right (by decide) q
        rw [Nat.pow_succ] at e
        omega
      rw [Nat.testBit_lt_two_pow this]
      have n1 : k ∉ l := fun z => absurd (h2 k z) (by omega)
      simp [n1]
      omega

/-- two bits or more -/
theorem holds_two {m : Nat} : (m &&& (m - 1)) ≠ 0 ↔ ∃ i j, i < j ∧ m.testBit i = true ∧ m.testBit j = true := by
  constructor
  · intro h
    apply Classical.byContradiction
    intro hn
    apply h
    apply Nat.eq_of_testBit_eq
    intro k
    rw [Nat.testBit_and, Nat.zero_testBit]
    by_cases hm : m = 0
    · subst hm; simp
    · -- one bit alone: m = 2 ^ i
      obtain ⟨i, hi⟩ := Nat.exists_testBit_of_ne_zero hm
      have e : m = 2 ^ i := by
        apply Nat.eq_of_testBit_eq
        intro j
        rw [Nat.testBit_two_pow]
        by_cases e : i = j
        · subst e; simp [hi]
        · simp only [e, decide_false]
          cases q : m.testBit j with
          | false => rfl
          | true =>
            exfalso
            apply hn
            rcases Nat.lt_or_gt_of_ne e with c | c
            · exact ⟨i, j, c, hi, q⟩
            · exact ⟨j, i, c, q, hi⟩
      rw [e, Nat.testBit_two_pow, Nat.testBit_two_pow_sub_one]
      by_cases c : i = k
      · subst c; simp
      · simp [c]
  · intro ⟨i, j, hij, hi, hj⟩ h
    have e : (m &&& (m - 1)).testBit j = true := by
      rw [Nat.testBit_and, hj, Bool.true_and]
      have r1 : (m % 2 ^ j).testBit i = true := by rw [Nat.testBit_mod_two_pow, hi]; simp [hij]
      have r2 : m % 2 ^ j ≠ 0 := fun z => by rw [z] at r1; simp at r1
      have r3 := Nat.div_add_mod m (2 ^ j)
      have r4 : m % 2 ^ j < 2 ^ j := Nat.mod_lt _ (Nat.two_pow_pos j)
      have r5 : (m - 1) / 2 ^ j = m / 2 ^ j := by
        have hp := Nat.two_pow_pos j
        generalize 2 ^ j = B at r2 r3 r4 hp ⊢
        generalize hd : m / B = d at r3 ⊢
        generalize m % B = r at r2 r3 r4
        have q : m - 1 = B * d + (r - 1) := by omega
        rw [q, Nat.mul_add_div hp, Nat.div_eq_of_lt (by omega)]
        rfl
      rw [Nat.testBit_eq_decide_div_mod_eq, r5, ← Nat.testBit_eq_decide_div_mod_eq]
      exact hj
    rw [h] at e
    simp at e

/-! ### what bars bags from being a family, over masks -/
/-- all bits of the masks -/
def held (ms : List Nat) : Nat := ms.foldl (· ||| ·) 0
theorem foldl_or_bit : ∀ (ms : List Nat) (a k : Nat), (ms.foldl (· ||| ·) a).testBit k = (a.testBit k || ms.any (·.testBit k))
  | [], a, k => by simp
  | m :: r, a, k => by
    rw [List.foldl_cons, foldl_or_bit r, Nat.testBit_or, List.any_cons, Bool.or_assoc]
theorem held_bit (ms : List Nat) (k : Nat) : (held ms).testBit k = ms.any (·.testBit k) := by
  rw [held, foldl_or_bit]; simp

/-- once, twice: as the loop grows them -/
def tw (p : Nat × Nat) (m : Nat) : Nat × Nat := (p.1 ||| m, p.2 ||| (p.1 &&& m))
def twice (ms : List Nat) : Nat := (ms.foldl tw (0, 0)).2
theorem tw_once : ∀ (ms : List Nat) (p : Nat × Nat), (ms.foldl tw p).1 = ms.foldl (· ||| ·) p.1
  | [], _ => rfl
  | m :: r, p => by rw [List.foldl_cons, tw_once r]; rfl
/-- two of the masks, at different places, hold the bit -/
theorem tw_bit : ∀ (ms : List Nat) (p : Nat × Nat) (k : Nat), (ms.foldl tw p).2.testBit k = true →
    p.2.testBit k = true ∨ (p.1.testBit k = true ∧ ∃ (j m : Nat), ms[j]? = some m ∧ m.testBit k = true) ∨ ∃ (i j a b : Nat), i < j ∧ ms[i]? = some a ∧ ms[j]? = some b ∧ a.testBit k = true ∧ b.testBit k = true
  | [], p, k, h => .inl h
  | m :: r, p, k, h => by
    rw [List.foldl_cons] at h
    rcases tw_bit r (tw p m) k h with q | ⟨q1, j, x, q2, q3⟩ | ⟨i, j, a, b, q1, q2, q3, q4, q5⟩
    · have q : (p.2 ||| (p.1 &&& m)).testBit k = true := q
      rw [Nat.testBit_or, Nat.testBit_and, Bool.or_eq_true, Bool.and_eq_true] at q
      rcases q with q | ⟨q, z⟩
      · exact .inl q
      · exact .inr (.inl ⟨q, 0, m, rfl, z⟩)
    · have q1 : (p.1 ||| m).testBit k = true := q1
      rw [Nat.testBit_or, Bool.or_eq_true] at q1
      rcases q1 with q1 | q1
      · exact .inr (.inl ⟨q1, j + 1, x, q2, q3⟩)
      · exact .inr (.inr ⟨0, j + 1, m, x, by omega, rfl, q2, q1, q3⟩)
    · exact .inr (.inr ⟨i + 1, j + 1, a, b, by omega, q2, q3, q4, q5⟩)
theorem twice_bit {ms : List Nat} {k : Nat} (h : (twice ms).testBit k = true) : ∃ (i j a b : Nat), i < j ∧ ms[i]? = some a ∧ ms[j]? = some b ∧ a.testBit k = true ∧ b.testBit k = true := by
  rcases tw_bit ms (0, 0) k h with q | ⟨q, _⟩ | q
  · simp at q
  · simp at q
  · exact q

/-! ### the bags that hang together with the first one -/
def grow1 (g m : Nat) : Nat := if m &&& g ≠ 0 then g ||| m else g
def grow (ms : List Nat) (g : Nat) : Nat := ms.foldl grow1 g
theorem grow1_le (g m : Nat) : g ≤ grow1 g m := by
  unfold grow1
  split
  · exact Nat.left_le_or
  · exact Nat.le_refl _
theorem grow_le : ∀ (ms : List Nat) (g : Nat), g ≤ grow ms g
  | [], g => Nat.le_refl _
  | m :: r, g => Nat.le_trans (grow1_le g m) (grow_le r (grow1 g m))
theorem grow_lt {n : Nat} : ∀ (ms : List Nat) (g : Nat), g < 2 ^ n → (∀ m ∈ ms, m < 2 ^ n) → grow ms g < 2 ^ n
  | [], g, h, _ => h
  | m :: r, g, h, hm => by
    refine grow_lt r (grow1 g m) ?_ fun x hx => hm x (by simp [hx])
    unfold grow1
    split
    · exact Nat.or_lt_two_pow h (hm m (by simp))
    · exact h
theorem grow_zero : ∀ ms : List Nat, grow ms 0 = 0
  | [] => rfl
  | m :: r => by
    show grow r (grow1 0 m) = 0
    have : grow1 0 m = 0 := by simp [grow1]
    rw [this]
    exact grow_zero r
theorem grow_fix : ∀ (ms : List Nat) (g : Nat), grow ms g = g → ∀ m ∈ ms, m &&& g ≠ 0 → g ||| m = g
  | [], _, _, m, hm, _ => by simp at hm
  | x :: r, g, h, m, hm, hne => by
    have h : grow r (grow1 g x) = g := h
    have a := grow1_le g x
    have b := grow_le r (grow1 g x)
    have e : grow1 g x = g := by omega
    rcases List.mem_cons.mp hm with z | z
    · subst z
      unfold grow1 at e
      rw [if_pos hne] at e
      exact e
    · rw [e] at h
      exact grow_fix r g h m z hne
theorem grow_bits : ∀ (ms : List Nat) (g k : Nat), g.testBit k = true → (grow ms g).testBit k = true
  | [], _, _, h => h
  | m :: r, g, k, h => by
    refine grow_bits r (grow1 g m) k ?_
    unfold grow1
    split
    · rw [Nat.testBit_or, h]; rfl
    · exact h

/-! ### families as trees -/
/-- a bead of a bag that is not the one nearest to the root -/
def Own (rk : Nat → Nat) (b : List Nat) (x : Nat) : Prop := x ∈ b ∧ ∃ y ∈ b, rk y < rk x
/-- bags that make a tree with the beads 0 .. n - 1: rk orders the beads from a root on -/
structure Tree (n : Nat) (bs : List (List Nat)) (rk : Nat → Nat) : Prop where
  asc : ∀ b ∈ bs, Asc b
  two : ∀ b ∈ bs, 2 ≤ b.length
  lt : ∀ b ∈ bs, ∀ x ∈ b, x < n
  inj : ∀ x y, x < n → y < n → rk x = rk y → x = y
  uniq : ∀ (i j : Nat) (a b : List Nat) (x : Nat), bs[i]? = some a → bs[j]? = some b → Own rk a x → Own rk b x → i = j
  root : ∃ r, r < n ∧ (∃ b ∈ bs, r ∈ b) ∧ ∀ x, x < n → x ≠ r → ∃ b ∈ bs, Own rk b x

section
variable {n : Nat} {bs : List (List Nat)} {rk : Nat → Nat}
/-- two bags share one bead at most -/
theorem Tree.one (T : Tree n bs rk) {i j : Nat} {a b : List Nat} {x y : Nat} (hij : i ≠ j) (ha : bs[i]? = some a) (hb : bs[j]? = some b) (xa : x ∈ a) (xb : x ∈ b) (ya : y ∈ a) (yb : y ∈ b) : x = y := by
  apply Classical.byContradiction
  intro hne
  have lx := T.lt a (List.mem_of_getElem? ha) x xa
  have ly := T.lt a (List.mem_of_getElem? ha) y ya
  have hr : rk x ≠ rk y := fun e => hne (T.inj x y lx ly e)
  rcases Nat.lt_or_gt_of_ne hr with q | q
  · exact hij (T.uniq i j a b y ha hb ⟨ya, x, xa, q⟩ ⟨yb, x, xb, q⟩)
  · exact hij (T.uniq i j a b x ha hb ⟨xa, y, ya, q⟩ ⟨xb, y, yb, q⟩)
/-- every bead lies in a bag -/
theorem Tree.cover (T : Tree n bs rk) {x : Nat} (h : x < n) : ∃ b ∈ bs, x ∈ b := by
  obtain ⟨r, _, hr, ho⟩ := T.root
  by_cases e : x = r
  · rw [e]; exact hr
  · obtain ⟨b, hb, q⟩ := ho x h e
    exact ⟨b, hb, q.1⟩
theorem Tree.two_le (T : Tree n bs rk) : 2 ≤ n := by
  obtain ⟨r, _, ⟨b, hb, _⟩, _⟩ := T.root
  have a := T.asc b hb
  have t := T.two b hb
  match b, a, t, T.lt b hb with
  | x :: y :: l, a, _, l1 =>
    have h1 : x < y := (List.pairwise_cons.mp a).1 y (by simp)
    have h2 := l1 y (by simp)
    omega
/-- a set of beads that every bag that meets it lies in, and that some bag meets, is all -/
theorem Tree.hang (T : Tree n bs rk) (S : Nat → Prop) (hS : ∀ b ∈ bs, ∀ x ∈ b, S x → ∀ y ∈ b, S y) (h0 : ∃ x, x < n ∧ S x) : ∀ x, x < n → S x := by
  obtain ⟨r, hr, _, ho⟩ := T.root
  -- up to the root
  have up : ∀ k x, rk x = k → x < n → S x → S r := by
    intro k
    induction k using Nat.strongRecOn with
    | ind k ih =>
      intro x hk hx hs
      by_cases e : x = r
      · rw [← e]; exact hs
      · obtain ⟨b, hb, hxb, y, hy, hlt⟩ := ho x hx e
        exact ih (rk y) (by omega) y rfl (T.lt b hb y hy) (hS b hb x hxb hs y hy)
  obtain ⟨x0, hx0, s0⟩ := h0
  have sr := up _ x0 rfl hx0 s0
  -- and down again
  have down : ∀ k x, rk x = k → x < n → S x := by
    intro k
    induction k using Nat.strongRecOn with
    | ind k ih =>
      intro x hk hx
      by_cases e : x = r
      · rw [e]; exact sr
      · obtain ⟨b, hb, hxb, y, hy, hlt⟩ := ho x hx e
        exact hS b hb y hy (ih (rk y) (by omega) y rfl (T.lt b hb y hy)) x hxb
  exact fun x hx => down _ x rfl hx
/-- no bags of which each shares two beads with others of them -/
theorem Tree.ring (T : Tree n bs rk) (L : List Nat) (h : ∀ k ∈ L, ∃ b : List Nat, bs[k]? = some b ∧ ∃ x y : Nat, x ≠ y ∧ x ∈ b ∧ y ∈ b ∧ (∃ (j : Nat) (c : List Nat), j ∈ L ∧ j ≠ k ∧ bs[j]? = some c ∧ x ∈ c) ∧ ∃ (j : Nat) (c : List Nat), j ∈ L ∧ j ≠ k ∧ bs[j]? = some c ∧ y ∈ c) : L = [] := by
  have bound : ∀ n, ∃ M, ∀ x, x < n → rk x < M := by
    intro n
    induction n with
    | zero => exact ⟨0, fun x hx => absurd hx (Nat.not_lt_zero _)⟩
    | succ n ih =>
      obtain ⟨M, hM⟩ := ih
      refine ⟨M + rk n + 1, fun x hx => ?_⟩
      rcases Nat.lt_or_ge x n with q | q
      · have := hM x q
        omega
      · have e : x = n := by omega
        rw [e]; omega
  obtain ⟨M, hM⟩ := bound n
  -- of an own bead that is shared the other bag has no own one: there is a farther one
  have far : ∀ d k b x, M - rk x = d → k ∈ L → bs[k]? = some b → Own rk b x → (∃ (j : Nat) (c : List Nat), j ∈ L ∧ j ≠ k ∧ bs[j]? = some c ∧ x ∈ c) → False := by
    intro d
    induction d using Nat.strongRecOn with
    | ind d ih =>
      intro k b x hd hk hb hx ⟨j, c, hj, hjk, hc, hxc⟩
      obtain ⟨c2, hc2, u, v, huv, hu, hv, su, sv⟩ := h j hj
      rw [hc] at hc2
      cases hc2
      have least : ∀ y ∈ c, rk x ≤ rk y := fun y hy => by
        rcases Nat.lt_or_ge (rk y) (rk x) with q | q
        · exact absurd (T.uniq j k c b x hc hb ⟨hxc, y, hy, q⟩ hx) hjk
        · exact q
      have hcm := List.mem_of_getElem? hc
      have step : ∀ u, u ∈ c → u ≠ x → (∃ (i : Nat) (e : List Nat), i ∈ L ∧ i ≠ j ∧ bs[i]? = some e ∧ u ∈ e) → False := fun u hu hne sh => by
        have l1 := least u hu
        have l2 : rk u ≠ rk x := fun e => hne (T.inj u x (T.lt c hcm u hu) (T.lt c hcm x hxc) e)
        have l3 := hM u (T.lt c hcm u hu)
        exact ih (M - rk u) (by omega) j c u rfl hj hc ⟨hu, x, hxc, by omega⟩ sh
      by_cases e : u = x
      · exact step v hv (fun z => huv (e.trans z.symm)) sv
      · exact step u hu e su
  match L, h, far with
  | [], _, _ => rfl
  | k :: L', h, far =>
    exfalso
    obtain ⟨b, hb, x, y, hxy, hx, hy, sx, sy⟩ := h k (by simp)
    have hbm := List.mem_of_getElem? hb
    have hr : rk x ≠ rk y := fun e => hxy (T.inj x y (T.lt b hbm x hx) (T.lt b hbm y hy) e)
    rcases Nat.lt_or_gt_of_ne hr with q | q
    · exact far _ k b y rfl (by simp) hb ⟨hy, x, hx, q⟩ sy
    · exact far _ k b x rfl (by simp) hb ⟨hx, y, hy, q⟩ sx
end

/-! ### a tree has no bar -/
section
variable {n : Nat} {bs : List (List Nat)} {rk : Nat → Nat}
theorem getm {bs : List (List Nat)} {i m : Nat} (h : (bs.map mask)[i]? = some m) : ∃ b, bs[i]? = some b ∧ m = mask b := by
  rw [List.getElem?_map] at h
  cases q : bs[i]? with
  | none => rw [q] at h; cases h
  | some b => rw [q] at h; cases h; exact ⟨b, rfl, rfl⟩
theorem Tree.mask_lt (T : Tree n bs rk) {N : Nat} (hN : n ≤ N) : ∀ m ∈ bs.map mask, m < 2 ^ N := fun m hm => by
  obtain ⟨b, hb, rfl⟩ := List.mem_map.mp hm
  exact FM.mask_lt b (T.asc b hb) N fun y hy => Nat.lt_of_lt_of_le (T.lt b hb y hy) hN
theorem Tree.held_bit (T : Tree n bs rk) (k : Nat) : (held (bs.map mask)).testBit k = decide (k < n) := by
  rw [FM.held_bit, Bool.eq_iff_iff, List.any_eq_true, decide_eq_true_eq]
  constructor
  · intro ⟨m, hm, hb⟩
    obtain ⟨b, hb2, rfl⟩ := List.mem_map.mp hm
    rw [mask_bit b (T.asc b hb2), decide_eq_true_eq] at hb
    exact T.lt b hb2 k hb
  · intro h
    obtain ⟨b, hb, hk⟩ := T.cover h
    exact ⟨mask b, List.mem_map.mpr ⟨b, hb, rfl⟩, by rw [mask_bit b (T.asc b hb)]; simpa using hk⟩
theorem Tree.no_double (T : Tree n bs rk) (i j a b : Nat) (hij : i < j) (ha : (bs.map mask)[i]? = some a) (hb : (bs.map mask)[j]? = some b) : ((a &&& b) &&& ((a &&& b) - 1)) = 0 := by
  apply Classical.byContradiction
  intro h
  obtain ⟨x, y, hxy, hx, hy⟩ := FM.holds_two.mp h
  obtain ⟨p, hp, rfl⟩ := getm ha
  obtain ⟨q, hq, rfl⟩ := getm hb
  have ap := T.asc p (List.mem_of_getElem? hp)
  have aq := T.asc q (List.mem_of_getElem? hq)
  rw [Nat.testBit_and, Bool.and_eq_true, mask_bit p ap, mask_bit q aq, decide_eq_true_eq, decide_eq_true_eq] at hx hy
  exact absurd (T.one (Nat.ne_of_lt hij) hp hq hx.1 hx.2 hy.1 hy.2) (Nat.ne_of_lt hxy)
theorem Tree.no_apart (T : Tree n bs rk) (g : Nat) (h0 : ∃ k, k < n ∧ g.testBit k = true) (hg : ∀ m ∈ bs.map mask, m &&& g ≠ 0 → g ||| m = g) : ∀ m ∈ bs.map mask, m &&& g ≠ 0 := by
  have all := T.hang (fun x => g.testBit x = true) (fun b hb x hx hs y hy => by
    have hm : mask b ∈ bs.map mask := List.mem_map.mpr ⟨b, hb, rfl⟩
    have hne : mask b &&& g ≠ 0 := fun z => by
      have e : (mask b &&& g).testBit x = true := by rw [Nat.testBit_and, hs, mask_bit b (T.asc b hb)]; simpa using hx
      rw [z] at e
      simp at e
    have e := hg _ hm hne
    have e2 : (g ||| mask b).testBit y = true := by rw [Nat.testBit_or, mask_bit b (T.asc b hb)]; simp [hy]
    rw [e] at e2
    exact e2) h0
  intro m hm z
  obtain ⟨b, hb, rfl⟩ := List.mem_map.mp hm
  have t := T.two b hb
  obtain ⟨x, hx⟩ : ∃ x, x ∈ b := by
    cases b with
    | nil => simp at t
    | cons x r => exact ⟨x, by simp⟩
  have e : (mask b &&& g).testBit x = true := by
    rw [Nat.testBit_and, all x (T.lt b hb x hx), mask_bit b (T.asc b hb)]
    simpa using hx
  rw [z] at e
  simp at e
/-- the first bag meets what grows from it -/
theorem Tree.first_bit (T : Tree n bs rk) {b : List Nat} (hb : bs[0]? = some b) : ∃ k, k < n ∧ (mask b).testBit k = true := by
  have hm := List.mem_of_getElem? hb
  have t := T.two b hm
  cases b with
  | nil => simp at t
  | cons x r =>
    refine ⟨x, T.lt _ hm x (by simp), ?_⟩
    rw [mask_bit _ (T.asc _ hm)]
    simp
theorem Tree.ne (T : Tree n bs rk) : ∃ b r, bs = b :: r := by
  obtain ⟨_, _, ⟨b, hb, _⟩, _⟩ := T.root
  cases bs with
  | nil => simp at hb
  | cons b r => exact ⟨b, r, rfl⟩
/-- the bags that are left -/
def left2 (ms : List Nat) (L : List Nat) (k : Nat) : Bool := decide ((((ms.getD k 0) &&& twice (L.map fun k => ms.getD k 0)) &&& (((ms.getD k 0) &&& twice (L.map fun k => ms.getD k 0)) - 1)) ≠ 0)
theorem Tree.no_ring (T : Tree n bs rk) (L : List Nat) (hnd : L.Nodup) (hlt : ∀ k ∈ L, k < bs.length) (h : ∀ k ∈ L, left2 (bs.map mask) L k = true) : L = [] := by
  have at_ : ∀ k, k < bs.length → ∃ b, bs[k]? = some b ∧ (bs.map mask).getD k 0 = mask b := fun k hk => by
    refine ⟨bs[k], List.getElem?_eq_getElem hk, ?_⟩
    rw [List.getD_eq_getElem?_getD, List.getElem?_map, List.getElem?_eq_getElem hk]
    rfl
  refine T.ring L fun k hk => ?_
  obtain ⟨b, hb, eb⟩ := at_ k (hlt k hk)
  refine ⟨b, hb, ?_⟩
  have z := of_decide_eq_true (h k hk)
  obtain ⟨x, y, hxy, hx, hy⟩ := FM.holds_two.mp z
  rw [eb, Nat.testBit_and, Bool.and_eq_true, mask_bit b (T.asc b (List.mem_of_getElem? hb)), decide_eq_true_eq] at hx hy
  have other : ∀ x, (twice (L.map fun k => (bs.map mask).getD k 0)).testBit x = true → ∃ (j : Nat) (c : List Nat), j ∈ L ∧ j ≠ k ∧ bs[j]? = some c ∧ x ∈ c := fun x hx => by
    obtain ⟨i, j, a, c, hij, hi, hj, ha, hc⟩ := twice_bit hx
    have key : ∀ (i a : Nat), (L.map fun k => (bs.map mask).getD k 0)[i]? = some a → a.testBit x = true → ∃ (u : Nat) (e : List Nat), L[i]? = some u ∧ bs[u]? = some e ∧ x ∈ e := fun i a hi ha => by
      rw [List.getElem?_map] at hi
      cases q : L[i]? with
      | none => rw [q] at hi; cases hi
      | some u =>
        rw [q] at hi
        obtain ⟨e, he, ee⟩ := at_ u (hlt u (List.mem_of_getElem? q))
        have ei : a = mask e := by rw [← ee]; exact (Option.some.inj hi).symm
        refine ⟨u, e, rfl, he, ?_⟩
        rw [ei, mask_bit e (T.asc e (List.mem_of_getElem? he))] at ha
        exact of_decide_eq_true ha
    obtain ⟨u, e, hu, he, hxe⟩ := key i a hi ha
    obtain ⟨v, f, hv, hf, hxf⟩ := key j c hj hc
    have huv : u ≠ v := fun z => by
      rw [z] at hu
      obtain ⟨li, ei⟩ := List.getElem?_eq_some_iff.mp hu
      obtain ⟨lj, ej⟩ := List.getElem?_eq_some_iff.mp hv
      exact Nat.ne_of_lt hij ((List.getElem_inj hnd).mp (ei.trans ej.symm))
    by_cases q : u = k
    · exact ⟨v, f, List.mem_of_getElem? hv, fun z => huv (q.trans z.symm), hf, hxf⟩
    · exact ⟨u, e, List.mem_of_getElem? hu, q, he, hxe⟩
  exact ⟨x, y, Nat.ne_of_lt hxy, hx.1, hy.1, other x hx.2, other y hy.2⟩
end
end FM
end

section
set_option linter.all false
/-! What bars bags from being a family, over masks, for any bags. -/
namespace FM
theorem tw_keep : ∀ (ms : List Nat) (p : Nat × Nat) (k : Nat), p.2.testBit k = true → (ms.foldl tw p).2.testBit k = true
  | [], _, _, h => h
  | m :: r, p, k, h => by
    rw [List.foldl_cons]
    refine tw_keep r (tw p m) k ?_
    show (p.2 ||| (p.1 &&& m)).testBit k = true
    rw [Nat.testBit_or, h]; rfl
theorem tw_hit : ∀ (ms : List Nat) (p : Nat × Nat) (k : Nat), p.1.testBit k = true → (∃ m ∈ ms, m.testBit k = true) → (ms.foldl tw p).2.testBit k = true
  | [], _, _, _, h => by obtain ⟨m, hm, _⟩ := h; cases hm
  | m :: r, p, k, h, h2 => by
    rw [List.foldl_cons]
    obtain ⟨x, hx, hb⟩ := h2
    rcases List.mem_cons.mp hx with q | q
    · refine tw_keep r (tw p m) k ?_
      show (p.2 ||| (p.1 &&& m)).testBit k = true
      rw [Nat.testBit_or, Nat.testBit_and, h, ← q, hb]
      simp
    · refine tw_hit r (tw p m) k ?_ ⟨x, q, hb⟩
      show (p.1 ||| m).testBit k = true
      rw [Nat.testBit_or, h]; rfl
theorem tw_two : ∀ (ms : List Nat) (p : Nat × Nat) (k i j a b : Nat), i < j → ms[i]? = some a → ms[j]? = some b → a.testBit k = true → b.testBit k = true → (ms.foldl tw p).2.testBit k = true
  | [], _, _, _, _, _, _, _, h, _, _, _ => by simp at h
  | m :: r, p, k, 0, j + 1, a, b, _, h1, h2, h3, h4 => by
    rw [List.foldl_cons]
    simp at h1 h2
    subst h1
    refine tw_hit r (tw p m) k ?_ ⟨b, List.mem_of_getElem? h2, h4⟩
    show (p.1 ||| m).testBit k = true
    rw [Nat.testBit_or, h3]; simp
  | m :: r, p, k, i + 1, j + 1, a, b, hij, h1, h2, h3, h4 => by
    rw [List.foldl_cons]
    simp at h1 h2
    exact tw_two r (tw p m) k i j a b (by omega) h1 h2 h3 h4
theorem twice_two {ms : List Nat} {k i j a b : Nat} (hij : i ≠ j) (h1 : ms[i]? = some a) (h2 : ms[j]? = some b) (h3 : a.testBit k = true) (h4 : b.testBit k = true) : (twice ms).testBit k = true := by
  rcases Nat.lt_or_gt_of_ne hij with q | q
  · exact tw_two ms (0, 0) k i j a b q h1 h2 h3 h4
  · exact tw_two ms (0, 0) k j i b a q h2 h1 h4 h3
/-- the bead x of bag k lies in another bag of L -/
def Tied (ms : List Nat) (L : List Nat) (k x : Nat) : Prop := (ms.getD k 0).testBit x = true ∧ ∃ j ∈ L, j ≠ k ∧ (ms.getD j 0).testBit x = true
def Two (ms : List Nat) (L : List Nat) (k : Nat) : Prop := ∃ x y, x < y ∧ Tied ms L k x ∧ Tied ms L k y
theorem Two.mono {ms L L' : List Nat} {k : Nat} (h : Two ms L k) (hs : ∀ j ∈ L, j ∈ L') : Two ms L' k := by
  obtain ⟨x, y, hxy, ⟨h1, j, hj, h2⟩, ⟨g1, i, hi, g2⟩⟩ := h
  exact ⟨x, y, hxy, ⟨h1, j, hs j hj, h2⟩, ⟨g1, i, hs i hi, g2⟩⟩
theorem tied_iff {ms L : List Nat} {k x : Nat} (hk : k ∈ L) (nd : L.Nodup) : ((ms.getD k 0) &&& twice (L.map fun k => ms.getD k 0)).testBit x = true ↔ Tied ms L k x := by
  rw [Nat.testBit_and, Bool.and_eq_true]
  constructor
  · rintro ⟨h1, h2⟩
    obtain ⟨i, j, a, b, hij, ha, hb, ta, tb⟩ := twice_bit h2
    rw [List.getElem?_map] at ha hb
    cases ea : L[i]? with
    | none => rw [ea] at ha; cases ha
    | some u =>
      cases eb : L[j]? with
      | none => rw [eb] at hb; cases hb
      | some v =>
        rw [ea] at ha
        rw [eb] at hb
        cases ha
        cases hb
        obtain ⟨hi, eu⟩ := List.getElem?_eq_some_iff.mp ea
        obtain ⟨hj, ev⟩ := List.getElem?_eq_some_iff.mp eb
        have hne : u ≠ v := fun z => by
          have := (List.pairwise_iff_getElem.mp nd) i j hi hj hij
          rw [eu, ev] at this
          exact this z
        by_cases e : u = k
        · exact ⟨h1, v, List.mem_of_getElem? eb, fun z => hne (by rw [e, z]), tb⟩
        · exact ⟨h1, u, List.mem_of_getElem? ea, e, ta⟩
  · rintro ⟨h1, j, hj, hne, h2⟩
    refine ⟨h1, ?_⟩
    obtain ⟨a, ha⟩ := List.mem_iff_getElem?.mp hk
    obtain ⟨b, hb⟩ := List.mem_iff_getElem?.mp hj
    have hab : a ≠ b := fun z => by
      subst z
      rw [ha] at hb
      cases hb
      exact hne rfl
    exact twice_two hab (show (L.map fun k => ms.getD k 0)[a]? = some (ms.getD k 0) by rw [List.getElem?_map, ha]; rfl) (show (L.map fun k => ms.getD k 0)[b]? = some (ms.getD j 0) by rw [List.getElem?_map, hb]; rfl) h1 h2
theorem left2_iff {ms L : List Nat} {k : Nat} (hk : k ∈ L) (nd : L.Nodup) : left2 ms L k = true ↔ Two ms L k := by
  unfold left2
  rw [decide_eq_true_eq, holds_two]
  constructor
  · rintro ⟨x, y, hxy, h1, h2⟩
    exact ⟨x, y, hxy, (tied_iff hk nd).mp h1, (tied_iff hk nd).mp h2⟩
  · rintro ⟨x, y, hxy, h1, h2⟩
    exact ⟨x, y, hxy, (tied_iff hk nd).mpr h1, (tied_iff hk nd).mpr h2⟩
/-- the bags that are left: the most of which each shares two beads with others of them -/
structure Great (ms : List Nat) (L : List Nat) : Prop where
  sub : L.Sublist (List.range ms.length)
  two : ∀ k ∈ L, Two ms L k
  all : ∀ L' : List Nat, (∀ k ∈ L', k < ms.length) → (∀ k ∈ L', Two ms L' k) → ∀ k ∈ L', k ∈ L
theorem sub_range_eq {n : Nat} {a b : List Nat} (ha : a.Sublist (List.range n)) (hb : b.Sublist (List.range n)) (h : ∀ k, k ∈ a ↔ k ∈ b) : a = b := by
  have pa : a.Pairwise (· < ·) := List.Pairwise.sublist ha List.pairwise_lt_range
  have pb : b.Pairwise (· < ·) := List.Pairwise.sublist hb List.pairwise_lt_range
  have na : a.Nodup := pa.imp fun h => Nat.ne_of_lt h
  have nb : b.Nodup := pb.imp fun h => Nat.ne_of_lt h
  have p : a.Perm b := (List.perm_ext_iff_of_nodup na nb).mpr h
  exact List.Perm.eq_of_pairwise (le := fun x y => x ≤ y) (fun x y _ _ h1 h2 => Nat.le_antisymm h1 h2) (pa.imp fun h => Nat.le_of_lt h) (pb.imp fun h => Nat.le_of_lt h) p
theorem Great.uniq {ms L L' : List Nat} (h : Great ms L) (h' : Great ms L') : L = L' :=
  sub_range_eq h.sub h'.sub fun k => ⟨fun hk => h'.all L (fun j hj => List.mem_range.mp (h.sub.subset hj)) h.two k hk, fun hk => h.all L' (fun j hj => List.mem_range.mp (h'.sub.subset hj)) h'.two k hk⟩
/-- J: the bits of the bags that hang together with the first one -/
structure Hung (ms : List Nat) (m0 J : Nat) : Prop where
  first : ∀ k, m0.testBit k = true → J.testBit k = true
  closed : ∀ m ∈ ms, m &&& J ≠ 0 → ∀ k, m.testBit k = true → J.testBit k = true
  least : ∀ g : Nat, (∀ k, m0.testBit k = true → g.testBit k = true) → (∀ m ∈ ms, m &&& g ≠ 0 → ∀ k, m.testBit k = true → g.testBit k = true) → ∀ k, J.testBit k = true → g.testBit k = true
theorem meets_iff {m g : Nat} : m &&& g ≠ 0 ↔ ∃ k, m.testBit k = true ∧ g.testBit k = true := by
  constructor
  · intro h
    obtain ⟨k, hk⟩ := Nat.exists_testBit_of_ne_zero h
    rw [Nat.testBit_and, Bool.and_eq_true] at hk
    exact ⟨k, hk⟩
  · rintro ⟨k, h1, h2⟩ z
    have : (m &&& g).testBit k = true := by rw [Nat.testBit_and, h1, h2]; rfl
    rw [z] at this
    simp at this
theorem grow_min : ∀ (ms : List Nat) (g G : Nat), (∀ k, g.testBit k = true → G.testBit k = true) → (∀ m ∈ ms, m &&& G ≠ 0 → ∀ k, m.testBit k = true → G.testBit k = true) → ∀ k, (grow ms g).testBit k = true → G.testBit k = true
  | [], _, _, h, _, k, hk => h k hk
  | m :: r, g, G, h, hc, k, hk => by
    refine grow_min r (grow1 g m) G (fun j hj => ?_) (fun x hx => hc x (List.mem_cons_of_mem _ hx)) k hk
    unfold grow1 at hj
    by_cases e : m &&& g ≠ 0
    · rw [if_pos e, Nat.testBit_or, Bool.or_eq_true] at hj
      rcases hj with q | q
      · exact h j q
      · obtain ⟨i, h1, h2⟩ := meets_iff.mp e
        exact hc m (by simp) (meets_iff.mpr ⟨i, h1, h i h2⟩) j q
    · rw [if_neg e] at hj
      exact h j hj
theorem hung_of {ms : List Nat} {m0 J : Nat} (h1 : ∀ k, m0.testBit k = true → J.testBit k = true) (h2 : grow ms J = J)
    (h3 : ∀ G : Nat, (∀ k, m0.testBit k = true → G.testBit k = true) → (∀ m ∈ ms, m &&& G ≠ 0 → ∀ k, m.testBit k = true → G.testBit k = true) → ∀ k, J.testBit k = true → G.testBit k = true) : Hung ms m0 J := by
  refine ⟨h1, fun m hm hne k hk => ?_, h3⟩
  have := grow_fix ms J h2 m hm hne
  rw [← this, Nat.testBit_or, hk]
  simp
theorem Hung.uniq {ms : List Nat} {m0 J J' : Nat} (h : Hung ms m0 J) (h' : Hung ms m0 J') : J = J' :=
  Nat.eq_of_testBit_eq fun k => by
    rw [Bool.eq_iff_iff]
    exact ⟨h.least J' h'.first h'.closed k, h'.least J h.first h.closed k⟩
end FM
end

section
set_option Elab.async false
set_option linter.all false
set_option maxRecDepth 100000
set_option maxHeartbeats 4000000
/-! The defs of masks. -/
namespace K00
open PySem PySem.Spec PyProof.Rows L2 GX GxR PG C8
/-- what is known of the text behind the top -/
structure Txt (K : PySem.W.Frag) (mg : Str → Option Value) (base : Heap) : Prop where
  kin : K.In base
  ns : base.Ns mainGlobals mg
  defs : ∀ (i : Nat) (d : He.DefD), fn[i]? = some d → ∃ fd, FunD K d.name d.qual d.params d.body d.scope (d.dvs K) (d.kws K) (He.fAd K d.at_) fd
  facts : ∀ f ∈ fa, f.ok K = true
  tab : ∀ p ∈ tf, TabB base mg (He.cT K p).1 (He.cT K p).2
section
variable {P : Program} {w : World} {K : PySem.W.Frag} {mg : Str → Option Value} {base : Heap}
theorem Txt.g (T : Txt K mg base) {x : Str} (h : (fn.map (·.name)).contains x = true := by decide +kernel) : mg x = some (.ref (He.ga K x)) := He.glo_ok T.kin T.ns (T.facts _ (by
  obtain ⟨d, hd, e⟩ := List.mem_map.mp (List.contains_iff_mem.mp h)
  exact List.mem_append_left _ (List.mem_map.mpr ⟨d, hd, by rw [e]⟩)))
theorem Txt.n (T : Txt K mg base) {x : Str} (h : fr.contains x = true := by decide +kernel) : mg x = none := He.free_ok T.kin T.ns (T.facts _ (List.mem_append_right _ (List.mem_append_left _ (List.mem_map.mpr ⟨x, List.contains_iff_mem.mp h, rfl⟩))))
end
abbrev tabs (K : PySem.W.Frag) : List Addr := tf.map fun p => (He.cT K p).2
theorem Txt.tb {K : PySem.W.Frag} {mg : Str → Option Value} {base : Heap} (T : Txt K mg base) {x : Str} (h : (x, none) ∈ tf := by decide +kernel) : TabB base mg (cA K x) (cP K x) := T.tab _ h
theorem tab_in {K : PySem.W.Frag} {H : Hp} {x : Str} (h : Tabs (tabs K) H) (m : (x, none) ∈ tf := by decide +kernel) : TabG H (cP K x) := h _ (List.mem_map.mpr ⟨_, m, rfl⟩)

/-- a bag's beads as values; a bag, a row of bags at an address -/
abbrev bagV (b : List Nat) : List V := b.map fun (n : Nat) => V.int (n : Int)
def IsB (K : PySem.W.Frag) (H : Hp) (v : V) (b : List Nat) : Prop := ∃ t, v = .ref t ∧ SqT K H t (bagV b)

/-! ### mask_of -/
def spMask (K : PySem.W.Frag) : Sp := fun vs H Q _ => ∃ v b, vs = [v] ∧ IsB K H v b ∧ (∀ x ∈ b, x < 60) ∧ Tabs (tabs K) H ∧ ∀ H', Ext (tabs K) H H' → Q (.int (FM.mask b : Nat)) H'
section
variable {P : Program} {w : World} {K : PySem.W.Frag} {mg : Str → Option Value} {base : Heap}
theorem sc_mask : FnScope ["bag"] ["bag"] (defScope (top p_mask_of)) := fnScope_by (by decide +kernel)
theorem sum_mask (b : List Nat) : (b.map fun (n : Nat) => ((2 ^ n : Nat) : Int)).sum = ((FM.mask b : Nat) : Int) := by
  induction b with
  | nil => rfl
  | cons x r ih =>
    rw [List.map_cons, List.sum_cons, ih]
    show _ = ((((x :: r).map (2 ^ ·)).sum : Nat) : Int)
    rw [List.map_cons, List.sum_cons]
    show _ = ((2 ^ x + FM.mask r : Nat) : Int)
    omega
theorem c_mask (T : Txt K mg base) : Cal P w K mg base 1 "mask_of" (spMask K) [] := by
  refine calC (T.defs f_mask_of _ rfl) T.g sc_mask (fun _ _ _ _ _ _ us hl => match us, hl with | [_], _ => rfl) (fun vs H Q E h => by obtain ⟨v, b, rfl, _⟩ := h; rfl) fun A outer s H vs Q E hr h => ⟨_, PSs.nox (pss_one (ps_ret
    (pe_sumG (x := "bead") (cap := []) hr rfl rfl T.n T.tb rfl (capOk_by (N := ["bag"]) (sc := defScope (top p_mask_of)) (by decide +kernel)) (pi_tup (pv 0)) (fun _ _ _ _ _ => pts_nil) (fun _ _ _ _ _ => pe_op op_shl pe_int (pv 0))))), ?_⟩
  obtain ⟨v, b, rfl, ⟨t, rfl, hS⟩, hb, hT, hQ⟩ := h
  refine ⟨_, rfl, t, rfl, ⟨_, hS⟩, tab_in hT, fun H2 tb => ?_⟩
  have e2 : Ext (tabs K) H H2 := Ext.tabbed hT (tab_in hT) tb
  refine sum_src (src_tup (xs := bagV b)) (b.map fun (n : Nat) => ((2 ^ n : Nat) : Int)) (by simp) (fun i H' => H' = H2) rfl (fun i H' e => by rw [e]; exact e2.seqT hS) (fun i v f H' hv hf e => ?_) (fun H' e => ?_)
  · subst e
    rw [List.getElem?_map] at hv hf
    cases q : b[i]? with
    | none => rw [q] at hv; cases hv
    | some n =>
      rw [q] at hv hf
      cases hv
      cases hf
      refine ⟨_, rfl, _, _, rfl, rfl, ⟨by omega, ?_, by decide⟩, _, rfl, ?_, rfl⟩
      · have := hb n (List.mem_of_getElem? q)
        omega
      · simp
  · rw [sum_mask, e]
    exact hQ H2 e2
end
end K00
end

section
set_option Elab.async false
set_option linter.all false
set_option maxRecDepth 100000
set_option maxHeartbeats 4000000
/-! masks_of, holds_two, missing_bead, twice_held. -/
namespace K00
open PySem PySem.Spec PyProof.Rows L2 GX GxR PG C8
section
variable {P : Program} {w : World} {K : PySem.W.Frag} {mg : Str → Option Value} {base : Heap}

/-- a row of bags -/
structure Each (K : PySem.W.Frag) (H : Hp) (xs : List V) (bs : List (List Nat)) : Prop where
  len : xs.length = bs.length
  is : ∀ (i : Nat) v b, xs[i]? = some v → bs[i]? = some b → IsB K H v b
def IsBs (K : PySem.W.Frag) (H : Hp) (v : V) (bs : List (List Nat)) : Prop := ∃ f xs, v = .ref f ∧ SqT K H f xs ∧ Each K H xs bs
theorem IsB.ext {T : List Addr} {H H' : Hp} {v : V} {b : List Nat} (e : Ext T H H') (h : IsB K H v b) : IsB K H' v b := by
  obtain ⟨t, rfl, q⟩ := h
  exact ⟨t, rfl, e.seqT q⟩
theorem Each.ext {T : List Addr} {H H' : Hp} {xs : List V} {bs : List (List Nat)} (e : Ext T H H') (h : Each K H xs bs) : Each K H' xs bs := ⟨h.len, fun i v b q1 q2 => (h.is i v b q1 q2).ext e⟩
theorem IsBs.ext {T : List Addr} {H H' : Hp} {v : V} {bs : List (List Nat)} (e : Ext T H H') (h : IsBs K H v bs) : IsBs K H' v bs := by
  obtain ⟨f, xs, rfl, q, r⟩ := h
  exact ⟨f, xs, rfl, e.seqT q, r.ext e⟩
theorem tyes_if {σ : L2.St} {H : Hp} {A B : Hp → Prop} (h : A H) : tYes σ H (fun b H3 => if b = true then A H3 else B H3) := iteT (B := B H) h
abbrev small : Nat := 1000
theorem small_line {n : Nat} (h : n ≤ small) : n ≤ sizeLine := Nat.le_of_lt (small1000 h)

/-! ### masks_of -/
def spMasks (K : PySem.W.Frag) : Sp := fun vs H Q _ => ∃ v bs, vs = [v] ∧ IsBs K H v bs ∧ (∀ b ∈ bs, ∀ x ∈ b, x < 60) ∧ bs.length ≤ small ∧ Tabs (tabs K) H ∧
  ∀ H' p, Ext (tabs K) H H' → H p = none → H' p = some (.lst (bagV (bs.map FM.mask))) → Q (.ref p) H'
theorem sc_masks : FnScope ["bags", "bag"] ["bags"] (defScope (top p_masks_of)) := fnScope_by (by decide +kernel)
theorem c_masks (T : Txt K mg base) : Cal P w K mg base 2 "masks_of" (spMasks K) [] := by
  have C1 := c_mask (P := P) (w := w) T
  refine calC (T.defs f_masks_of _ rfl) T.g sc_masks (fun _ _ _ _ _ _ us hl => match us, hl with | [_], _ => rfl) (fun vs H Q E h => by obtain ⟨v, b, rfl, _⟩ := h; rfl) fun A outer s H vs Q E hr h => ⟨_, PSs.nox (pss_one (ps_ret
    (pe_lc (own := [("bag", 1)]) (g := gName 1) (tt := tYes) rfl sc_masks.nd (pi_tup (pv 0)) (blkOk_by (N := ["bags", "bag"]) (sc := defScope (top p_masks_of)) (by decide +kernel)) (fun _ _ _ _ _ => pg_name (i := 1) sc_masks.nd rfl (Or.inl rfl)) (fun _ _ _ _ _ => pts_nil)
      (fun _ _ _ _ _ => pe_c C1 hr (by decide) rfl (pa_cons (pv 1) pa_nil))))), ?_⟩
  obtain ⟨v, bs, rfl, ⟨f, xs, rfl, hS, hE⟩, hb, hl, hT, hQ⟩ := h
  refine ⟨_, rfl, f, rfl, ⟨_, hS⟩, fun D hD => ?_⟩
  refine lc_tup (K := K) (a := f) (xs := xs) (fun i H' => Ext (tabs K) H H' ∧ H' D = some (.lst (bagV ((bs.take i).map FM.mask)))) ⟨Ext.new hT hD, upd_same⟩ (fun i H' _ q => q.1.seqT hS) (fun i x H' hx q => ?_) (fun H' q => ?_)
  · obtain ⟨e, eD⟩ := q
    obtain ⟨b, hbi⟩ : ∃ b, bs[i]? = some b := ⟨bs[i]'(by rw [← hE.len]; exact (List.getElem?_eq_some_iff.mp hx).1), by simp⟩
    refine ⟨rfl, tyes_if ⟨_, rfl, x, b, rfl, (hE.is i x b hx hbi).ext e, hb b (List.mem_of_getElem? hbi), e.tabs, fun H'' e2 => ?_⟩⟩
    have hlt := (List.getElem?_eq_some_iff.mp hbi).1
    refine ⟨_, e2.lst eD, ?_, (e.trans e2).set hD ⟨_, e2.lst eD, fun ps z => by cases z⟩, ?_⟩
    · rw [List.length_map, List.length_map, List.length_take]
      have hl' : bs.length ≤ 1000 := hl
      exact small1000 (by omega)
    · rw [upd_same, List.take_add_one, hbi]
      simp
  · obtain ⟨e, eD⟩ := q
    refine hQ H' D e hD ?_
    rw [eD, List.take_of_length_le (by rw [hE.len]; exact Nat.le_refl _)]

/-! ### holds_two -/
theorem band (a b : Nat) : Builtin.bitAnd (a : Int) (b : Int) = ((a &&& b : Nat) : Int) := by
  rw [PyProof.Rows.bitAnd_pp (Int.natCast_nonneg a) (Int.natCast_nonneg b), Int.toNat_natCast, Int.toNat_natCast]
theorem bor (a b : Nat) : Builtin.bitOr (a : Int) (b : Int) = ((a ||| b : Nat) : Int) := by
  have h1 : ∀ n : Nat, ¬ (0 : Int) ≤ Builtin.bitNot (n : Int) := fun n => by unfold Builtin.bitNot; omega
  have h2 : ∀ n : Nat, (Builtin.bitNot (Builtin.bitNot (n : Int))) = (n : Int) := fun n => by unfold Builtin.bitNot; omega
  unfold Builtin.bitOr
  rw [PyProof.Rows.bitAnd_nn (h1 a) (h1 b), h2, h2, h2, Int.toNat_natCast, Int.toNat_natCast]
def spTwo : Sp := fun vs H Q _ => ∃ m : Nat, vs = [.int (m : Int)] ∧ Q (.bl (decide ((m &&& (m - 1)) ≠ 0))) H
theorem sc_two : FnScope ["mask"] ["mask"] (defScope (top p_holds_two)) := fnScope_by (by decide +kernel)
theorem band_pred (m : Nat) : Builtin.bitAnd (m : Int) ((m : Int) - 1) = ((m &&& (m - 1) : Nat) : Int) := by
  cases m with
  | zero => decide
  | succ m =>
    have e : ((m + 1 : Nat) : Int) - 1 = ((m : Nat) : Int) := by omega
    rw [e, band]
    rfl
theorem c_two (T : Txt K mg base) : Cal P w K mg base 1 "holds_two" spTwo [] := by
  refine calC (T.defs f_holds_two _ rfl) T.g sc_two (fun _ _ _ _ _ _ us hl => match us, hl with | [_], _ => rfl) (fun vs H Q E h => by obtain ⟨v, rfl, _⟩ := h; rfl) fun A outer s H vs Q E hr h => ⟨_, PSs.nox (pss_one (ps_ret
    (pe_cmpR op_ne (pe_op op_and (pv 0) (pe_op op_sub (pv 0) pe_int)) pe_int (nomark _)))), ?_⟩
  obtain ⟨m, rfl, hQ⟩ := h
  refine ⟨_, rfl, _, rfl, _, _, rfl, rfl, _, _, rfl, rfl, ?_⟩
  refine ⟨rfl, ?_⟩
  show Q (.bl (!decide (V.int (Builtin.bitAnd (m : Int) ((m : Int) - 1)) = V.int 0))) H
  rw [band_pred]
  have e : (!decide (V.int ((m &&& (m - 1) : Nat) : Int) = V.int 0)) = decide ((m &&& (m - 1)) ≠ 0) := by
    by_cases z : (m &&& (m - 1)) = 0
    · rw [z]; rfl
    · have z2 : ¬ (V.int ((m &&& (m - 1) : Nat) : Int) = V.int 0) := fun q => z (by injection q with q; omega)
      rw [decide_eq_false z2, decide_eq_true z]
      rfl
  rw [e]
  exact hQ

/-! ### missing_bead: no bead is missing -/
def spMissing (K : PySem.W.Frag) : Sp := fun vs H Q _ => ∃ (p : Addr) (ms : List Nat), vs = [.ref p] ∧ SqL K H p (bagV ms) ∧ FM.held ms < 2 ^ 60 ∧ ms.length ≤ small ∧ (∀ k j, j < k → (FM.held ms).testBit k = true → (FM.held ms).testBit j = true) ∧ Q .non H
theorem sc_missing : FnScope ["masks", "held", "mask", "bead"] ["masks"] (defScope (top p_missing_bead)) := fnScope_by (by decide +kernel)
theorem c_missing (T : Txt K mg base) : Cal P w K mg base 1 "missing_bead" (spMissing K) [] := by
  refine calC (T.defs f_missing_bead _ rfl) T.g sc_missing (fun _ _ _ _ _ _ us hl => match us, hl with | [_], _ => rfl) (fun vs H Q E h => by obtain ⟨p, ms, rfl, _⟩ := h; rfl) fun A outer s H vs Q E hr h => ⟨_, PSs.nox (pss_cons (ps_set (i := 1) sc_missing.nd rfl (.inl rfl) pe_int)
    (pss_cons (ps_for PassesOwn.never rfl (pi_list (pv 0)) (pg_name (i := 2) sc_missing.nd rfl (.inl rfl)) (pss_one (ps_set (i := 1) sc_missing.nd rfl (.inl rfl) (pe_op op_or (pv 1) (pv 2)))))
    (pss_cons (ps_for PassesOwn.never rfl (pi_range1 rfl T.n (pa_cons (pe_bits (pv 1)) pa_nil)) (pg_name (i := 3) sc_missing.nd rfl (.inl rfl))
      (pss_one (ps_if (pt_not (pt_truth (pe_op op_and (pe_op op_shr (pv 1) (pv 3)) pe_int) (by intro _; rfl))) (pss_one (ps_ret (pv 3))) pss_nil)))
    (pss_one (ps_ret pe_non))))), ?_⟩
  obtain ⟨p, ms, rfl, hS, hb, hl, hfull, hQ⟩ := h
  refine ⟨_, rfl, p, rfl, ⟨_, hS⟩, for_list (xs := bagV ms) (fun i σ H' => H' = H ∧ ∃ v, σ = [some (.ref p), some (.int ((ms.take i).foldl (· ||| ·) 0 : Nat)), v, none]) ⟨rfl, none, rfl⟩ (fun i σ H' _ q => by rw [q.1]; exact hS) (fun i x σ H' hx q => ?_) (fun σ H' q => ?_)⟩
  · obtain ⟨rfl, v, rfl⟩ := q
    rw [List.getElem?_map] at hx
    cases q2 : ms[i]? with
    | none => rw [q2] at hx; cases hx
    | some m =>
      rw [q2] at hx
      cases hx
      refine ⟨_, rfl, _, rfl, _, _, rfl, rfl, rfl, some (.int (m : Int)), ?_⟩
      show [some (V.ref p), some (V.int (Builtin.bitOr (((ms.take i).foldl (· ||| ·) 0 : Nat) : Int) (m : Int))), some (.int (m : Int)), none] = _
      rw [bor, List.take_add_one, q2]
      simp
  · obtain ⟨rfl, v, rfl⟩ := q
    have eh : (List.take (bagV ms).length ms).foldl (· ||| ·) 0 = FM.held ms := by
      rw [List.take_of_length_le (by simp)]; rfl
    rw [eh]
    refine ⟨_, rfl, _, rfl, _, rfl, ?_, ?_, ?_⟩
    · have : (0 : Int) ≤ ((Builtin.Int.intBits ((FM.held ms : Nat) : Int) : Nat) : Int) := Int.natCast_nonneg _
      have z : (-2 ^ 62 : Int) ≤ 0 := by decide
      omega
    · have b1 : Builtin.Int.intBits ((FM.held ms : Nat) : Int) ≤ 60 := PyProof.Rows.intBits_le (by simpa using hb)
      have z : ((60 : Nat) : Int) < 2 ^ 62 := by decide
      omega
    · refine for_range (lo := 0) (fun i σ H'' => H'' = H' ∧ ∃ v u, σ = [some (.ref p), some (.int ((FM.held ms : Nat) : Int)), v, u]) ⟨rfl, _, _, rfl⟩ (fun i σ H'' hi q => ?_) (fun σ H'' q => ?_)
      · obtain ⟨rfl, v, u, rfl⟩ := q
        have bit : (FM.held ms).testBit i = true := by
          have hne : FM.held ms ≠ 0 := fun z => by
            rw [z, show Builtin.Int.intBits ((0 : Nat) : Int) = 0 from rfl] at hi
            simp at hi
          have hi2 : i < (FM.held ms).log2 + 1 := by
            have e : Builtin.Int.intBits ((FM.held ms : Nat) : Int) = (FM.held ms).log2 + 1 := by
              unfold Builtin.Int.intBits
              rw [if_neg (by simpa using hne)]
              simp
            rw [e] at hi
            simpa using hi
          have top : (FM.held ms).testBit (FM.held ms).log2 = true := Nat.testBit_log2 hne
          by_cases z : i = (FM.held ms).log2
          · rw [z]; exact top
          · exact hfull _ i (by omega) top
        have val : Builtin.bitAnd (((FM.held ms : Nat) : Int) / 2 ^ ((0 : Int) + (i : Int)).toNat) 1 = 1 := by
          have e1 : ((0 : Int) + (i : Int)).toNat = i := by omega
          rw [e1]
          have e2 : ((FM.held ms : Nat) : Int) / 2 ^ i = ((FM.held ms / 2 ^ i : Nat) : Int) := by simp
          rw [e2, show (1 : Int) = ((1 : Nat) : Int) from rfl, band]
          rw [Nat.testBit_eq_decide_div_mod_eq] at bit
          have e3 := of_decide_eq_true bit
          rw [Nat.and_one_is_mod, e3]
        refine ⟨_, rfl, _, rfl, _, _, rfl, rfl, by omega, _, _, rfl, rfl, true, ?_, iteF ⟨rfl, _, _, rfl⟩⟩
        show true = ((Builtin.bitAnd (((FM.held ms : Nat) : Int) / 2 ^ ((0 : Int) + (i : Int)).toNat) 1) != 0)
        rw [val]
        rfl
      · obtain ⟨rfl, v, u, rfl⟩ := q
        exact hQ
end
end K00
end

section
set_option Elab.async false
set_option linter.all false
set_option maxRecDepth 100000
set_option maxHeartbeats 4000000
/-! first_double, twice_held, hanging_with_first, left_in_rings. -/
namespace K00
open PySem PySem.Spec PyProof.Rows L2 GX GxR PG C8
section
variable {P : Program} {w : World} {K : PySem.W.Frag} {mg : Str → Option Value} {base : Heap}
theorem bagV_get {l : List Nat} {i : Nat} {x : Nat} (h : l[i]? = some x) : (bagV l)[i]? = some (.int (x : Int)) := by simp [bagV, h]
theorem bagV_len {l : List Nat} : (bagV l).length = l.length := by simp [bagV]
theorem get_bagV {l : List Nat} {i : Nat} {v : V} (h : (bagV l)[i]? = some v) : ∃ x, l[i]? = some x ∧ v = .int (x : Int) := by
  rw [List.getElem?_map] at h
  cases q : l[i]? with
  | none => rw [q] at h; cases h
  | some x => rw [q] at h; cases h; exact ⟨x, rfl, rfl⟩
theorem small62 {n : Nat} (h : n ≤ small) : -(2 ^ 62) ≤ (n : Int) ∧ (n : Int) < 2 ^ 62 := by
  have h : n ≤ 1000 := h
  have a : (-(2 ^ 62) : Int) ≤ 0 := by decide
  have b : (1000 : Int) < 2 ^ 62 := by decide
  omega

/-! ### first_double: no two share two beads -/
def spDouble (K : PySem.W.Frag) : Sp := fun vs H Q _ => ∃ (p : Addr) (ms : List Nat), vs = [.ref p] ∧ SqL K H p (bagV ms) ∧ ms.length ≤ small ∧
  (∀ (i j a b : Nat), i < j → ms[i]? = some a → ms[j]? = some b → ((a &&& b) &&& ((a &&& b) - 1)) = 0) ∧ Q .non H
theorem sc_double : FnScope ["masks", "j", "i"] ["masks"] (defScope (top p_first_double)) := fnScope_by (by decide +kernel)
theorem c_double (T : Txt K mg base) : Cal P w K mg base 2 "first_double" (spDouble K) [] := by
  have C2 := c_two (P := P) (w := w) T
  refine calC (T.defs f_first_double _ rfl) T.g sc_double (fun _ _ _ _ _ _ us hl => match us, hl with | [_], _ => rfl) (fun vs H Q E h => by obtain ⟨p, ms, rfl, _⟩ := h; rfl) fun A outer s H vs Q E hr h => ⟨_, PSs.nox (pss_cons
    (ps_for PassesOwn.never rfl (pi_range1 rfl T.n (pa_cons (pe_callB call_len rfl T.n PySem.boot_len (pa_cons (pv 0) pa_nil)) pa_nil)) (pg_name (i := 1) sc_double.nd rfl (.inl rfl))
      (pss_one (ps_for PassesOwn.never rfl (pi_range1 rfl T.n (pa_cons (pv 1) pa_nil)) (pg_name (i := 2) sc_double.nd rfl (.inl rfl))
        (pss_one (ps_if (pt_val (pe_c C2 hr (by decide) rfl (pa_cons (pe_op op_and (pe_ix ix_list (pv 0) (pv 2) (fun _ _ => rfl)) (pe_ix ix_list (pv 0) (pv 1) (fun _ _ => rfl))) pa_nil)))
          (pss_one ps_never) pss_nil)))))
    (pss_one (ps_ret pe_non))), ?_⟩
  obtain ⟨p, ms, rfl, hS, hl, hno, hQ⟩ := h
  refine ⟨_, rfl, _, ms.length, rfl, .inl ⟨_, hS, bagV_len.symm⟩, _, rfl, (small62 hl).1, (small62 hl).2, ?_⟩
  refine for_range (lo := 0) (fun i σ H' => H' = H ∧ ∃ v u, σ = [some (.ref p), v, u]) ⟨rfl, _, _, rfl⟩ (fun j σ H' hj q => ?_) (fun σ H' q => ?_)
  · obtain ⟨rfl, v, u, rfl⟩ := q
    have hj : j < ms.length := by simpa using hj
    have hj1 : j ≤ small := Nat.le_trans (Nat.le_of_lt hj) hl
    have ej : (0 : Int) + (j : Int) = (j : Int) := by omega
    rw [ej]
    refine ⟨_, rfl, _, rfl, (small62 hj1).1, (small62 hj1).2, ?_⟩
    refine for_range (lo := 0) (fun i σ H'' => H'' = H' ∧ ∃ u, σ = [some (.ref p), some (.int (j : Int)), u]) ⟨rfl, _, rfl⟩ (fun i σ H'' hi q => ?_) (fun σ H'' q => ?_)
    · obtain ⟨rfl, u, rfl⟩ := q
      have hi : i < j := by simpa using hi
      have ei : (0 : Int) + (i : Int) = (i : Int) := by omega
      rw [ei]
      have ga : ms[i]? = some (ms[i]'(by omega)) := List.getElem?_eq_getElem (by omega)
      have gb : ms[j]? = some ms[j] := List.getElem?_eq_getElem hj
      refine ⟨_, rfl, _, rfl, p, _, _, _, rfl, rfl, hS, atI_nat (bagV_get ga), _, rfl, _, rfl, p, _, _, _, rfl, rfl, hS, atI_nat (bagV_get gb), _, _, rfl, rfl, ms[i] &&& ms[j], ?_, false, ?_, iteF ⟨rfl, _, rfl⟩⟩
      · show [V.int (Builtin.bitAnd ((ms[i] : Nat) : Int) ((ms[j] : Nat) : Int))] = _
        rw [band]
      · rw [hno i j _ _ hi ga gb]
        try rfl
    · obtain ⟨rfl, u, rfl⟩ := q
      exact ⟨rfl, _, _, rfl⟩
  · obtain ⟨rfl, v, u, rfl⟩ := q
    exact hQ

/-! ### twice_held -/
def spTwice (K : PySem.W.Frag) : Sp := fun vs H Q _ => ∃ (p : Addr) (ms : List Nat), vs = [.ref p] ∧ SqL K H p (bagV ms) ∧ Q (.int (FM.twice ms : Nat)) H
theorem sc_twice : FnScope ["masks", "once", "twice", "mask"] ["masks"] (defScope (top p_twice_held)) := fnScope_by (by decide +kernel)
theorem c_twice (T : Txt K mg base) : Cal P w K mg base 1 "twice_held" (spTwice K) [] := by
  refine calC (T.defs f_twice_held _ rfl) T.g sc_twice (fun _ _ _ _ _ _ us hl => match us, hl with | [_], _ => rfl) (fun vs H Q E h => by obtain ⟨p, ms, rfl, _⟩ := h; rfl) fun A outer s H vs Q E hr h => ⟨_, PSs.nox (pss_cons
    (ps_set (i := 1) sc_twice.nd rfl (.inl rfl) pe_int) (pss_cons (ps_set (i := 2) sc_twice.nd rfl (.inl rfl) pe_int)
    (pss_cons (ps_for PassesOwn.never rfl (pi_list (pv 0)) (pg_name (i := 3) sc_twice.nd rfl (.inl rfl))
      (pss_cons (ps_set (i := 2) sc_twice.nd rfl (.inl rfl) (pe_op op_or (pv 2) (pe_op op_and (pv 1) (pv 3)))) (pss_one (ps_set (i := 1) sc_twice.nd rfl (.inl rfl) (pe_op op_or (pv 1) (pv 3))))))
    (pss_one (ps_ret (pv 2)))))), ?_⟩
  obtain ⟨p, ms, rfl, hS, hQ⟩ := h
  refine ⟨_, rfl, p, rfl, ⟨_, hS⟩, for_list (xs := bagV ms) (fun i σ H' => H' = H ∧ ∃ v, σ = [some (.ref p), some (.int (((ms.take i).foldl FM.tw (0, 0)).1 : Nat)), some (.int (((ms.take i).foldl FM.tw (0, 0)).2 : Nat)), v]) ⟨rfl, none, rfl⟩ (fun i σ H' _ q => by rw [q.1]; exact hS) (fun i x σ H' hx q => ?_) (fun σ H' q => ?_)⟩
  · obtain ⟨rfl, v, rfl⟩ := q
    obtain ⟨m, hm, rfl⟩ := get_bagV hx
    have e : (ms.take (i + 1)).foldl FM.tw (0, 0) = FM.tw ((ms.take i).foldl FM.tw (0, 0)) m := by rw [List.take_add_one, hm]; simp
    generalize (ms.take i).foldl FM.tw (0, 0) = t at e ⊢
    refine ⟨_, rfl, _, rfl, _, rfl, _, _, rfl, rfl, _, _, rfl, rfl, _, rfl, _, rfl, _, _, rfl, rfl, rfl, some (.int (m : Int)), ?_⟩
    rw [e]
    show [some (V.ref p), some (V.int (Builtin.bitOr (t.1 : Int) (m : Int))), some (V.int (Builtin.bitOr (t.2 : Int) (Builtin.bitAnd (t.1 : Int) (m : Int)))), some (V.int (m : Int))] = _
    rw [band, bor, bor]
    rfl
  · obtain ⟨rfl, v, rfl⟩ := q
    refine ⟨_, rfl, ?_⟩
    rw [List.take_of_length_le (by simp)]
    exact hQ
end
end K00
end

section
set_option Elab.async false
set_option linter.all false
set_option maxRecDepth 100000
set_option maxHeartbeats 4000000
/-! hanging_with_first, left_in_rings, first_bar of a family. -/
namespace K00
open PySem PySem.Spec PyProof.Rows L2 GX GxR PG C8
section
variable {P : Program} {w : World} {K : PySem.W.Frag} {mg : Str → Option Value} {base : Heap}
/-- of growth: the first mask and all that it meets -/
def Hangs (ms : List Nat) (m0 : Nat) : Prop := ∀ g : Nat, (∀ k, m0.testBit k = true → g.testBit k = true) → (∀ m ∈ ms, m &&& g ≠ 0 → g ||| m = g) → ∀ m ∈ ms, m &&& g ≠ 0
def spHang (K : PySem.W.Frag) : Sp := fun vs H Q _ => ∃ (p : Addr) (ms : List Nat) (m0 : Nat), vs = [.ref p] ∧ SqL K H p (bagV ms) ∧ ms.length ≤ small ∧ ms[0]? = some m0 ∧ (∀ m ∈ ms, m < 2 ^ 60) ∧ Hangs ms m0 ∧ Tabs (tabs K) H ∧
  ∀ H' q, Ext (tabs K) H H' → H q = none → H' q = some (.tup (bagV (List.range ms.length))) → Q (.ref q) H'
theorem sc_hang : FnScope ["masks", "grown", "mask", "joined"] ["masks"] (defScope (top p_hanging_with_first)) := fnScope_by (by decide +kernel)
theorem c_hang (T : Txt K mg base) : Cal P w K mg base 1 "hanging_with_first" (spHang K) [] := by
  refine calC (T.defs f_hanging_with_first _ rfl) T.g sc_hang (fun _ _ _ _ _ _ us hl => match us, hl with | [_], _ => rfl) (fun vs H Q E h => by obtain ⟨p, ms, m0, rfl, _⟩ := h; rfl) fun A outer s H vs Q E hr h => ⟨_, PSs.nox (pss_cons
    (ps_set (i := 3) sc_hang.nd rfl (.inr rfl) pe_int) (pss_cons (ps_set (i := 1) sc_hang.nd rfl (.inl rfl) (pe_ix ix_list (pv 0) pe_int (fun _ _ => rfl)))
    (pss_cons (ps_while PassesOwn.never (pt_cmpR op_ne (pv 3) (pv 1) (nomark _)) (pss_cons (ps_set (i := 3) sc_hang.nd rfl (.inr rfl) (pv 1))
      (pss_one (ps_for PassesOwn.never rfl (pi_list (pv 0)) (pg_name (i := 2) sc_hang.nd rfl (.inl rfl))
        (pss_one (ps_if (pt_truth (pe_op op_and (pv 2) (pv 1)) (by intro _; rfl)) (pss_one (ps_set (i := 1) sc_hang.nd rfl (.inl rfl) (pe_op op_or (pv 1) (pv 2)))) pss_nil))))))
    (pss_one (ps_ret (pe_tupG (x := "k") (cap := [("masks", 0), ("joined", 3)]) hr rfl rfl T.n T.tb rfl (capOk_by (N := ["masks", "grown", "mask", "joined"]) (sc := defScope (top p_hanging_with_first)) (by decide +kernel))
      (pi_range1 rfl T.n (pa_cons (pe_callB call_len rfl T.n PySem.boot_len (pa_cons (pv 0) pa_nil)) pa_nil))
      (fun _ _ _ _ _ => pts_one (pt_tru (K := K) rfl (pe_op op_and (pe_ix (ixLK (K := K) rfl) (pv 1) (pv 0) (fun _ _ => rfl)) (pv 2)))) (fun _ _ _ _ _ => pv 0))))))), ?_⟩
  obtain ⟨p, ms, m0, rfl, hS, hl, h0, hlt, hh, hT, hQ⟩ := h
  have lt0 := hlt m0 (List.mem_of_getElem? h0)
  refine ⟨_, rfl, p, _, _, _, rfl, rfl, hS, atI_nat (j := 0) (bagV_get h0), ?_⟩
  refine ⟨fun m σ H' => H' = H ∧ ∃ (j g : Nat) (u : Option V), σ = [some (.ref p), some (.int (g : Int)), u, some (.int (j : Int))] ∧ (∀ k, m0.testBit k = true → g.testBit k = true) ∧ (j = g → FM.grow ms g = g) ∧ g < 2 ^ 60 ∧ m = (2 ^ 60 - g) + (if j = g then 0 else 1),
    ⟨_, rfl, 0, m0, none, rfl, fun k hk => hk, fun z => by rw [← z]; exact FM.grow_zero ms, lt0, rfl⟩, ?_⟩
  rintro m σ H' ⟨rfl, j, g, u, rfl, hb, hj, hg, rfl⟩
  refine ⟨_, rfl, _, rfl, rfl, _, rfl, ?_⟩
  by_cases e : j = g
  · subst e
    have e1 : (!decide (V.int (j : Int) = V.int (j : Int))) = false := by simp
    rw [e1]
    refine iteF ?_
    have fixed := FM.grow_fix ms j (hj rfl)
    have en : ((ms.length : Nat) : Int).toNat = ms.length := Int.toNat_natCast _
    refine ⟨_, rfl, _, ms.length, rfl, .inl ⟨_, hS, bagV_len.symm⟩, _, rfl, (small62 hl).1, (small62 hl).2, tab_in hT, fun H2 tb => ?_⟩
    have e2 := Ext.tabbed hT (tab_in hT) tb
    rw [en]
    refine tup_src (src_rng (lo := 0) (n := ms.length)) ((List.range ms.length).map fun (k : Nat) => some (V.int (k : Int))) (by simp [rngV_length]) (by rw [rngV_length]; exact small_line hl) (fun i H'' => H'' = H2) rfl (fun _ _ _ => trivial) (fun i v g H'' hv hgg eH => ?_) (fun H'' eH l hln => ?_)
    · subst eH
      have hi : i < ms.length := by
        have := (List.getElem?_eq_some_iff.mp hv).1
        rw [rngV_length] at this
        exact this
      rw [rngV_get hi] at hv
      have hgg2 : g = some (V.int (i : Int)) := by simpa [hi] using hgg.symm
      have ev : v = V.int (i : Int) := by rw [← Option.some.inj hv]; congr 1; omega
      subst ev
      have gm : ms[i]? = some ms[i] := List.getElem?_eq_getElem hi
      refine ⟨_, rfl, _, rfl, p, _, _, _, rfl, rfl, e2.seqL hS, atI_nat (bagV_get gm), _, rfl, _, _, rfl, rfl, true, ?_, iteT ⟨_, rfl, hgg2, rfl⟩⟩
      show true = (Builtin.bitAnd ((ms[i] : Nat) : Int) (j : Int) != 0)
      rw [band]
      have := hh j hb fixed ms[i] (List.getElem_mem hi)
      simpa using this
    · subst eH
      refine hQ _ l (e2.trans (Ext.new e2.tabs hln)) (e2.none hln) ?_
      rw [upd_same]
      congr 2
      simp [List.filterMap_map, bagV]
  · have e1 : (!decide (V.int (j : Int) = V.int (g : Int))) = true := by
      have : ¬ (V.int (j : Int) = V.int (g : Int)) := fun q => e (by injection q with q; omega)
      simp [this]
    rw [e1]
    refine iteT ?_
    have gle := FM.grow_le ms g
    have glt := FM.grow_lt ms g hg hlt
    refine ⟨fun σ' H'' => H'' = H' ∧ ∃ u', σ' = [some (.ref p), some (.int (FM.grow ms g : Nat)), u', some (.int (g : Int))], fun σ' H'' ⟨eH, u', es⟩ => ⟨_, ?_, eH, g, FM.grow ms g, u', es, fun k hk => FM.grow_bits ms g k (hb k hk), fun z => by rw [← z]; exact z.symm, glt, rfl⟩, ?_⟩
    · rw [if_neg e]
      by_cases z : g = FM.grow ms g
      · rw [if_pos z]; omega
      · rw [if_neg z]; omega
    · refine ⟨_, rfl, _, rfl, p, rfl, ⟨_, hS⟩, for_list (xs := bagV ms) (fun i σ H'' => H'' = H' ∧ ∃ u', σ = [some (.ref p), some (.int ((ms.take i).foldl FM.grow1 g : Nat)), u', some (.int (g : Int))]) ⟨rfl, u, rfl⟩ (fun i σ H'' _ q => by rw [q.1]; exact hS) (fun i x σ H'' hx q => ?_) (fun σ H'' q => ?_)⟩
      · obtain ⟨rfl, u', rfl⟩ := q
        obtain ⟨m, hm, rfl⟩ := get_bagV hx
        have et : (ms.take (i + 1)).foldl FM.grow1 g = FM.grow1 ((ms.take i).foldl FM.grow1 g) m := by rw [List.take_add_one, hm]; simp
        generalize (ms.take i).foldl FM.grow1 g = t at et ⊢
        by_cases hne : m &&& t ≠ 0
        · refine ⟨_, rfl, _, rfl, _, _, rfl, rfl, true, ?_, iteT ⟨_, rfl, _, rfl, _, _, rfl, rfl, rfl, some (.int (m : Int)), ?_⟩⟩
          · show true = (Builtin.bitAnd (m : Int) (t : Int) != 0)
            rw [band]
            simpa using hne
          · rw [et, FM.grow1, if_pos hne]
            show [some (V.ref p), some (V.int (Builtin.bitOr (t : Int) (m : Int))), some (V.int (m : Int)), some (V.int (g : Int))] = _
            rw [bor]
        · refine ⟨_, rfl, _, rfl, _, _, rfl, rfl, false, ?_, iteF ⟨rfl, some (.int (m : Int)), ?_⟩⟩
          · show false = (Builtin.bitAnd (m : Int) (t : Int) != 0)
            rw [band]
            have : m &&& t = 0 := by omega
            rw [this]
            rfl
          · rw [et, FM.grow1, if_neg hne]
            rfl
      · obtain ⟨rfl, u', rfl⟩ := q
        refine ⟨rfl, u', ?_⟩
        rw [List.take_of_length_le (by simp)]
        rfl
end
end K00
end

section
set_option Elab.async false
set_option linter.all false
set_option maxRecDepth 100000
set_option maxHeartbeats 4000000
/-! left_in_rings, first_bar of a family. -/
namespace K00
open PySem PySem.Spec PyProof.Rows L2 GX GxR PG C8
section
variable {P : Program} {w : World} {K : PySem.W.Frag} {mg : Str → Option Value} {base : Heap}
/-! ### lists of numbers as data -/
theorem dp_bagV {H : Hp} : ∀ l : List Nat, DpAll K H (bagV l) (l.map fun (n : Nat) => PyData.int (n : Int))
  | [] => .nil
  | x :: r => .cons (.int _) (dp_bagV r)
theorem eqvAll_nats : ∀ a b : List Nat, PyData.eqvAll (a.map fun (n : Nat) => PyData.int (n : Int)) (b.map fun (n : Nat) => PyData.int (n : Int)) = decide (a = b)
  | [], [] => by simp [PyData.eqvAll]
  | [], _ :: _ => by simp [PyData.eqvAll]
  | _ :: _, [] => by simp [PyData.eqvAll]
  | x :: a, y :: b => by
    rw [List.map_cons, List.map_cons, PyData.eqvAll, eqvAll_nats a b]
    have e : PyData.eqv (.int (x : Int)) (.int (y : Int)) = decide (x = y) := by
      rw [PyData.eqv]
      by_cases q : x = y
      · subst q; simp
      · have : ¬ ((x : Int) = (y : Int)) := by omega
        simp [q, this]
    rw [e]
    by_cases h1 : x = y <;> by_cases h2 : a = b <;> simp [h1, h2]
theorem nat_lay : ∀ l : List Nat, PyData.canLayAll0 (l.map fun (n : Nat) => PyData.int (n : Int)) = true
  | [] => by simp [PyData.canLayAll0]
  | x :: r => by
    rw [List.map_cons, PyData.canLayAll0, nat_lay r]
    simp [PyData.canLay0]
theorem nat_depth : ∀ l : List Nat, PyData.depthAll (l.map fun (n : Nat) => PyData.int (n : Int)) = 0
  | [] => by simp [PyData.depthAll]
  | x :: r => by
    rw [List.map_cons, PyData.depthAll, nat_depth r]
    simp [PyData.depth]
theorem shaped_nats (l : List Nat) : SeqAt.shaped (.list (l.map fun (n : Nat) => PyData.int (n : Int))) = true := by
  unfold SeqAt.shaped
  rw [PyData.canLay0, nat_lay l, PyData.depth, nat_depth l]
  rfl
theorem rgV_nats (n : Nat) : rgV 0 (n : Int) = bagV (List.range n) := by
  unfold rgV bagV
  have e : ((n : Int) - 0).toNat = n := by omega
  rw [e]
  apply List.map_congr_left
  intro k _
  show V.int (0 + (k : Int)) = V.int (k : Int)
  rw [Int.zero_add]
theorem len_filter_lt {p : Nat → Bool} : ∀ {l : List Nat}, l.filter p ≠ l → (l.filter p).length < l.length
  | [], h => absurd rfl h
  | x :: r, h => by
    rw [List.filter_cons] at h ⊢
    split
    · rename_i q
      rw [if_pos q] at h
      have := len_filter_lt (p := p) (l := r) fun z => h (by rw [z])
      simpa using this
    · exact Nat.lt_succ_of_le (List.length_filter_le _ _)

/-! ### left_in_rings: none is left -/
def spRings (K : PySem.W.Frag) : Sp := fun vs H Q _ => ∃ (p : Addr) (ms : List Nat), vs = [.ref p] ∧ SqL K H p (bagV ms) ∧ ms.length ≤ small ∧
  (∀ L : List Nat, L.Nodup → (∀ k ∈ L, k < ms.length) → (∀ k ∈ L, FM.left2 ms L k = true) → L = []) ∧ Tabs (tabs K) H ∧
  ∀ H' q, Ext (tabs K) H H' → H q = none → H' q = some (.tup []) → Q (.ref q) H'
theorem sc_rings : FnScope ["masks", "left", "kept", "shared", "k"] ["masks"] (defScope (top p_left_in_rings)) := fnScope_by (by decide +kernel)
theorem c_rings (T : Txt K mg base) : Cal P w K mg base 2 "left_in_rings" (spRings K) [] := by
  have C1 := c_twice (P := P) (w := w) T
  have C2 := c_two (P := P) (w := w) T
  refine calC (T.defs f_left_in_rings _ rfl) T.g sc_rings (fun _ _ _ _ _ _ us hl => match us, hl with | [_], _ => rfl) (fun vs H Q E h => by obtain ⟨p, ms, rfl, _⟩ := h; rfl) fun A outer s H vs Q E hr h => ⟨_, PSs.nox (pss_cons
    (ps_set (i := 1) sc_rings.nd rfl (.inl rfl) (pe_lst pa_nil)) (pss_cons (ps_set (i := 2) sc_rings.nd rfl (.inl rfl) (pe_listRg rfl rfl T.n (prg_1 rfl T.n (pe_callB (lenK (K := K) rfl) rfl T.n PySem.boot_len (pa_cons (pv 0) pa_nil)))))
    (pss_cons (ps_while PassesOwn.never (pt_cmpR (op_neD hr.units) (pv 1) (pv 2) (nomark _)) (pss_cons (ps_set (i := 1) sc_rings.nd rfl (.inl rfl) (pv 2))
      (pss_cons (ps_set (i := 3) sc_rings.nd rfl (.inr rfl) (pe_c C1 hr (by decide) rfl (pa_cons
        (pe_lc (own := [("k", 4)]) (g := gName 4) (tt := tYes) rfl sc_rings.nd (pi_list (pv 1)) (blkOk_by (N := ["masks", "left", "kept", "shared", "k"]) (sc := defScope (top p_left_in_rings)) (by decide +kernel)) (fun _ _ _ _ _ => pg_name (i := 4) sc_rings.nd rfl (Or.inl rfl)) (fun _ _ _ _ _ => pts_nil)
          (fun _ _ _ _ _ => pe_ix (ixLK (K := K) rfl) (pv 0) (pv 4) (fun _ _ => rfl))) pa_nil)))
      (pss_one (ps_setLc (i := 2) (own := [("k", 4)]) (g := gName 4) rfl sc_rings.nd rfl rfl (sw_true rfl rfl rfl (by decide +kernel)) (pi_list (pv 1)) (blkOk_by (N := ["masks", "left", "kept", "shared", "k"]) (sc := defScope (top p_left_in_rings)) (by decide +kernel)) (fun _ _ _ _ _ => pg_name (i := 4) sc_rings.nd rfl (Or.inl rfl))
        (fun _ _ _ _ _ => pts_one (pt_val (pe_c C2 hr (by decide) rfl (pa_cons (pe_op op_and (pe_ix (ixLK (K := K) rfl) (pv 0) (pv 4) (fun _ _ => rfl)) (pv 3)) pa_nil))))
          (fun _ _ _ _ _ => pv 4))))))
    (pss_one (ps_ret (pe_callTy call_tuple_of rfl T.n (by decide +kernel) (pa_cons (pv 1) pa_nil))))))), ?_⟩
  obtain ⟨p, ms, rfl, hS, hl, hno, hT, hQ⟩ := h
  have e0 : Ext (tabs K) H H := Ext.refl hT
  refine ⟨Nat.zero_le _, fun pl hpl => ?_⟩
  have e1 := Ext.new (o := .lst []) hT hpl
  refine ⟨_, rfl, _, ms.length, rfl, .inl ⟨_, e1.seqL hS, bagV_len.symm⟩, _, rfl, ?_, fun pk hpk => ?_⟩
  · have hl : ms.length ≤ 1000 := hl
    exact RgOk.of_le (by decide) (by omega) (by decide) (by omega)
  have hpk0 : H pk = none := e1.none hpk
  have hne : pk ≠ pl := fun z => by rw [z, upd_same] at hpk; cases hpk
  have e2 := e1.trans (Ext.new (o := .lst (rgV 0 (ms.length : Int))) e1.tabs hpk)
  refine ⟨fun m σ H' => ∃ (pl pk : Addr) (L Kp : List Nat) (sh : Option V), σ = [some (.ref p), some (.ref pl), some (.ref pk), sh, none] ∧ Ext (tabs K) H H' ∧ H' pl = some (.lst (bagV L)) ∧ H' pk = some (.lst (bagV Kp)) ∧ H pk = none ∧
      Kp.Nodup ∧ (∀ k ∈ Kp, k < ms.length) ∧ Kp.length ≤ ms.length ∧ (L = Kp → ∀ k ∈ L, FM.left2 ms L k = true) ∧ m = 2 * Kp.length + (if L = Kp then 0 else 1),
    ⟨_, pl, pk, [], List.range ms.length, none, rfl, e2, by rw [upd_ne (Ne.symm hne), upd_same]; rfl, by rw [upd_same, rgV_nats], hpk0, List.nodup_range, fun k hk => List.mem_range.mp hk, by simp, fun _ k hk => by simp at hk, rfl⟩, ?_⟩
  rintro m σ H' ⟨pl, pk, L, Kp, sh, rfl, e, hL, hK, hk0, hnd, hlt, hlen, hst, rfl⟩
  refine ⟨_, rfl, _, rfl, _, _, .lst (SqL.of hL) (dp_bagV L), .lst (SqL.of hK) (dp_bagV Kp), shaped_nats L, shaped_nats Kp, _, rfl, ?_⟩
  have ee : PyData.eqv (.list (L.map fun (n : Nat) => PyData.int (n : Int))) (.list (Kp.map fun (n : Nat) => PyData.int (n : Int))) = decide (L = Kp) := by
    rw [PyData.eqv]
    exact eqvAll_nats L Kp
  rw [ee]
  by_cases q : L = Kp
  · rw [decide_eq_true q]
    refine iteF ?_
    subst q
    have en := hno L hnd hlt (hst rfl)
    subst en
    exact ⟨_, rfl, pl, _, rfl, .inl ⟨SqL.of hL, fun l hln => hQ _ l (e.trans (Ext.new e.tabs hln)) (e.none hln) upd_same⟩⟩
  · rw [decide_eq_false q]
    refine iteT ?_
    refine ⟨fun σ' H'' => ∃ (pk2 : Addr) (sh : Option V), σ' = [some (.ref p), some (.ref pk), some (.ref pk2), sh, none] ∧ Ext (tabs K) H H'' ∧ H'' pk = some (.lst (bagV Kp)) ∧ H'' pk2 = some (.lst (bagV (Kp.filter (FM.left2 ms Kp)))) ∧ H pk2 = none,
      fun σ' H'' ⟨pk2, sh2, es, e3, h1, h2, h3⟩ => ⟨_, ?_, pk, pk2, Kp, Kp.filter (FM.left2 ms Kp), sh2, es, e3, h1, h2, h3, hnd.sublist List.filter_sublist, fun k hk => hlt k (List.mem_filter.mp hk).1, Nat.le_trans (List.length_filter_le _ _) hlen, fun z k hk => ?_, rfl⟩, ?_⟩
    · rw [if_neg q]
      by_cases z : Kp = Kp.filter (FM.left2 ms Kp)
      · rw [if_pos z, ← z]; omega
      · have := len_filter_lt fun y => z y.symm
        rw [if_neg z]; omega
    · rw [z] at hk
      exact (List.mem_filter.mp hk).2
    · have ml : ∀ k ∈ Kp, ms[k]? = some (ms.getD k 0) := fun k hk => by
        have := hlt k hk
        rw [List.getD_eq_getElem?_getD, List.getElem?_eq_getElem this]
        rfl
      refine ⟨_, rfl, _, rfl, pk, rfl, ⟨_, SqL.of hK⟩, fun D hD => ?_⟩
      refine lc_list (K := K) (a := pk) (xs := bagV Kp) (fun i H'' => Ext (tabs K) H' H'' ∧ H'' D = some (.lst (bagV ((Kp.take i).map fun k => ms.getD k 0)))) ⟨Ext.new e.tabs hD, upd_same⟩ (fun i H'' _ z => z.1.seqL (SqL.of hK)) (fun i x H'' hx z => ?_) (fun H'' z => ?_)
      · obtain ⟨e3, eD⟩ := z
        obtain ⟨k, hk, rfl⟩ := get_bagV hx
        have hkm := List.mem_of_getElem? hk
        have hi := (List.getElem?_eq_some_iff.mp hk).1
        refine ⟨rfl, tyes_if ⟨_, rfl, _, rfl, p, _, _, _, rfl, rfl, (e.trans e3).seqL hS, atI_nat (bagV_get (ml k hkm)), _, eD, ?_, e3.set hD ⟨_, eD, fun ps y => by cases y⟩, ?_⟩⟩
        · rw [bagV_len, List.length_map, List.length_take]
          have hl : ms.length ≤ 1000 := hl
          exact small1000 (by omega)
        · rw [upd_same, List.take_add_one, hk]
          simp
      · obtain ⟨e3, eD⟩ := z
        rw [List.take_of_length_le (by simp)] at eD
        refine ⟨D, _, rfl, SqL.of eD, ?_⟩
        refine ⟨_, rfl, pk, rfl, ⟨_, e3.seqL (SqL.of hK)⟩, fun D2 hD2 => ?_⟩
        have e4 := e.trans e3
        refine lc_list (K := K) (a := pk) (xs := bagV Kp) (fun i H3 => Ext (tabs K) H'' H3 ∧ H3 D2 = some (.lst (bagV ((Kp.take i).filter (FM.left2 ms Kp))))) ⟨Ext.new e3.tabs hD2, upd_same⟩ (fun i H3 _ z => (e3.trans z.1).seqL (SqL.of hK)) (fun i x H3 hx z => ?_) (fun H3 z => ?_)
        · obtain ⟨e5, eD2⟩ := z
          obtain ⟨k, hk, rfl⟩ := get_bagV hx
          have hkm := List.mem_of_getElem? hk
          have hi := (List.getElem?_eq_some_iff.mp hk).1
          have tk : (Kp.take (i + 1)).filter (FM.left2 ms Kp) = (Kp.take i).filter (FM.left2 ms Kp) ++ (if FM.left2 ms Kp k = true then [k] else []) := by
            rw [List.take_add_one, hk, List.filter_append]
            simp [List.filter_cons]
          refine ⟨rfl, _, rfl, _, rfl, p, _, _, _, rfl, rfl, (e4.trans e5).seqL hS, atI_nat (bagV_get (ml k hkm)), _, rfl, _, _, rfl, rfl, ms.getD k 0 &&& FM.twice (Kp.map fun k => ms.getD k 0), ?_, _, rfl, ?_⟩
          · show [V.int (Builtin.bitAnd ((ms.getD k 0 : Nat) : Int) ((FM.twice (Kp.map fun k => ms.getD k 0) : Nat) : Int))] = _
            rw [band]
          · refine ite2 (fun y => ?_) fun y => ?_
            · have y2 : FM.left2 ms Kp k = true := y
              refine ⟨_, rfl, _, eD2, ?_, e5.set hD2 ⟨_, eD2, fun ps y => by cases y⟩, ?_⟩
              · have h9 := List.length_filter_le (FM.left2 ms Kp) (Kp.take i)
                rw [List.length_take] at h9
                rw [bagV_len]
                have hl : ms.length ≤ 1000 := hl
                exact small1000 (by omega)
              · rw [upd_same, tk, if_pos y2]
                simp
            · have y2 : ¬ FM.left2 ms Kp k = true := y
              refine ⟨e5, ?_⟩
              rw [tk, if_neg y2, List.append_nil]
              exact eD2
        · obtain ⟨e5, eD2⟩ := z
          rw [List.take_of_length_le (by simp)] at eD2
          exact ⟨D2, _, rfl, e4.trans e5, (e3.trans e5).lst hK, eD2, e4.none hD2⟩

/-! ### first_bar of a family -/
def spBar (K : PySem.W.Frag) : Sp := fun vs H Q _ => ∃ v bs n rk, vs = [v] ∧ IsBs K H v bs ∧ FM.Tree n bs rk ∧ n ≤ 60 ∧ bs.length ≤ small ∧ Tabs (tabs K) H ∧ ∀ H', Ext (tabs K) H H' → Q .non H'
theorem sc_bar : FnScope ["bags", "masks", "missing", "double", "joined", "ring"] ["bags"] (defScope (top p_first_bar)) := fnScope_by (by decide +kernel)
theorem c_bar (T : Txt K mg base) : Cal P w K mg base 3 "first_bar" (spBar K) [] := by
  have C1 := c_masks (P := P) (w := w) T
  have C2 := c_missing (P := P) (w := w) T
  have C3 := c_double (P := P) (w := w) T
  have C4 := c_hang (P := P) (w := w) T
  have C5 := c_rings (P := P) (w := w) T
  refine calC (T.defs f_first_bar _ rfl) T.g sc_bar (fun _ _ _ _ _ _ us hl => match us, hl with | [_], _ => rfl) (fun vs H Q E h => by obtain ⟨v, bs, n, rk, rfl, _⟩ := h; rfl) fun A outer s H vs Q E hr h => ⟨_, PSs.nox (pss_cons
    (ps_set (i := 1) sc_bar.nd rfl (.inl rfl) (pe_c C1 hr (by decide) rfl (pa_cons (pv 0) pa_nil)))
    (pss_cons (ps_set (i := 2) sc_bar.nd rfl (.inl rfl) (pe_c C2 hr (by decide) rfl (pa_cons (pv 1) pa_nil)))
    (pss_cons (ps_if (pt_cmpR op_notN (pv 2) pe_non (nomark _)) (pss_one ps_never) pss_nil)
    (pss_cons (ps_set (i := 3) sc_bar.nd rfl (.inl rfl) (pe_c C3 hr (by decide) rfl (pa_cons (pv 1) pa_nil)))
    (pss_cons (ps_if (pt_cmpR op_notN (pv 3) pe_non (nomark _)) (pss_one ps_never) pss_nil)
    (pss_cons (ps_set (i := 4) sc_bar.nd rfl (.inl rfl) (pe_c C4 hr (by decide) rfl (pa_cons (pv 1) pa_nil)))
    (pss_cons (ps_if (pt_cmpR op_lt (pe_callB (lenK (K := K) rfl) rfl T.n PySem.boot_len (pa_cons (pv 4) pa_nil)) (pe_callB (lenK (K := K) rfl) rfl T.n PySem.boot_len (pa_cons (pv 1) pa_nil)) (nomark _)) (pss_one ps_never) pss_nil)
    (pss_cons (ps_set (i := 5) sc_bar.nd rfl (.inl rfl) (pe_c C5 hr (by decide) rfl (pa_cons (pv 1) pa_nil)))
    (pss_cons (ps_if (pt_tru (K := K) rfl (pv 5)) (pss_one ps_never) pss_nil)
    (pss_one (ps_ret pe_non))))))))))), ?_⟩
  obtain ⟨v, bs, n, rk, rfl, hB, hT, hn, hl, hTb, hQ⟩ := h
  have lt60 := hT.mask_lt hn
  refine ⟨_, rfl, v, bs, rfl, hB, fun b hb x hx => Nat.lt_of_lt_of_le (hT.lt b hb x hx) hn, hl, hTb, fun H1 p e1 hp0 hp => ?_⟩
  have lms : (bs.map FM.mask).length ≤ small := by rw [List.length_map]; exact hl
  have hheld : FM.held (bs.map FM.mask) < 2 ^ 60 := by
    apply Nat.lt_pow_two_of_testBit
    intro k hk
    rw [hT.held_bit]
    simp
    omega
  refine ⟨_, rfl, p, _, rfl, SqL.of hp, hheld, lms, fun k j hj h => ?_, ?_⟩
  · rw [hT.held_bit, decide_eq_true_eq] at h ⊢
    omega
  refine ⟨_, rfl, rfl, _, rfl, iteF ?_⟩
  refine ⟨_, rfl, p, _, rfl, SqL.of hp, lms, hT.no_double, ?_⟩
  refine ⟨_, rfl, rfl, _, rfl, iteF ?_⟩
  obtain ⟨b0, r0, eb⟩ := hT.ne
  have g0 : bs[0]? = some b0 := by rw [eb]; rfl
  have m0 : (bs.map FM.mask)[0]? = some (FM.mask b0) := by rw [List.getElem?_map, g0]; rfl
  refine ⟨_, rfl, p, _, FM.mask b0, rfl, SqL.of hp, lms, m0, lt60, fun g hg1 hg2 => hT.no_apart g ?_ hg2, e1.tabs, fun H2 q e2 hq0 hq => ?_⟩
  · obtain ⟨k, hk, hb⟩ := hT.first_bit g0
    exact ⟨k, hk, hg1 k hb⟩
  have hp2 := e2.lst hp
  refine ⟨_, rfl, _, _, rfl, .inr ⟨_, SqT.of hq, rfl⟩, _, rfl, _, (bs.map FM.mask).length, rfl, .inl ⟨_, SqL.of hp2, bagV_len.symm⟩, _, _, rfl, rfl, _, rfl, ?_⟩
  have enl : decide (((bagV (List.range (bs.map FM.mask).length)).length : Int) < (((bs.map FM.mask).length : Nat) : Int)) = false := by
    rw [bagV_len, List.length_range]
    simp
  rw [enl]
  refine iteF ?_
  refine ⟨_, rfl, p, _, rfl, SqL.of hp2, lms, fun L h1 h2 h3 => hT.no_ring L h1 (fun k hk => by have := h2 k hk; rw [List.length_map] at this; exact this) h3, e2.tabs, fun H3 r e3 hr0 hr => ?_⟩
  refine ⟨_, rfl, false, .inr (.inl ⟨_, SqT.of hr, rfl⟩), iteF ?_⟩
  exact hQ H3 ((e1.trans e2).trans e3)
end
end K00
end

section
set_option Elab.async false
set_option linter.all false
set_option maxRecDepth 100000
set_option maxHeartbeats 4000000
/-! What bars bags, for any bags: missing_bead, first_double, hanging_with_first, left_in_rings. -/
namespace K00
open PySem PySem.Spec PyProof.Rows L2 GX GxR PG C8
section
variable {P : Program} {w : World} {K : PySem.W.Frag} {mg : Str → Option Value} {base : Heap}
/-- the first bead that is missing -/
def Miss (ms : List Nat) (k : Nat) : Prop := k < Builtin.Int.intBits ((FM.held ms : Nat) : Int) ∧ (FM.held ms).testBit k = false ∧ ∀ j, j < k → (FM.held ms).testBit j = true
def Full (ms : List Nat) : Prop := ∀ j, j < Builtin.Int.intBits ((FM.held ms : Nat) : Int) → (FM.held ms).testBit j = true
def spMissG (K : PySem.W.Frag) : Sp := fun vs H Q _ => ∃ (p : Addr) (ms : List Nat), vs = [.ref p] ∧ SqL K H p (bagV ms) ∧ FM.held ms < 2 ^ 60 ∧ ms.length ≤ small ∧ (∀ k, Miss ms k → Q (.int (k : Int)) H) ∧ (Full ms → Q .non H)
theorem c_missG (T : Txt K mg base) : Cal P w K mg base 1 "missing_bead" (spMissG K) [] := by
  refine calC (T.defs f_missing_bead _ rfl) T.g sc_missing (fun _ _ _ _ _ _ us hl => match us, hl with | [_], _ => rfl) (fun vs H Q E h => by obtain ⟨p, ms, rfl, _⟩ := h; rfl) fun A outer s H vs Q E hr h => ⟨_, PSs.nox (pss_cons (ps_set (i := 1) sc_missing.nd rfl (.inl rfl) pe_int)
    (pss_cons (ps_for PassesOwn.never rfl (pi_list (pv 0)) (pg_name (i := 2) sc_missing.nd rfl (.inl rfl)) (pss_one (ps_set (i := 1) sc_missing.nd rfl (.inl rfl) (pe_op op_or (pv 1) (pv 2)))))
    (pss_cons (ps_for PassesOwn.never rfl (pi_range1 rfl T.n (pa_cons (pe_bits (pv 1)) pa_nil)) (pg_name (i := 3) sc_missing.nd rfl (.inl rfl))
      (pss_one (ps_if (pt_not (pt_truth (pe_op op_and (pe_op op_shr (pv 1) (pv 3)) pe_int) (by intro _; rfl))) (pss_one (ps_ret (pv 3))) pss_nil)))
    (pss_one (ps_ret pe_non))))), ?_⟩
  obtain ⟨p, ms, rfl, hS, hb, hl, hQ1, hQ2⟩ := h
  refine ⟨_, rfl, p, rfl, ⟨_, hS⟩, for_list (xs := bagV ms) (fun i σ H' => H' = H ∧ ∃ v, σ = [some (.ref p), some (.int ((ms.take i).foldl (· ||| ·) 0 : Nat)), v, none]) ⟨rfl, none, rfl⟩ (fun i σ H' _ q => by rw [q.1]; exact hS) (fun i x σ H' hx q => ?_) (fun σ H' q => ?_)⟩
  · obtain ⟨rfl, v, rfl⟩ := q
    obtain ⟨m, q2, rfl⟩ := get_bagV hx
    refine ⟨_, rfl, _, rfl, _, _, rfl, rfl, rfl, some (.int (m : Int)), ?_⟩
    show [some (V.ref p), some (V.int (Builtin.bitOr (((ms.take i).foldl (· ||| ·) 0 : Nat) : Int) (m : Int))), some (V.int (m : Int)), none] = _
    rw [bor, List.take_add_one, q2]
    simp
  · obtain ⟨rfl, v, rfl⟩ := q
    have eh : (List.take (bagV ms).length ms).foldl (· ||| ·) 0 = FM.held ms := by
      rw [List.take_of_length_le (by simp)]; rfl
    rw [eh]
    refine ⟨_, rfl, _, rfl, _, rfl, ?_, ?_, ?_⟩
    · have : (0 : Int) ≤ ((Builtin.Int.intBits ((FM.held ms : Nat) : Int) : Nat) : Int) := Int.natCast_nonneg _
      have z : (-2 ^ 62 : Int) ≤ 0 := by decide
      omega
    · have b1 : Builtin.Int.intBits ((FM.held ms : Nat) : Int) ≤ 60 := PyProof.Rows.intBits_le (by simpa using hb)
      have z : ((60 : Nat) : Int) < 2 ^ 62 := by decide
      omega
    · refine for_range (lo := 0) (fun i σ H'' => H'' = H' ∧ (∀ j, j < i → (FM.held ms).testBit j = true) ∧ ∃ v u, σ = [some (.ref p), some (.int ((FM.held ms : Nat) : Int)), v, u]) ⟨rfl, fun j hj => absurd hj (Nat.not_lt_zero j), _, _, rfl⟩ (fun i σ H'' hi q => ?_) (fun σ H'' q => ?_)
      · obtain ⟨rfl, hall, v, u, rfl⟩ := q
        have hi2 : i < Builtin.Int.intBits ((FM.held ms : Nat) : Int) := by simpa using hi
        have val : Builtin.bitAnd (((FM.held ms : Nat) : Int) / 2 ^ ((0 : Int) + (i : Int)).toNat) 1 = (((FM.held ms / 2 ^ i) % 2 : Nat) : Int) := by
          have e1 : ((0 : Int) + (i : Int)).toNat = i := by omega
          rw [e1]
          have e2 : ((FM.held ms : Nat) : Int) / 2 ^ i = ((FM.held ms / 2 ^ i : Nat) : Int) := by simp
          rw [e2, show (1 : Int) = ((1 : Nat) : Int) from rfl, band, Nat.and_one_is_mod]
        refine ⟨_, rfl, _, rfl, _, _, rfl, rfl, by omega, _, _, rfl, rfl, (FM.held ms).testBit i, ?_, ?_⟩
        · show (FM.held ms).testBit i = ((Builtin.bitAnd (((FM.held ms : Nat) : Int) / 2 ^ ((0 : Int) + (i : Int)).toNat) 1) != 0)
          rw [val, Nat.testBit_eq_decide_div_mod_eq]
          rcases Nat.mod_two_eq_zero_or_one (FM.held ms / 2 ^ i) with z | z <;> rw [z] <;> rfl
        · cases hbit : (FM.held ms).testBit i with
          | true =>
            refine iteF ⟨rfl, fun j hj => ?_, _, _, rfl⟩
            by_cases e : j = i
            · rw [e]; exact hbit
            · exact hall j (by omega)
          | false =>
            refine iteT ⟨_, rfl, ?_⟩
            have e0 : (0 : Int) + (i : Int) = (i : Int) := by omega
            rw [e0]
            exact hQ1 i ⟨hi2, hbit, hall⟩
      · obtain ⟨rfl, hall, v, u, rfl⟩ := q
        exact hQ2 fun j hj => hall j (by simpa using hj)

/-! ### first_double -/
abbrev Twin (ms : List Nat) (i j : Nat) : Prop := ((ms.getD i 0 &&& ms.getD j 0) &&& ((ms.getD i 0 &&& ms.getD j 0) - 1)) ≠ 0
def Dbl (ms : List Nat) (i j : Nat) : Prop := i < j ∧ j < ms.length ∧ Twin ms i j ∧ ∀ i' j', i' < j' → j' < ms.length → (j' < j ∨ (j' = j ∧ i' < i)) → ¬ Twin ms i' j'
def NoDbl (ms : List Nat) : Prop := ∀ i j, i < j → j < ms.length → ¬ Twin ms i j
def spDblG (K : PySem.W.Frag) : Sp := fun vs H Q _ => ∃ (p : Addr) (ms : List Nat), vs = [.ref p] ∧ SqL K H p (bagV ms) ∧ ms.length ≤ small ∧
  (∀ i j, Dbl ms i j → ∀ q, H q = none → Q (.ref q) (upd H q (.tup [.int (i : Int), .int (j : Int)]))) ∧ (NoDbl ms → Q .non H)
theorem c_dblG (T : Txt K mg base) : Cal P w K mg base 2 "first_double" (spDblG K) [] := by
  have C2 := c_two (P := P) (w := w) T
  refine calC (T.defs f_first_double _ rfl) T.g sc_double (fun _ _ _ _ _ _ us hl => match us, hl with | [_], _ => rfl) (fun vs H Q E h => by obtain ⟨p, ms, rfl, _⟩ := h; rfl) fun A outer s H vs Q E hr h => ⟨_, PSs.nox (pss_cons
    (ps_for PassesOwn.never rfl (pi_range1 rfl T.n (pa_cons (pe_callB call_len rfl T.n PySem.boot_len (pa_cons (pv 0) pa_nil)) pa_nil)) (pg_name (i := 1) sc_double.nd rfl (.inl rfl))
      (pss_one (ps_for PassesOwn.never rfl (pi_range1 rfl T.n (pa_cons (pv 1) pa_nil)) (pg_name (i := 2) sc_double.nd rfl (.inl rfl))
        (pss_one (ps_if (pt_val (pe_c C2 hr (by decide) rfl (pa_cons (pe_op op_and (pe_ix ix_list (pv 0) (pv 2) (fun _ _ => rfl)) (pe_ix ix_list (pv 0) (pv 1) (fun _ _ => rfl))) pa_nil)))
          (pss_one (ps_ret (pe_tup (pa_cons (pv 2) (pa_cons (pv 1) pa_nil))))) pss_nil)))))
    (pss_one (ps_ret pe_non))), ?_⟩
  obtain ⟨p, ms, rfl, hS, hl, hQ1, hQ2⟩ := h
  refine ⟨_, rfl, _, ms.length, rfl, .inl ⟨_, hS, bagV_len.symm⟩, _, rfl, (small62 hl).1, (small62 hl).2, ?_⟩
  refine for_range (lo := 0) (fun j σ H' => H' = H ∧ (∀ i' j', i' < j' → j' < ms.length → j' < j → ¬ Twin ms i' j') ∧ ∃ v u, σ = [some (.ref p), v, u]) ⟨rfl, fun _ _ _ _ h => absurd h (Nat.not_lt_zero _), _, _, rfl⟩ (fun j σ H' hj q => ?_) (fun σ H' q => ?_)
  · obtain ⟨rfl, hno, v, u, rfl⟩ := q
    have hj : j < ms.length := by simpa using hj
    have hj1 : j ≤ small := Nat.le_trans (Nat.le_of_lt hj) hl
    have ej : (0 : Int) + (j : Int) = (j : Int) := by omega
    rw [ej]
    refine ⟨_, rfl, _, rfl, (small62 hj1).1, (small62 hj1).2, ?_⟩
    refine for_range (lo := 0) (fun i σ H'' => H'' = H' ∧ (∀ i' j', i' < j' → j' < ms.length → (j' < j ∨ (j' = j ∧ i' < i)) → ¬ Twin ms i' j') ∧ ∃ u, σ = [some (.ref p), some (.int (j : Int)), u]) ⟨rfl, fun i' j' h1 h2 h3 => ?_, _, rfl⟩ (fun i σ H'' hi q => ?_) (fun σ H'' q => ?_)
    · rcases h3 with h3 | h3
      · exact hno i' j' h1 h2 h3
      · exact absurd h3.2 (Nat.not_lt_zero _)
    · obtain ⟨rfl, hno2, u, rfl⟩ := q
      have hi : i < j := by simpa using hi
      have ei : (0 : Int) + (i : Int) = (i : Int) := by omega
      rw [ei]
      have ga : ms[i]? = some (ms.getD i 0) := by rw [List.getD_eq_getElem?_getD, List.getElem?_eq_getElem (by omega)]; rfl
      have gb : ms[j]? = some (ms.getD j 0) := by rw [List.getD_eq_getElem?_getD, List.getElem?_eq_getElem hj]; rfl
      refine ⟨_, rfl, _, rfl, p, _, _, _, rfl, rfl, hS, atI_nat (bagV_get ga), _, rfl, _, rfl, p, _, _, _, rfl, rfl, hS, atI_nat (bagV_get gb), _, _, rfl, rfl, ms.getD i 0 &&& ms.getD j 0, ?_, _, rfl, ?_⟩
      · show [V.int (Builtin.bitAnd ((ms.getD i 0 : Nat) : Int) ((ms.getD j 0 : Nat) : Int))] = _
        rw [band]
      · refine ite2 (fun z => ?_) fun z => ?_
        · have z : Twin ms i j := of_decide_eq_true z
          exact ⟨_, rfl, _, rfl, small_line (n := 2) (by decide), fun q hq => hQ1 i j ⟨hi, hj, z, hno2⟩ q hq⟩
        · refine ⟨rfl, fun i' j' h1 h2 h3 => ?_, _, rfl⟩
          by_cases e : j' = j ∧ i' = i
          · rw [e.1, e.2]
            exact fun y => z (decide_eq_true y)
          · exact hno2 i' j' h1 h2 (by omega)
    · obtain ⟨rfl, hno2, u, rfl⟩ := q
      have ejj : ((j : Nat) : Int).toNat = j := Int.toNat_natCast _
      exact ⟨rfl, fun i' j' h1 h2 h3 => hno2 i' j' h1 h2 (by omega), _, _, rfl⟩
  · obtain ⟨rfl, hno, v, u, rfl⟩ := q
    exact hQ2 fun i j h1 h2 => hno i j h1 h2 (by omega)

/-! ### hanging_with_first -/
def joins (ms : List Nat) (J : Nat) : List Nat := (List.range ms.length).filter fun k => decide (ms.getD k 0 &&& J ≠ 0)
def spHangG (K : PySem.W.Frag) : Sp := fun vs H Q _ => ∃ (p : Addr) (ms : List Nat) (m0 : Nat), vs = [.ref p] ∧ SqL K H p (bagV ms) ∧ ms.length ≤ small ∧ ms[0]? = some m0 ∧ (∀ m ∈ ms, m < 2 ^ 60) ∧ Tabs (tabs K) H ∧
  ∀ J, FM.Hung ms m0 J → ∀ H' q, Ext (tabs K) H H' → H q = none → H' q = some (.tup (bagV (joins ms J))) → Q (.ref q) H'
theorem c_hangG (T : Txt K mg base) : Cal P w K mg base 1 "hanging_with_first" (spHangG K) [] := by
  refine calC (T.defs f_hanging_with_first _ rfl) T.g sc_hang (fun _ _ _ _ _ _ us hl => match us, hl with | [_], _ => rfl) (fun vs H Q E h => by obtain ⟨p, ms, m0, rfl, _⟩ := h; rfl) fun A outer s H vs Q E hr h => ⟨_, PSs.nox (pss_cons
    (ps_set (i := 3) sc_hang.nd rfl (.inr rfl) pe_int) (pss_cons (ps_set (i := 1) sc_hang.nd rfl (.inl rfl) (pe_ix ix_list (pv 0) pe_int (fun _ _ => rfl)))
    (pss_cons (ps_while PassesOwn.never (pt_cmpR op_ne (pv 3) (pv 1) (nomark _)) (pss_cons (ps_set (i := 3) sc_hang.nd rfl (.inr rfl) (pv 1))
      (pss_one (ps_for PassesOwn.never rfl (pi_list (pv 0)) (pg_name (i := 2) sc_hang.nd rfl (.inl rfl))
        (pss_one (ps_if (pt_truth (pe_op op_and (pv 2) (pv 1)) (by intro _; rfl)) (pss_one (ps_set (i := 1) sc_hang.nd rfl (.inl rfl) (pe_op op_or (pv 1) (pv 2)))) pss_nil))))))
    (pss_one (ps_ret (pe_tupG (x := "k") (cap := [("masks", 0), ("joined", 3)]) hr rfl rfl T.n T.tb rfl (capOk_by (N := ["masks", "grown", "mask", "joined"]) (sc := defScope (top p_hanging_with_first)) (by decide +kernel))
      (pi_range1 rfl T.n (pa_cons (pe_callB call_len rfl T.n PySem.boot_len (pa_cons (pv 0) pa_nil)) pa_nil))
      (fun _ _ _ _ _ => pts_one (pt_tru (K := K) rfl (pe_op op_and (pe_ix (ixLK (K := K) rfl) (pv 1) (pv 0) (fun _ _ => rfl)) (pv 2)))) (fun _ _ _ _ _ => pv 0))))))), ?_⟩
  obtain ⟨p, ms, m0, rfl, hS, hl, h0, hlt, hT, hQ⟩ := h
  have lt0 := hlt m0 (List.mem_of_getElem? h0)
  refine ⟨_, rfl, p, _, _, _, rfl, rfl, hS, atI_nat (j := 0) (bagV_get h0), ?_⟩
  refine ⟨fun m σ H' => H' = H ∧ ∃ (j g : Nat) (u : Option V), σ = [some (.ref p), some (.int (g : Int)), u, some (.int (j : Int))] ∧ (∀ k, m0.testBit k = true → g.testBit k = true) ∧ (j = g → FM.grow ms g = g) ∧ g < 2 ^ 60 ∧
      (∀ G : Nat, (∀ k, m0.testBit k = true → G.testBit k = true) → (∀ m ∈ ms, m &&& G ≠ 0 → ∀ k, m.testBit k = true → G.testBit k = true) → ∀ k, g.testBit k = true → G.testBit k = true) ∧ m = (2 ^ 60 - g) + (if j = g then 0 else 1),
    ⟨_, rfl, 0, m0, none, rfl, fun k hk => hk, fun z => by rw [← z]; exact FM.grow_zero ms, lt0, fun G h1 _ => h1, rfl⟩, ?_⟩
  rintro m σ H' ⟨rfl, j, g, u, rfl, hb, hj, hg, hmin, rfl⟩
  refine ⟨_, rfl, _, rfl, rfl, _, rfl, ?_⟩
  by_cases e : j = g
  · subst e
    have e1 : (!decide (V.int (j : Int) = V.int (j : Int))) = false := by simp
    rw [e1]
    refine iteF ?_
    have hung := FM.hung_of hb (hj rfl) hmin
    have en : ((ms.length : Nat) : Int).toNat = ms.length := Int.toNat_natCast _
    refine ⟨_, rfl, _, ms.length, rfl, .inl ⟨_, hS, bagV_len.symm⟩, _, rfl, (small62 hl).1, (small62 hl).2, tab_in hT, fun H2 tb => ?_⟩
    have e2 := Ext.tabbed hT (tab_in hT) tb
    rw [en]
    refine tup_src (src_rng (lo := 0) (n := ms.length)) ((List.range ms.length).map fun (k : Nat) => if decide (ms.getD k 0 &&& j ≠ 0) = true then some (V.int (k : Int)) else none) (by simp [rngV_length]) (by rw [rngV_length]; exact small_line hl) (fun i H'' => H'' = H2) rfl (fun _ _ _ => trivial) (fun i v g H'' hv hgg eH => ?_) (fun H'' eH l hln => ?_)
    · subst eH
      have hi : i < ms.length := by
        have := (List.getElem?_eq_some_iff.mp hv).1
        rw [rngV_length] at this
        exact this
      rw [rngV_get hi] at hv
      rw [List.getElem?_map, List.getElem?_range hi] at hgg
      have hgg : (if decide (ms.getD i 0 &&& j ≠ 0) = true then some (V.int (i : Int)) else none) = g := Option.some.inj hgg
      have ev : v = V.int (i : Int) := by rw [← Option.some.inj hv]; congr 1; omega
      subst ev
      have gm : ms[i]? = some (ms.getD i 0) := by rw [List.getD_eq_getElem?_getD, List.getElem?_eq_getElem hi]; rfl
      refine ⟨_, rfl, _, rfl, p, _, _, _, rfl, rfl, e2.seqL hS, atI_nat (bagV_get gm), _, rfl, _, _, rfl, rfl, decide (ms.getD i 0 &&& j ≠ 0), ?_, ?_⟩
      · show decide (ms.getD i 0 &&& j ≠ 0) = (Builtin.bitAnd ((ms.getD i 0 : Nat) : Int) (j : Int) != 0)
        rw [band]
        generalize ms.getD i 0 &&& j = x
        by_cases z : x = 0
        · subst z; rfl
        · rw [decide_eq_true z]
          symm
          simpa using z
      · refine ite2 (fun z => ?_) fun z => ?_
        · rw [if_pos z] at hgg
          exact ⟨_, rfl, hgg.symm, rfl⟩
        · rw [if_neg z] at hgg
          exact ⟨hgg.symm, rfl⟩
    · subst eH
      refine hQ j hung _ l (e2.trans (Ext.new e2.tabs hln)) (e2.none hln) ?_
      rw [upd_same]
      congr 2
      unfold joins
      generalize List.range ms.length = R
      induction R with
      | nil => rfl
      | cons k r ih =>
        by_cases z : decide (ms.getD k 0 &&& j ≠ 0) = true
        · have e3 : ((k :: r).filter fun k => decide (ms.getD k 0 &&& j ≠ 0)) = k :: r.filter fun k => decide (ms.getD k 0 &&& j ≠ 0) := List.filter_cons_of_pos (p := fun k => decide (ms.getD k 0 &&& j ≠ 0)) z
          rw [List.map_cons, if_pos z, e3]
          exact congrArg (V.int (k : Int) :: ·) ih
        · have e3 : ((k :: r).filter fun k => decide (ms.getD k 0 &&& j ≠ 0)) = r.filter fun k => decide (ms.getD k 0 &&& j ≠ 0) := List.filter_cons_of_neg (p := fun k => decide (ms.getD k 0 &&& j ≠ 0)) z
          rw [List.map_cons, if_neg z, e3]
          exact ih
  · have e1 : (!decide (V.int (j : Int) = V.int (g : Int))) = true := by
      have : ¬ (V.int (j : Int) = V.int (g : Int)) := fun q => e (by injection q with q; omega)
      simp [this]
    rw [e1]
    refine iteT ?_
    have gle := FM.grow_le ms g
    have glt := FM.grow_lt ms g hg hlt
    refine ⟨fun σ' H'' => H'' = H' ∧ ∃ u', σ' = [some (.ref p), some (.int (FM.grow ms g : Nat)), u', some (.int (g : Int))], fun σ' H'' ⟨eH, u', es⟩ => ⟨_, ?_, eH, g, FM.grow ms g, u', es, fun k hk => FM.grow_bits ms g k (hb k hk), fun z => by rw [← z]; exact z.symm, glt, fun G h1 h2 => FM.grow_min ms g G (hmin G h1 h2) h2, rfl⟩, ?_⟩
    · rw [if_neg e]
      by_cases z : g = FM.grow ms g
      · rw [if_pos z]; omega
      · rw [if_neg z]; omega
    · refine ⟨_, rfl, _, rfl, p, rfl, ⟨_, hS⟩, for_list (xs := bagV ms) (fun i σ H'' => H'' = H' ∧ ∃ u', σ = [some (.ref p), some (.int ((ms.take i).foldl FM.grow1 g : Nat)), u', some (.int (g : Int))]) ⟨rfl, u, rfl⟩ (fun i σ H'' _ q => by rw [q.1]; exact hS) (fun i x σ H'' hx q => ?_) (fun σ H'' q => ?_)⟩
      · obtain ⟨rfl, u', rfl⟩ := q
        obtain ⟨m, hm, rfl⟩ := get_bagV hx
        have et : (ms.take (i + 1)).foldl FM.grow1 g = FM.grow1 ((ms.take i).foldl FM.grow1 g) m := by rw [List.take_add_one, hm]; simp
        generalize (ms.take i).foldl FM.grow1 g = t at et ⊢
        by_cases hne : m &&& t ≠ 0
        · refine ⟨_, rfl, _, rfl, _, _, rfl, rfl, true, ?_, iteT ⟨_, rfl, _, rfl, _, _, rfl, rfl, rfl, some (.int (m : Int)), ?_⟩⟩
          · show true = (Builtin.bitAnd (m : Int) (t : Int) != 0)
            rw [band]
            simpa using hne
          · rw [et, FM.grow1, if_pos hne]
            show [some (V.ref p), some (V.int (Builtin.bitOr (t : Int) (m : Int))), some (V.int (m : Int)), some (V.int (g : Int))] = _
            rw [bor]
        · refine ⟨_, rfl, _, rfl, _, _, rfl, rfl, false, ?_, iteF ⟨rfl, some (.int (m : Int)), ?_⟩⟩
          · show false = (Builtin.bitAnd (m : Int) (t : Int) != 0)
            rw [band]
            have : m &&& t = 0 := by omega
            rw [this]
            rfl
          · rw [et, FM.grow1, if_neg hne]
            rfl
      · obtain ⟨rfl, u', rfl⟩ := q
        refine ⟨rfl, u', ?_⟩
        rw [List.take_of_length_le (by simp)]
        rfl

/-! ### left_in_rings -/
def spRingsG (K : PySem.W.Frag) : Sp := fun vs H Q _ => ∃ (p : Addr) (ms : List Nat), vs = [.ref p] ∧ SqL K H p (bagV ms) ∧ ms.length ≤ small ∧ Tabs (tabs K) H ∧
  ∀ L, FM.Great ms L → ∀ H' q, Ext (tabs K) H H' → H q = none → H' q = some (.tup (bagV L)) → Q (.ref q) H'
theorem c_ringsG (T : Txt K mg base) : Cal P w K mg base 2 "left_in_rings" (spRingsG K) [] := by
  have C1 := c_twice (P := P) (w := w) T
  have C2 := c_two (P := P) (w := w) T
  refine calC (T.defs f_left_in_rings _ rfl) T.g sc_rings (fun _ _ _ _ _ _ us hl => match us, hl with | [_], _ => rfl) (fun vs H Q E h => by obtain ⟨p, ms, rfl, _⟩ := h; rfl) fun A outer s H vs Q E hr h => ⟨_, PSs.nox (pss_cons
    (ps_set (i := 1) sc_rings.nd rfl (.inl rfl) (pe_lst pa_nil)) (pss_cons (ps_set (i := 2) sc_rings.nd rfl (.inl rfl) (pe_listRg rfl rfl T.n (prg_1 rfl T.n (pe_callB (lenK (K := K) rfl) rfl T.n PySem.boot_len (pa_cons (pv 0) pa_nil)))))
    (pss_cons (ps_while PassesOwn.never (pt_cmpR (op_neD hr.units) (pv 1) (pv 2) (nomark _)) (pss_cons (ps_set (i := 1) sc_rings.nd rfl (.inl rfl) (pv 2))
      (pss_cons (ps_set (i := 3) sc_rings.nd rfl (.inr rfl) (pe_c C1 hr (by decide) rfl (pa_cons
        (pe_lc (own := [("k", 4)]) (g := gName 4) (tt := tYes) rfl sc_rings.nd (pi_list (pv 1)) (blkOk_by (N := ["masks", "left", "kept", "shared", "k"]) (sc := defScope (top p_left_in_rings)) (by decide +kernel)) (fun _ _ _ _ _ => pg_name (i := 4) sc_rings.nd rfl (Or.inl rfl)) (fun _ _ _ _ _ => pts_nil)
          (fun _ _ _ _ _ => pe_ix (ixLK (K := K) rfl) (pv 0) (pv 4) (fun _ _ => rfl))) pa_nil)))
      (pss_one (ps_setLc (i := 2) (own := [("k", 4)]) (g := gName 4) rfl sc_rings.nd rfl rfl (sw_true rfl rfl rfl (by decide +kernel)) (pi_list (pv 1)) (blkOk_by (N := ["masks", "left", "kept", "shared", "k"]) (sc := defScope (top p_left_in_rings)) (by decide +kernel)) (fun _ _ _ _ _ => pg_name (i := 4) sc_rings.nd rfl (Or.inl rfl))
        (fun _ _ _ _ _ => pts_one (pt_val (pe_c C2 hr (by decide) rfl (pa_cons (pe_op op_and (pe_ix (ixLK (K := K) rfl) (pv 0) (pv 4) (fun _ _ => rfl)) (pv 3)) pa_nil))))
          (fun _ _ _ _ _ => pv 4))))))
    (pss_one (ps_ret (pe_callTy call_tuple_of rfl T.n (by decide +kernel) (pa_cons (pv 1) pa_nil))))))), ?_⟩
  obtain ⟨p, ms, rfl, hS, hl, hT, hQ⟩ := h
  have e0 : Ext (tabs K) H H := Ext.refl hT
  refine ⟨Nat.zero_le _, fun pl hpl => ?_⟩
  have e1 := Ext.new (o := .lst []) hT hpl
  refine ⟨_, rfl, _, ms.length, rfl, .inl ⟨_, e1.seqL hS, bagV_len.symm⟩, _, rfl, ?_, fun pk hpk => ?_⟩
  · have hl : ms.length ≤ 1000 := hl
    exact RgOk.of_le (by decide) (by omega) (by decide) (by omega)
  have hpk0 : H pk = none := e1.none hpk
  have hne : pk ≠ pl := fun z => by rw [z, upd_same] at hpk; cases hpk
  have e2 := e1.trans (Ext.new (o := .lst (rgV 0 (ms.length : Int))) e1.tabs hpk)
  refine ⟨fun m σ H' => ∃ (pl pk : Addr) (L Kp : List Nat) (sh : Option V), σ = [some (.ref p), some (.ref pl), some (.ref pk), sh, none] ∧ Ext (tabs K) H H' ∧ H' pl = some (.lst (bagV L)) ∧ H' pk = some (.lst (bagV Kp)) ∧ H pk = none ∧
      Kp.Sublist (List.range ms.length) ∧ (∀ L' : List Nat, (∀ k ∈ L', k < ms.length) → (∀ k ∈ L', FM.Two ms L' k) → ∀ k ∈ L', k ∈ Kp) ∧ (L = Kp → ∀ k ∈ L, FM.left2 ms L k = true) ∧ m = 2 * Kp.length + (if L = Kp then 0 else 1),
    ⟨_, pl, pk, [], List.range ms.length, none, rfl, e2, by rw [upd_ne (Ne.symm hne), upd_same]; rfl, by rw [upd_same, rgV_nats], hpk0, List.Sublist.refl _, fun L' h1 _ k hk => List.mem_range.mpr (h1 k hk), fun _ k hk => by simp at hk, rfl⟩, ?_⟩
  rintro m σ H' ⟨pl, pk, L, Kp, sh, rfl, e, hL, hK, hk0, hsub, hall, hst, rfl⟩
  have hnd : Kp.Nodup := List.Nodup.sublist hsub List.nodup_range
  have hlt : ∀ k ∈ Kp, k < ms.length := fun k hk => List.mem_range.mp (hsub.subset hk)
  have hlen : Kp.length ≤ ms.length := by have := hsub.length_le; rw [List.length_range] at this; exact this
  refine ⟨_, rfl, _, rfl, _, _, .lst (SqL.of hL) (dp_bagV L), .lst (SqL.of hK) (dp_bagV Kp), shaped_nats L, shaped_nats Kp, _, rfl, ?_⟩
  have ee : PyData.eqv (.list (L.map fun (n : Nat) => PyData.int (n : Int))) (.list (Kp.map fun (n : Nat) => PyData.int (n : Int))) = decide (L = Kp) := by
    rw [PyData.eqv]
    exact eqvAll_nats L Kp
  rw [ee]
  by_cases q : L = Kp
  · rw [decide_eq_true q]
    refine iteF ?_
    subst q
    have great : FM.Great ms L := ⟨hsub, fun k hk => (FM.left2_iff hk hnd).mp (hst rfl k hk), hall⟩
    exact ⟨_, rfl, pl, _, rfl, .inl ⟨SqL.of hL, fun l hln => hQ L great _ l (e.trans (Ext.new e.tabs hln)) (e.none hln) upd_same⟩⟩
  · rw [decide_eq_false q]
    refine iteT ?_
    refine ⟨fun σ' H'' => ∃ (pk2 : Addr) (sh : Option V), σ' = [some (.ref p), some (.ref pk), some (.ref pk2), sh, none] ∧ Ext (tabs K) H H'' ∧ H'' pk = some (.lst (bagV Kp)) ∧ H'' pk2 = some (.lst (bagV (Kp.filter (FM.left2 ms Kp)))) ∧ H pk2 = none,
      fun σ' H'' ⟨pk2, sh2, es, e3, h1, h2, h3⟩ => ⟨_, ?_, pk, pk2, Kp, Kp.filter (FM.left2 ms Kp), sh2, es, e3, h1, h2, h3, List.Sublist.trans List.filter_sublist hsub, fun L' g1 g2 k hk => ?_, fun z k hk => ?_, rfl⟩, ?_⟩
    · rw [if_neg q]
      by_cases z : Kp = Kp.filter (FM.left2 ms Kp)
      · rw [if_pos z, ← z]; omega
      · have := len_filter_lt fun y => z y.symm
        rw [if_neg z]; omega
    · have hkK := hall L' g1 g2 k hk
      exact List.mem_filter.mpr ⟨hkK, (FM.left2_iff hkK hnd).mpr ((g2 k hk).mono fun j hj => hall L' g1 g2 j hj)⟩
    · rw [z] at hk
      exact (List.mem_filter.mp hk).2
    · have ml : ∀ k ∈ Kp, ms[k]? = some (ms.getD k 0) := fun k hk => by
        have := hlt k hk
        rw [List.getD_eq_getElem?_getD, List.getElem?_eq_getElem this]
        rfl
      refine ⟨_, rfl, _, rfl, pk, rfl, ⟨_, SqL.of hK⟩, fun D hD => ?_⟩
      refine lc_list (K := K) (a := pk) (xs := bagV Kp) (fun i H'' => Ext (tabs K) H' H'' ∧ H'' D = some (.lst (bagV ((Kp.take i).map fun k => ms.getD k 0)))) ⟨Ext.new e.tabs hD, upd_same⟩ (fun i H'' _ z => z.1.seqL (SqL.of hK)) (fun i x H'' hx z => ?_) (fun H'' z => ?_)
      · obtain ⟨e3, eD⟩ := z
        obtain ⟨k, hk, rfl⟩ := get_bagV hx
        have hkm := List.mem_of_getElem? hk
        have hi := (List.getElem?_eq_some_iff.mp hk).1
        refine ⟨rfl, tyes_if ⟨_, rfl, _, rfl, p, _, _, _, rfl, rfl, (e.trans e3).seqL hS, atI_nat (bagV_get (ml k hkm)), _, eD, ?_, e3.set hD ⟨_, eD, fun ps y => by cases y⟩, ?_⟩⟩
        · rw [bagV_len, List.length_map, List.length_take]
          have hl : ms.length ≤ 1000 := hl
          exact small1000 (by omega)
        · rw [upd_same, List.take_add_one, hk]
          simp
      · obtain ⟨e3, eD⟩ := z
        rw [List.take_of_length_le (by simp)] at eD
        refine ⟨D, _, rfl, SqL.of eD, ?_⟩
        refine ⟨_, rfl, pk, rfl, ⟨_, e3.seqL (SqL.of hK)⟩, fun D2 hD2 => ?_⟩
        have e4 := e.trans e3
        refine lc_list (K := K) (a := pk) (xs := bagV Kp) (fun i H3 => Ext (tabs K) H'' H3 ∧ H3 D2 = some (.lst (bagV ((Kp.take i).filter (FM.left2 ms Kp))))) ⟨Ext.new e3.tabs hD2, upd_same⟩ (fun i H3 _ z => (e3.trans z.1).seqL (SqL.of hK)) (fun i x H3 hx z => ?_) (fun H3 z => ?_)
        · obtain ⟨e5, eD2⟩ := z
          obtain ⟨k, hk, rfl⟩ := get_bagV hx
          have hkm := List.mem_of_getElem? hk
          have hi := (List.getElem?_eq_some_iff.mp hk).1
          have tk : (Kp.take (i + 1)).filter (FM.left2 ms Kp) = (Kp.take i).filter (FM.left2 ms Kp) ++ (if FM.left2 ms Kp k = true then [k] else []) := by
            rw [List.take_add_one, hk, List.filter_append]
            simp [List.filter_cons]
          refine ⟨rfl, _, rfl, _, rfl, p, _, _, _, rfl, rfl, (e4.trans e5).seqL hS, atI_nat (bagV_get (ml k hkm)), _, rfl, _, _, rfl, rfl, ms.getD k 0 &&& FM.twice (Kp.map fun k => ms.getD k 0), ?_, _, rfl, ?_⟩
          · show [V.int (Builtin.bitAnd ((ms.getD k 0 : Nat) : Int) ((FM.twice (Kp.map fun k => ms.getD k 0) : Nat) : Int))] = _
            rw [band]
          · refine ite2 (fun y => ?_) fun y => ?_
            · have y2 : FM.left2 ms Kp k = true := y
              refine ⟨_, rfl, _, eD2, ?_, e5.set hD2 ⟨_, eD2, fun ps y => by cases y⟩, ?_⟩
              · have h9 := List.length_filter_le (FM.left2 ms Kp) (Kp.take i)
                rw [List.length_take] at h9
                rw [bagV_len]
                have hl : ms.length ≤ 1000 := hl
                exact small1000 (by omega)
              · rw [upd_same, tk, if_pos y2]
                simp
            · have y2 : ¬ FM.left2 ms Kp k = true := y
              refine ⟨e5, ?_⟩
              rw [tk, if_neg y2, List.append_nil]
              exact eD2
        · obtain ⟨e5, eD2⟩ := z
          rw [List.take_of_length_le (by simp)] at eD2
          exact ⟨D2, _, rfl, e4.trans e5, (e3.trans e5).lst hK, eD2, e4.none hD2⟩
end
end K00
end

section
set_option Elab.async false
set_option linter.all false
set_option maxRecDepth 100000
set_option maxHeartbeats 4000000
/-! bead_count, is_integer, is_between, is_ascending. -/
namespace K00
open PySem PySem.Spec PyProof.Rows L2 GX GxR PG C8
section
variable {P : Program} {w : World} {K : PySem.W.Frag} {mg : Str → Option Value} {base : Heap}
theorem isT {Kf : PySem.W.Frag} {a b : String} {r : Bool} (h : kitB a b = some r := by rfl) : PySem.W.kitOne Kf (.type a) (.type b) = some r := kit_ty h
/-! ### is_integer, is_between: of whole numbers -/
def spInt : Sp := fun vs H Q _ => ∃ i : Int, vs = [.int i] ∧ Q (.bl true) H
theorem sc_int : FnScope ["value"] ["value"] (defScope (top p_is_integer)) := fnScope_by (by decide +kernel)
theorem c_int (T : Txt K mg base) : Cal P w K mg base 1 "is_integer" spInt [] := by
  refine calC (T.defs f_is_integer _ rfl) T.g sc_int (fun _ _ _ _ _ _ us hl => match us, hl with | [_], _ => rfl) (fun vs H Q E h => by obtain ⟨i, rfl, _⟩ := h; rfl) fun A outer s H vs Q E hr h => ⟨_, PSs.nox (pss_one (ps_ret
    (pe_and (pe_callB call_isi rfl T.n boot_isinstance (pa_cons (pv 0) (pa_cons (pe_bltn (v := .ty "int") rfl T.n PyProof.Rows.boot_int rfl) pa_nil)))
      (pe_one (pe_not (pe_callB call_isi rfl T.n boot_isinstance (pa_cons (pv 0) (pa_cons (pe_bltn (v := .ty "bool") rfl T.n PyProof.Rows.boot_bool rfl) pa_nil)))))))), ?_⟩
  obtain ⟨i, rfl, hQ⟩ := h
  exact ⟨_, rfl, _, _, _, _, true, rfl, .ty _, .base (.int _), isT, _, rfl, iteT ⟨_, rfl, _, _, _, _, false, rfl, .ty _, .base (.int _), isT, _, rfl, hQ⟩⟩
def spBetween : Sp := fun vs H Q _ => ∃ v lo hi : Int, vs = [.int v, .int lo, .int hi] ∧ lo ≤ v ∧ v ≤ hi ∧ Q (.bl true) H
theorem sc_between : FnScope ["value", "least", "most"] ["value", "least", "most"] (defScope (top p_is_between)) := fnScope_by (by decide +kernel)
theorem c_between (T : Txt K mg base) : Cal P w K mg base 2 "is_between" spBetween [] := by
  have C1 := c_int (P := P) (w := w) T
  refine calC (T.defs f_is_between _ rfl) T.g sc_between (fun _ _ _ _ _ _ us hl => match us, hl with | [_, _, _], _ => rfl) (fun vs H Q E h => by obtain ⟨i, _, _, rfl, _⟩ := h; rfl) fun A outer s H vs Q E hr h => ⟨_, PSs.nox (pss_one (ps_ret
    (pe_and (pe_c C1 hr (by decide) rfl (pa_cons (pv 0) pa_nil)) (pe_one (pe_chain op_le op_le (pv 1) (pv 0) (pv 2)))))), ?_⟩
  obtain ⟨v, lo, hi, rfl, h1, h2, hQ⟩ := h
  refine ⟨_, rfl, v, rfl, _, rfl, iteT ⟨_, rfl, _, rfl, _, _, rfl, rfl, _, rfl, ?_⟩⟩
  rw [decide_eq_true h1]
  refine iteT ⟨_, rfl, _, _, rfl, rfl, ?_⟩
  show Q (.bl (decide (v ≤ hi))) H
  rw [decide_eq_true h2]
  exact hQ

/-! ### is_ascending -/
/-- one item below another: numbers, bags -/
def Lt1 (K : PySem.W.Frag) (H : Hp) (x y : V) : Prop := (∃ i j : Int, x = .int i ∧ y = .int j ∧ i < j) ∨ ∃ (a b : Addr) (ns ms : List Int), x = .ref a ∧ y = .ref b ∧ SqT K H a (ns.map V.int) ∧ SqT K H b (ms.map V.int) ∧ HT.lexLt ns ms = true
theorem Lt1.ext {T : List Addr} {H H' : Hp} {x y : V} (e : Ext T H H') (h : Lt1 K H x y) : Lt1 K H' x y := by
  rcases h with h | ⟨a, b, ns, ms, e1, e2, h1, h2, h3⟩
  · exact .inl h
  · exact .inr ⟨a, b, ns, ms, e1, e2, e.seqT h1, e.seqT h2, h3⟩
def rLess (K : PySem.W.Frag) : R2 := fun x y H Q => (rI0 (fun i j => .bl (decide (i < j)))) x y H Q ∨ rLtT K x y H Q
theorem op_less {X : Cx} (hK : X.K = K) (hu : X.A.units < cLine) : OpR X (compareOp .Lt) (rLess K) := by
  subst hK
  exact OpR.or op_lt (op_ltT hu)
def spAsc (K : PySem.W.Frag) : Sp := fun vs H Q _ => ∃ (a : Addr) (xs : List V), vs = [.ref a] ∧ SqT K H a xs ∧ xs.length ≤ small ∧ (∀ (i : Nat) x y, xs[i]? = some x → xs[i + 1]? = some y → Lt1 K H x y) ∧ Tabs (tabs K) H ∧ ∀ H', Ext (tabs K) H H' → Q (.bl true) H'
theorem sc_asc : FnScope ["items"] ["items"] (defScope (top p_is_ascending)) := fnScope_by (by decide +kernel)
theorem c_asc (T : Txt K mg base) : Cal P w K mg base 2 "is_ascending" (spAsc K) [] := by
  refine calC (T.defs f_is_ascending _ rfl) T.g sc_asc (fun _ _ _ _ _ _ us hl => match us, hl with | [_], _ => rfl) (fun vs H Q E h => by obtain ⟨a, xs, rfl, _⟩ := h; rfl) fun A outer s H vs Q E hr h => ⟨_, PSs.nox (pss_one (ps_ret
    (pe_allG (x := "k") (cap := [("items", 0)]) hr rfl rfl T.n T.tb rfl (capOk_by (N := ["items"]) (sc := defScope (top p_is_ascending)) (by decide +kernel))
      (pi_range1 rfl T.n (pa_cons (pe_op op_sub (pe_callB (lenK (K := K) rfl) rfl T.n PySem.boot_len (pa_cons (pv 0) pa_nil)) pe_int) pa_nil))
      (fun _ _ _ _ _ => pts_nil) (fun _ _ _ _ _ => pe_cmpR (op_less (K := K) rfl (room_g hr).units0) (pe_ix (ixTK (K := K) rfl) (pv 1) (pv 0) (fun _ _ => rfl)) (pe_ix (ixTK (K := K) rfl) (pv 1) (pe_op op_add (pv 0) pe_int) (fun _ _ => rfl)) (nomark _))))), ?_⟩
  obtain ⟨a, xs, rfl, hS, hl, hlt, hT, hQ⟩ := h
  have hl2 := small62 hl
  refine ⟨_, rfl, _, xs.length, rfl, .inr ⟨_, hS, rfl⟩, _, _, rfl, rfl, _, rfl, ?_, ?_, tab_in hT, fun H2 tb => ?_⟩
  · have : (-(2 ^ 62) : Int) ≤ -1 := by decide
    omega
  · omega
  have e2 := Ext.tabbed hT (tab_in hT) tb
  refine all_src (src_rng (lo := 0) (n := (((xs.length : Nat) : Int) - 1).toNat)) (fun i H' => H' = H2) rfl (fun _ _ _ => trivial) (fun i v H' hv e => ?_) (fun H' e => ?_)
  · subst e
    have hi := (List.getElem?_eq_some_iff.mp hv).1
    rw [rngV_length] at hi
    rw [rngV_get hi] at hv
    have ev : v = V.int (i : Int) := by rw [← Option.some.inj hv]; congr 1; omega
    subst ev
    have g1 : xs[i]? = some (xs[i]'(by omega)) := List.getElem?_eq_getElem (by omega)
    have g2 : xs[i + 1]? = some (xs[i + 1]'(by omega)) := List.getElem?_eq_getElem (by omega)
    have l1 := (hlt i _ _ g1 g2).ext e2
    refine ⟨_, rfl, _, rfl, a, _, _, _, rfl, rfl, e2.seqT hS, atI_nat g1, _, rfl, _, rfl, _, _, rfl, rfl, a, xs, (i : Int) + 1, _, rfl, rfl, e2.seqT hS, atI_nat (j := i + 1) g2, ?_⟩
    rcases l1 with ⟨x, y, ex, ey, h⟩ | ⟨p, q, ns, ms, ex, ey, h1, h2, h3⟩
    · exact .inl ⟨x, y, ex, ey, _, rfl, fun _ => rfl, fun z => by rw [decide_eq_true h] at z; cases z⟩
    · exact .inr ⟨p, q, ns, ms, ex, ey, h1, h2, _, rfl, fun _ => rfl, fun z => by rw [h3] at z; cases z⟩
  · subst e
    exact hQ _ e2
end
end K00
end

section
set_option Elab.async false
set_option linter.all false
set_option maxRecDepth 100000
set_option maxHeartbeats 4000000
/-! The checks of a family, the number of beads. -/
namespace K00
open PySem PySem.Spec PyProof.Rows L2 GX GxR PG C8
theorem asc_len : ∀ (b : List Nat), FM.Asc b → ∀ n, (∀ y ∈ b, y < n) → b.length ≤ n := by
  intro b
  refine FM.rev_ind (P := fun b => FM.Asc b → ∀ n, (∀ y ∈ b, y < n) → b.length ≤ n) ?_ ?_ b
  · intro _ n _
    exact Nat.zero_le _
  · intro l x ih h n hn
    obtain ⟨h1, h2⟩ := FM.asc_snoc h
    have a := ih h1 x h2
    have hx : x < n := hn x (by simp)
    rw [List.length_append]
    simp only [List.length_cons, List.length_nil]
    omega
def natI (b : List Nat) : List Int := b.map fun (k : Nat) => (k : Int)
theorem natI_V (b : List Nat) : (natI b).map V.int = bagV b := by simp [natI, bagV]
/-- bags in their order -/
def Srt (bs : List (List Nat)) : Prop := ∀ (i : Nat) a b, bs[i]? = some a → bs[i + 1]? = some b → HT.lexLt (natI a) (natI b) = true
/-- a family as the law draws it -/
structure Good (n : Nat) (bs : List (List Nat)) (rk : Nat → Nat) : Prop where
  tree : FM.Tree n bs rk
  most : n ≤ 60
  few : bs.length ≤ small
  srt : Srt bs
theorem best_ge : ∀ (js : List Int) (j : Int), j ≤ best j js ∧ ∀ z ∈ js, z ≤ best j js
  | [], j => ⟨Int.le_refl _, fun z h => by cases h⟩
  | y :: r, j => by
    obtain ⟨h1, h2⟩ := best_ge r (gr j y)
    have e : best j (y :: r) = best (gr j y) r := rfl
    have g : j ≤ gr j y ∧ y ≤ gr j y := by
      unfold gr
      split <;> constructor <;> omega
    rw [e]
    refine ⟨Int.le_trans g.1 h1, fun z hz => ?_⟩
    rcases List.mem_cons.mp hz with q | q
    · rw [q]; exact Int.le_trans g.2 h1
    · exact h2 z q
theorem best_mem : ∀ (js : List Int) (j : Int), best j js = j ∨ best j js ∈ js
  | [], j => .inl rfl
  | y :: r, j => by
    have e : best j (y :: r) = best (gr j y) r := rfl
    rw [e]
    rcases best_mem r (gr j y) with q | q
    · rw [q]
      unfold gr
      split
      · exact .inr (by simp)
      · exact .inl rfl
    · exact .inr (List.mem_cons_of_mem _ q)
theorem best_eq {m j : Int} {js : List Int} (h : ∀ z ∈ j :: js, z ≤ m) (hm : m ∈ j :: js) : best j js = m := by
  obtain ⟨h1, h2⟩ := best_ge js j
  have h3 : best j js ≤ m := by
    rcases best_mem js j with q | q
    · rw [q]; exact h j (by simp)
    · exact h _ (List.mem_cons_of_mem _ q)
  have h4 : m ≤ best j js := by
    rcases List.mem_cons.mp hm with q | q
    · rw [q]; exact h1
    · exact h2 m q
  omega
def lastI (b : List Nat) : Int := ((b.getLastD 0 : Nat) : Int)
theorem last_split {b : List Nat} (h : b ≠ []) : ∃ l, b = l ++ [b.getLastD 0] := by
  refine ⟨b.dropLast, ?_⟩
  have e : b.getLastD 0 = b.getLast h := by
    rw [List.getLastD_eq_getLast?, List.getLast?_eq_some_getLast h]; rfl
  rw [e]
  exact (List.dropLast_concat_getLast h).symm
theorem bag_last {b : List Nat} (h : b ≠ []) : atI (bagV b) (-1) = some (.int (lastI b)) := by
  obtain ⟨l, e⟩ := last_split h
  have e2 : bagV b = bagV l ++ [V.int (lastI b)] := by
    conv => lhs; rw [e]
    simp [bagV, lastI]
  rw [e2]
  exact atI_last _ _
theorem Good.two_ne {n : Nat} {bs : List (List Nat)} {rk : Nat → Nat} (G : Good n bs rk) {b : List Nat} (h : b ∈ bs) : b ≠ [] := fun z => by
  have := G.tree.two b h
  rw [z] at this
  simp at this
theorem Good.max {n : Nat} {bs : List (List Nat)} {rk : Nat → Nat} (G : Good n bs rk) {b0 : List Nat} {r : List (List Nat)} (e : bs = b0 :: r) : best (lastI b0) (r.map lastI) = (n : Int) - 1 := by
  refine best_eq (fun z hz => ?_) ?_
  · have hz2 : z ∈ bs.map lastI := by rw [e]; exact hz
    obtain ⟨b, hb, rfl⟩ := List.mem_map.mp hz2
    obtain ⟨l, el⟩ := last_split (G.two_ne hb)
    have := G.tree.lt b hb (b.getLastD 0) (by rw [el]; simp)
    unfold lastI
    omega
  · have h2 := G.tree.two_le
    obtain ⟨b, hb, hx⟩ := G.tree.cover (x := n - 1) (by omega)
    have hz : lastI b ∈ bs.map lastI := List.mem_map.mpr ⟨b, hb, rfl⟩
    have el : lastI b = (n : Int) - 1 := by
      obtain ⟨l, el⟩ := last_split (G.two_ne hb)
      have a := G.tree.asc b hb
      have lt := G.tree.lt b hb (b.getLastD 0) (by rw [el]; simp)
      rw [el] at a hx
      obtain ⟨_, a2⟩ := FM.asc_snoc a
      unfold lastI
      rcases List.mem_append.mp hx with q | q
      · have := a2 _ q
        omega
      · have := List.mem_singleton.mp q
        omega
    rw [e, List.map_cons, el] at hz
    exact hz
section
variable {P : Program} {w : World} {K : PySem.W.Frag} {mg : Str → Option Value} {base : Heap}
theorem ty_tup {H : Hp} {a : Addr} {xs : List V} (h : SqT K H a xs) : TyX K H (.ref a) (.type "tuple") := by
  rcases h with (h | ⟨o, h⟩) | ⟨o, its, n, h1, h2, _⟩
  · exact .base (.tup h)
  · exact .fTuple h
  · exact .kTuple h1 h2
/-! ### is_bead_tuple, is_bag -/
def spBT (K : PySem.W.Frag) : Sp := fun vs H Q _ => ∃ v b, vs = [v] ∧ IsB K H v b ∧ FM.Asc b ∧ (∀ x ∈ b, x < 60) ∧ Tabs (tabs K) H ∧ ∀ H', Ext (tabs K) H H' → Q (.bl true) H'
theorem asc_next {b : List Nat} (h : FM.Asc b) {i x y : Nat} (hx : b[i]? = some x) (hy : b[i + 1]? = some y) : x < y := by
  obtain ⟨h1, e1⟩ := List.getElem?_eq_some_iff.mp hx
  obtain ⟨h2, e2⟩ := List.getElem?_eq_some_iff.mp hy
  have := (List.pairwise_iff_getElem.mp h) i (i + 1) h1 h2 (Nat.lt_succ_self i)
  rw [e1, e2] at this
  exact this
theorem sc_ai : FnScope ["value", "least", "most"] ["value", "least", "most"] (defScope (top p_are_integers)) := fnScope_by (by decide +kernel)
def spAI (K : PySem.W.Frag) : Sp := fun vs H Q _ => ∃ v b lo hi, vs = [v, .int lo, .int hi] ∧ IsB K H v b ∧ (∀ x ∈ b, lo ≤ ((x : Nat) : Int) ∧ ((x : Nat) : Int) ≤ hi) ∧ Tabs (tabs K) H ∧ ∀ H', Ext (tabs K) H H' → Q (.bl true) H'
theorem c_ai (T : Txt K mg base) : Cal P w K mg base 4 "are_integers" (spAI K) [] := by
  have C1 := c_between (P := P) (w := w) T
  refine calC (T.defs f_are_integers _ rfl) T.g sc_ai (fun _ _ _ _ _ _ us hl => match us, hl with | [_, _, _], _ => rfl) (fun vs H Q E h => by obtain ⟨a, b, lo, hi, rfl, _⟩ := h; rfl) fun A outer s H vs Q E hr h => ⟨_, PSs.nox (pss_one (ps_ret
    (pe_and (pe_callB call_isi rfl T.n boot_isinstance (pa_cons (pv 0) (pa_cons (pe_bltn (v := .ty "tuple") rfl T.n PyProof.Rows.boot_tuple rfl) pa_nil)))
      (pe_one (pe_allG (x := "number") (cap := [("least", 1), ("most", 2)]) hr rfl rfl T.n T.tb rfl (capOk_by (N := ["value", "least", "most"]) (sc := defScope (top p_are_integers)) (by decide +kernel)) (pi_tup (pv 0))
        (fun _ _ _ _ _ => pts_nil) (fun _ _ _ _ _ => pe_c C1 (room_g hr) (by decide) rfl (pa_cons (pv 0) (pa_cons (pv 1) (pa_cons (pv 2) pa_nil))))))))), ?_⟩
  obtain ⟨v, b, lo, hi, rfl, ⟨t, rfl, hS⟩, hlt, hT, hQ⟩ := h
  refine ⟨_, rfl, _, _, _, _, true, rfl, .ty _, ty_tup hS, isT, _, rfl, iteT ?_⟩
  refine ⟨_, rfl, t, rfl, ⟨_, hS⟩, tab_in hT, fun H2 tb => ?_⟩
  have e2 := Ext.tabbed hT (tab_in hT) tb
  refine all_src (src_tup (xs := bagV b)) (fun i H' => H' = H2) rfl (fun i H' e => by rw [e]; exact e2.seqT hS) (fun i v H' hv e => ?_) (fun H' e => ?_)
  · subst e
    obtain ⟨x, hx, rfl⟩ := get_bagV hv
    have := hlt x (List.mem_of_getElem? hx)
    refine ⟨_, rfl, _, rfl, _, rfl, (x : Int), lo, hi, rfl, this.1, this.2, true, rfl, fun _ => rfl, fun z => by cases z⟩
  · subst e
    exact hQ _ e2
theorem sc_bt : FnScope ["value"] ["value"] (defScope (top p_is_bead_tuple)) := fnScope_by (by decide +kernel)
theorem c_bt (T : Txt K mg base) : Cal P w K mg base 5 "is_bead_tuple" (spBT K) [] := by
  have C1 := c_ai (P := P) (w := w) T
  have C2 := c_asc (P := P) (w := w) T
  obtain ⟨tk, hmb⟩ := He.int_ok T.kin T.ns (T.facts (.int "MOST_BEADS" 60) (List.mem_append_right _ (List.mem_append_right _ (by simp [fi, fi0]))))
  refine calC (T.defs f_is_bead_tuple _ rfl) T.g sc_bt (fun _ _ _ _ _ _ us hl => match us, hl with | [_], _ => rfl) (fun vs H Q E h => by obtain ⟨a, xs, rfl, _⟩ := h; rfl) fun A outer s H vs Q E hr h => ⟨_, PSs.nox (pss_one (ps_ret
    (pe_and (pe_c C1 hr (by decide) rfl (pa_cons (pv 0) (pa_cons pe_int (pa_cons (pe_op op_sub (pe_glob (v := .int 60) rfl hmb ⟨_, rfl⟩) pe_int) pa_nil))))
      (pe_one (pe_c C2 hr (by decide) rfl (pa_cons (pv 0) pa_nil)))))), ?_⟩
  obtain ⟨v, b, rfl, ⟨t, rfl, hS⟩, ha, hlt, hT, hQ⟩ := h
  refine ⟨_, rfl, _, _, rfl, rfl, .ref t, b, 0, 60 - 1, rfl, ⟨t, rfl, hS⟩, fun x hx => by have := hlt x hx; omega, hT, fun H2 e2 => ?_⟩
  refine ⟨_, rfl, iteT ⟨_, rfl, t, _, rfl, e2.seqT hS, ?_, fun i x y hx hy => ?_, e2.tabs, fun H3 e3 => hQ H3 (e2.trans e3)⟩⟩
  · rw [bagV_len]
    have := asc_len b ha 60 hlt
    exact Nat.le_trans this (by decide)
  · obtain ⟨x', hx', rfl⟩ := get_bagV hx
    obtain ⟨y', hy', rfl⟩ := get_bagV hy
    exact .inl ⟨_, _, rfl, rfl, by have := asc_next ha hx' hy'; omega⟩
theorem sc_bag : FnScope ["value"] ["value"] (defScope (top p_is_bag)) := fnScope_by (by decide +kernel)
def spBag (K : PySem.W.Frag) : Sp := fun vs H Q _ => ∃ v b, vs = [v] ∧ IsB K H v b ∧ FM.Asc b ∧ 2 ≤ b.length ∧ (∀ x ∈ b, x < 60) ∧ Tabs (tabs K) H ∧ ∀ H', Ext (tabs K) H H' → Q (.bl true) H'
theorem c_bag (T : Txt K mg base) : Cal P w K mg base 6 "is_bag" (spBag K) [] := by
  have C1 := c_bt (P := P) (w := w) T
  refine calC (T.defs f_is_bag _ rfl) T.g sc_bag (fun _ _ _ _ _ _ us hl => match us, hl with | [_], _ => rfl) (fun vs H Q E h => by obtain ⟨a, xs, rfl, _⟩ := h; rfl) fun A outer s H vs Q E hr h => ⟨_, PSs.nox (pss_one (ps_ret
    (pe_and (pe_c C1 hr (by decide) rfl (pa_cons (pv 0) pa_nil)) (pe_one (pe_cmpR op_ge (pe_callB (lenK (K := K) rfl) rfl T.n PySem.boot_len (pa_cons (pv 0) pa_nil)) pe_int (nomark _)))))), ?_⟩
  obtain ⟨v, b, rfl, hB, ha, h2, hlt, hT, hQ⟩ := h
  refine ⟨_, rfl, v, b, rfl, hB, ha, hlt, hT, fun H2 e2 => ⟨_, rfl, iteT ?_⟩⟩
  obtain ⟨t, rfl, hS⟩ := hB
  refine ⟨_, rfl, _, b.length, rfl, .inr ⟨_, e2.seqT hS, bagV_len.symm⟩, _, _, rfl, rfl, ?_⟩
  have e : decide (((b.length : Nat) : Int) ≥ 2) = true := decide_eq_true (by omega)
  show Q (.bl (decide (((b.length : Nat) : Int) ≥ 2))) H2
  rw [e]
  exact hQ H2 e2
end
end K00
end

section
set_option Elab.async false
set_option linter.all false
set_option maxRecDepth 100000
set_option maxHeartbeats 4000000
/-! are_bags, makes_family, check_bags, check_family, is_family, bar, bead_count, beads, rank: of families. -/
namespace K00
open PySem PySem.Spec PyProof.Rows L2 GX GxR PG C8
section
variable {P : Program} {w : World} {K : PySem.W.Frag} {mg : Str → Option Value} {base : Heap}
/-- of a family, f tells the answer -/
def spFam (f : Nat → List (List Nat) → V) (K : PySem.W.Frag) : Sp := fun vs H Q _ => ∃ v n bs rk, vs = [v] ∧ IsBs K H v bs ∧ Good n bs rk ∧ Tabs (tabs K) H ∧ ∀ H', Ext (tabs K) H H' → Q (f n bs) H'
theorem Each.get {H : Hp} {xs : List V} {bs : List (List Nat)} (E : Each K H xs bs) {i : Nat} {v : V} (h : xs[i]? = some v) : ∃ b, bs[i]? = some b ∧ IsB K H v b := by
  have hi := (List.getElem?_eq_some_iff.mp h).1
  have e : bs[i]? = some (bs[i]'(by rw [← E.len]; exact hi)) := List.getElem?_eq_getElem _
  exact ⟨_, e, E.is i v _ h e⟩
theorem sc_arebags : FnScope ["value"] ["value"] (defScope (top p_are_bags)) := fnScope_by (by decide +kernel)
theorem c_arebags (T : Txt K mg base) : Cal P w K mg base 8 "are_bags" (spFam (fun _ _ => .bl true) K) [] := by
  have C1 := c_bag (P := P) (w := w) T
  have C2 := c_asc (P := P) (w := w) T
  refine calC (T.defs f_are_bags _ rfl) T.g sc_arebags (fun _ _ _ _ _ _ us hl => match us, hl with | [_], _ => rfl) (fun vs H Q E h => by obtain ⟨a, n, xs, rk, rfl, _⟩ := h; rfl) fun A outer s H vs Q E hr h => ⟨_, PSs.nox (pss_cons
    (ps_if (PW.pt (pw_or (pt_not (pt_val (pe_callB call_isi rfl T.n boot_isinstance (pa_cons (pv 0) (pa_cons (pe_bltn (v := .ty "tuple") rfl T.n PyProof.Rows.boot_tuple rfl) pa_nil))))) (pw_or1 (pt_not (pt_tru (K := K) rfl (pv 0)))))) (pss_one ps_never) pss_nil)
    (pss_one (ps_ret (pe_and
      (pe_allG (x := "bag") (cap := []) hr rfl rfl T.n T.tb rfl (capOk_by (N := ["value"]) (sc := defScope (top p_are_bags)) (by decide +kernel)) (pi_tup (pv 0))
        (fun _ _ _ _ _ => pts_nil) (fun _ _ _ _ _ => pe_c C1 (room_g hr) (by decide) rfl (pa_cons (pv 0) pa_nil)))
      (pe_one (pe_c C2 hr (by decide) rfl (pa_cons (pv 0) pa_nil))))))), ?_⟩
  obtain ⟨v, n, bs, rk, rfl, ⟨t, xs, rfl, hS, hE⟩, G, hT, hQ⟩ := h
  refine ⟨_, rfl, _, _, _, _, true, rfl, .ty _, ty_tup hS, isT, _, rfl, iteF ⟨_, rfl, true, .inr (.inl ⟨_, hS, ?_⟩), iteF ?_⟩⟩
  · obtain ⟨b, r, e⟩ := G.tree.ne
    have := hE.len
    rw [e] at this
    cases xs with
    | nil => simp at this
    | cons _ _ => rfl
  refine ⟨_, rfl, t, rfl, ⟨_, hS⟩, tab_in hT, fun H2 tb => ?_⟩
  have e2 := Ext.tabbed hT (tab_in hT) tb
  refine all_src (Q := fun x H1 => ∃ c, x = V.bl c ∧ if c = true then tCall (spAsc K) [] C8.E0 (tCons (tVar 0) tNil) (L2.start [("value" : Str)] [V.ref t]) H1 Q else Q (.bl false) H1) (src_tup (xs := xs)) (fun i H' => Ext (tabs K) H H') e2 (fun i H' e => e.seqT hS) (fun i v H' hv e => ?_) (fun H' e => ?_)
  · obtain ⟨b, hb, hB⟩ := hE.get hv
    have hm := List.mem_of_getElem? hb
    exact ⟨_, rfl, v, b, rfl, hB.ext e, G.tree.asc b hm, G.tree.two b hm, fun x hx => Nat.lt_of_lt_of_le (G.tree.lt b hm x hx) G.most, e.tabs, fun H3 e3 => ⟨true, rfl, fun _ => e.trans e3, fun z => by cases z⟩⟩
  · refine ⟨_, rfl, iteT ⟨_, rfl, t, _, rfl, e.seqT hS, by rw [hE.len]; exact G.few, fun i x y hx hy => ?_, e.tabs, fun H3 e3 => hQ H3 (e.trans e3)⟩⟩
    obtain ⟨b1, hb1, p, rfl, h1⟩ := hE.get hx
    obtain ⟨b2, hb2, q, rfl, h2⟩ := hE.get hy
    exact .inr ⟨p, q, natI b1, natI b2, rfl, rfl, by rw [natI_V]; exact e.seqT h1, by rw [natI_V]; exact e.seqT h2, G.srt i b1 b2 hb1 hb2⟩
theorem sc_makes : FnScope ["value"] ["value"] (defScope (top p_makes_family)) := fnScope_by (by decide +kernel)
theorem c_makes (T : Txt K mg base) : Cal P w K mg base 9 "makes_family" (spFam (fun _ _ => .bl true) K) [] := by
  have C1 := c_arebags (P := P) (w := w) T
  have C2 := c_bar (P := P) (w := w) T
  refine calC (T.defs f_makes_family _ rfl) T.g sc_makes (fun _ _ _ _ _ _ us hl => match us, hl with | [_], _ => rfl) (fun vs H Q E h => by obtain ⟨a, n, xs, rk, rfl, _⟩ := h; rfl) fun A outer s H vs Q E hr h => ⟨_, PSs.nox (pss_one (ps_ret
    (pe_and (pe_c C1 hr (by decide) rfl (pa_cons (pv 0) pa_nil)) (pe_one (pe_cmpR op_isN (pe_c C2 hr (by decide) rfl (pa_cons (pv 0) pa_nil)) pe_non (nomark _)))))), ?_⟩
  obtain ⟨v, n, bs, rk, rfl, hB, G, hT, hQ⟩ := h
  exact ⟨_, rfl, v, n, bs, rk, rfl, hB, G, hT, fun H2 e2 => ⟨_, rfl, iteT ⟨_, rfl, v, bs, n, rk, rfl, hB.ext e2, G.tree, G.most, G.few, e2.tabs, fun H3 e3 => ⟨rfl, hQ H3 (e2.trans e3)⟩⟩⟩⟩
theorem sc_cbags : FnScope ["value"] ["value"] (defScope (top p_check_bags)) := fnScope_by (by decide +kernel)
theorem c_cbags (T : Txt K mg base) : Cal P w K mg base 9 "check_bags" (spFam (fun _ _ => .non) K) [] := by
  have C1 := c_arebags (P := P) (w := w) T
  refine calC (T.defs f_check_bags _ rfl) T.g sc_cbags (fun _ _ _ _ _ _ us hl => match us, hl with | [_], _ => rfl) (fun vs H Q E h => by obtain ⟨a, n, xs, rk, rfl, _⟩ := h; rfl) fun A outer s H vs Q E hr h => ⟨_, PSs.nox (pss_one
    (ps_if (pt_not (pt_val (pe_c C1 hr (by decide) rfl (pa_cons (pv 0) pa_nil)))) (pss_one ps_never) pss_nil)), ?_⟩
  obtain ⟨v, n, bs, rk, rfl, hB, G, hT, hQ⟩ := h
  exact ⟨_, rfl, v, n, bs, rk, rfl, hB, G, hT, fun H2 e2 => ⟨_, rfl, iteF (hQ H2 e2)⟩⟩
theorem sc_isfam : FnScope ["value"] ["value"] (defScope (top p_is_family)) := fnScope_by (by decide +kernel)
theorem c_isfam (T : Txt K mg base) : Cal P w K mg base 10 "is_family" (spFam (fun _ _ => .bl true) K) [] := by
  have C1 := c_makes (P := P) (w := w) T
  refine calC (T.defs f_is_family _ rfl) T.g sc_isfam (fun _ _ _ _ _ _ us hl => match us, hl with | [_], _ => rfl) (fun vs H Q E h => by obtain ⟨a, n, xs, rk, rfl, _⟩ := h; rfl) fun A outer s H vs Q E hr h => ⟨_, PSs.nox (pss_one (ps_ret
    (pe_c C1 hr (by decide) rfl (pa_cons (pv 0) pa_nil)))), ?_⟩
  obtain ⟨v, n, bs, rk, rfl, hB, G, hT, hQ⟩ := h
  exact ⟨_, rfl, v, n, bs, rk, rfl, hB, G, hT, hQ⟩
theorem sc_barf : FnScope ["value"] ["value"] (defScope (top p_bar)) := fnScope_by (by decide +kernel)
theorem c_barf (T : Txt K mg base) : Cal P w K mg base 10 "bar" (spFam (fun _ _ => .non) K) [] := by
  have C1 := c_cbags (P := P) (w := w) T
  have C2 := c_bar (P := P) (w := w) T
  refine calC (T.defs f_bar _ rfl) T.g sc_barf (fun _ _ _ _ _ _ us hl => match us, hl with | [_], _ => rfl) (fun vs H Q E h => by obtain ⟨a, n, xs, rk, rfl, _⟩ := h; rfl) fun A outer s H vs Q E hr h => ⟨_, PSs.nox (pss_cons
    (ps_expr (pe_c C1 hr (by decide) rfl (pa_cons (pv 0) pa_nil)))
    (pss_one (ps_ret (pe_c C2 hr (by decide) rfl (pa_cons (pv 0) pa_nil))))), ?_⟩
  obtain ⟨v, n, bs, rk, rfl, hB, G, hT, hQ⟩ := h
  exact ⟨_, rfl, v, n, bs, rk, rfl, hB, G, hT, fun H2 e2 => ⟨_, rfl, v, bs, n, rk, rfl, hB.ext e2, G.tree, G.most, G.few, e2.tabs, fun H3 e3 => hQ H3 (e2.trans e3)⟩⟩
/-! ### bead_count, beads, rank -/
end
end K00
end

section
set_option Elab.async false
set_option linter.all false
set_option maxRecDepth 100000
set_option maxHeartbeats 4000000
/-! first_bar, makes_family, is_family, bar: of any bags. -/
namespace K00
open PySem PySem.Spec PyProof.Rows L2 GX GxR PG C8
/-- what bars bags -/
inductive Ans where
  | bead (k : Nat)
  | two (i j : Nat)
  | apart (l : List Nat)
  | ring (l : List Nat)
  | fam
def Joined (ms : List Nat) : Prop := ∃ m0 J, ms[0]? = some m0 ∧ FM.Hung ms m0 J ∧ ¬ (joins ms J).length < ms.length
def Bar (ms : List Nat) : Ans → Prop
  | .bead k => Miss ms k
  | .two i j => Full ms ∧ Dbl ms i j
  | .apart l => Full ms ∧ NoDbl ms ∧ ∃ m0 J, ms[0]? = some m0 ∧ FM.Hung ms m0 J ∧ l = joins ms J ∧ l.length < ms.length
  | .ring l => Full ms ∧ NoDbl ms ∧ Joined ms ∧ FM.Great ms l ∧ l ≠ []
  | .fam => Full ms ∧ NoDbl ms ∧ Joined ms ∧ FM.Great ms []
/-- the answer as a value -/
def AnsV (K : PySem.W.Frag) (H : Hp) (v : V) : Ans → Prop
  | .bead k => ∃ t, v = .ref t ∧ H t = some (.tup [.str "bead", .int (k : Int)])
  | .two i j => ∃ t, v = .ref t ∧ H t = some (.tup [.str "two", .int (i : Int), .int (j : Int)])
  | .apart l => ∃ t q, v = .ref t ∧ H t = some (.tup [.str "apart", .ref q]) ∧ H q = some (.tup (bagV l))
  | .ring l => ∃ t q, v = .ref t ∧ H t = some (.tup [.str "ring", .ref q]) ∧ H q = some (.tup (bagV l))
  | .fam => v = .non
/-- bags, each of two beads or more -/
structure Bags (bs : List (List Nat)) : Prop where
  asc : ∀ b ∈ bs, FM.Asc b
  two : ∀ b ∈ bs, 2 ≤ b.length
  lt : ∀ b ∈ bs, ∀ x ∈ b, x < 60
  few : bs.length ≤ small
  ne : bs ≠ []
  srt : Srt bs
theorem miss_or_full (ms : List Nat) : (∃ k, Miss ms k) ∨ Full ms := by
  by_cases h : Full ms
  · exact .inr h
  · refine .inl ?_
    have key : ∀ n, (∀ j, j < n → (FM.held ms).testBit j = true) ∨ ∃ k, k < n ∧ (FM.held ms).testBit k = false ∧ ∀ j, j < k → (FM.held ms).testBit j = true := by
      intro n
      induction n with
      | zero => exact .inl fun j hj => absurd hj (Nat.not_lt_zero j)
      | succ n ih =>
        rcases ih with q | ⟨k, h1, h2, h3⟩
        · by_cases e : (FM.held ms).testBit n = true
          · refine .inl fun j hj => ?_
            by_cases z : j = n
            · rw [z]; exact e
            · exact q j (by omega)
          · exact .inr ⟨n, Nat.lt_succ_self n, by simpa using e, q⟩
        · exact .inr ⟨k, Nat.lt_succ_of_lt h1, h2, h3⟩
    rcases key (Builtin.Int.intBits ((FM.held ms : Nat) : Int)) with q | ⟨k, h1, h2, h3⟩
    · exact absurd q h
    · exact ⟨k, h1, h2, h3⟩
section
variable {P : Program} {w : World} {K : PySem.W.Frag} {mg : Str → Option Value} {base : Heap}
def spBarG (K : PySem.W.Frag) : Sp := fun vs H Q _ => ∃ v bs, vs = [v] ∧ IsBs K H v bs ∧ Bags bs ∧ Tabs (tabs K) H ∧ ∀ a H' v', Bar (bs.map FM.mask) a → Ext (tabs K) H H' → AnsV K H' v' a → Q v' H'
theorem held_lt {bs : List (List Nat)} (B : Bags bs) : FM.held (bs.map FM.mask) < 2 ^ 60 := by
  apply Nat.lt_pow_two_of_testBit
  intro k hk
  rw [FM.held_bit]
  rw [List.any_eq_false]
  intro m hm h
  obtain ⟨b, hb, rfl⟩ := List.mem_map.mp hm
  rw [FM.mask_bit b (B.asc b hb), decide_eq_true_eq] at h
  have := B.lt b hb k h
  omega
theorem c_barG (T : Txt K mg base) : Cal P w K mg base 3 "first_bar" (spBarG K) [] := by
  have C1 := c_masks (P := P) (w := w) T
  have C2 := c_missG (P := P) (w := w) T
  have C3 := c_dblG (P := P) (w := w) T
  have C4 := c_hangG (P := P) (w := w) T
  have C5 := c_ringsG (P := P) (w := w) T
  refine calC (T.defs f_first_bar _ rfl) T.g sc_bar (fun _ _ _ _ _ _ us hl => match us, hl with | [_], _ => rfl) (fun vs H Q E h => by obtain ⟨v, bs, rfl, _⟩ := h; rfl) fun A outer s H vs Q E hr h => ⟨_, PSs.nox (pss_cons
    (ps_set (i := 1) sc_bar.nd rfl (.inl rfl) (pe_c C1 hr (by decide) rfl (pa_cons (pv 0) pa_nil)))
    (pss_cons (ps_set (i := 2) sc_bar.nd rfl (.inl rfl) (pe_c C2 hr (by decide) rfl (pa_cons (pv 1) pa_nil)))
    (pss_cons (ps_if (pt_cmpR op_notN (pv 2) pe_non (nomark _)) (pss_one (ps_ret (pe_tup (pa_cons pe_str (pa_cons (pv 2) pa_nil))))) pss_nil)
    (pss_cons (ps_set (i := 3) sc_bar.nd rfl (.inl rfl) (pe_c C3 hr (by decide) rfl (pa_cons (pv 1) pa_nil)))
    (pss_cons (ps_if (pt_cmpR op_notN (pv 3) pe_non (nomark _)) (pss_one (ps_ret (pe_tup (pa_cons pe_str (pa_cons (pe_ix ix_tup (pv 3) pe_int (fun _ _ => rfl)) (pa_cons (pe_ix ix_tup (pv 3) pe_int (fun _ _ => rfl)) pa_nil)))))) pss_nil)
    (pss_cons (ps_set (i := 4) sc_bar.nd rfl (.inl rfl) (pe_c C4 hr (by decide) rfl (pa_cons (pv 1) pa_nil)))
    (pss_cons (ps_if (pt_cmpR op_lt (pe_callB (lenK (K := K) rfl) rfl T.n PySem.boot_len (pa_cons (pv 4) pa_nil)) (pe_callB (lenK (K := K) rfl) rfl T.n PySem.boot_len (pa_cons (pv 1) pa_nil)) (nomark _)) (pss_one (ps_ret (pe_tup (pa_cons pe_str (pa_cons (pv 4) pa_nil))))) pss_nil)
    (pss_cons (ps_set (i := 5) sc_bar.nd rfl (.inl rfl) (pe_c C5 hr (by decide) rfl (pa_cons (pv 1) pa_nil)))
    (pss_cons (ps_if (pt_tru (K := K) rfl (pv 5)) (pss_one (ps_ret (pe_tup (pa_cons pe_str (pa_cons (pv 5) pa_nil))))) pss_nil)
    (pss_one (ps_ret pe_non))))))))))), ?_⟩
  obtain ⟨v, bs, rfl, hB, G, hTb, hQ⟩ := h
  refine ⟨_, rfl, v, bs, rfl, hB, G.lt, G.few, hTb, fun H1 p e1 hp0 hp => ?_⟩
  have lms : (bs.map FM.mask).length ≤ small := by rw [List.length_map]; exact G.few
  have ltm : ∀ m ∈ bs.map FM.mask, m < 2 ^ 60 := fun m hm => by
    obtain ⟨b, hb, rfl⟩ := List.mem_map.mp hm
    exact FM.mask_lt b (G.asc b hb) 60 (G.lt b hb)
  refine ⟨_, rfl, p, _, rfl, SqL.of hp, held_lt G, lms, fun k hk => ?_, fun hfull => ?_⟩
  · refine ⟨_, rfl, rfl, _, rfl, iteT ⟨_, rfl, small_line (n := 2) (by decide), fun t ht => ?_⟩⟩
    exact hQ (.bead k) _ _ hk (e1.trans (Ext.new e1.tabs ht)) ⟨t, rfl, upd_same⟩
  refine ⟨_, rfl, rfl, _, rfl, iteF ?_⟩
  refine ⟨_, rfl, p, _, rfl, SqL.of hp, lms, fun i j hd q hq => ?_, fun hno => ?_⟩
  · have n2 := Ext.new (o := .tup [.int (i : Int), .int (j : Int)]) e1.tabs hq
    refine ⟨_, rfl, rfl, _, rfl, iteT ⟨_, rfl, q, _, _, _, rfl, rfl, SqT.of upd_same, atI_nat (j := 0) rfl, _, rfl, q, _, _, _, rfl, rfl, SqT.of upd_same, atI_nat (j := 1) rfl, small_line (n := 3) (by decide), fun t ht => ?_⟩⟩
    exact hQ (.two i j) _ _ ⟨hfull, hd⟩ ((e1.trans n2).trans (Ext.new n2.tabs ht)) ⟨t, rfl, upd_same⟩
  refine ⟨_, rfl, rfl, _, rfl, iteF ?_⟩
  obtain ⟨b0, r0, eb⟩ : ∃ b r, bs = b :: r := by
    cases e : bs with
    | nil => exact absurd e G.ne
    | cons b r => exact ⟨b, r, rfl⟩
  have m0 : (bs.map FM.mask)[0]? = some (FM.mask b0) := by rw [eb]; rfl
  refine ⟨_, rfl, p, _, FM.mask b0, rfl, SqL.of hp, lms, m0, ltm, e1.tabs, fun J hJ H2 q e2 hq0 hq => ?_⟩
  have hp2 := e2.lst hp
  refine ⟨_, rfl, _, _, rfl, .inr ⟨_, SqT.of hq, rfl⟩, _, rfl, _, (bs.map FM.mask).length, rfl, .inl ⟨_, SqL.of hp2, bagV_len.symm⟩, _, _, rfl, rfl, _, rfl, ?_⟩
  refine ite2 (fun z => ?_) fun z => ?_
  · have z := of_decide_eq_true z
    rw [bagV_len] at z
    refine ⟨_, rfl, small_line (n := 2) (by decide), fun t ht => ?_⟩
    have n3 := Ext.new (o := .tup [.str "apart", .ref q]) e2.tabs ht
    exact hQ (.apart (joins (bs.map FM.mask) J)) _ _ ⟨hfull, hno, _, J, m0, hJ, rfl, by omega⟩ ((e1.trans e2).trans n3) ⟨t, q, rfl, upd_same, n3.tup hq⟩
  have hjoin : Joined (bs.map FM.mask) := ⟨_, J, m0, hJ, fun y => z (decide_eq_true (by rw [bagV_len]; omega))⟩
  refine ⟨_, rfl, p, _, rfl, SqL.of hp2, lms, e2.tabs, fun L hL H3 r e3 hr0 hr => ?_⟩
  refine ⟨_, rfl, !(bagV L).isEmpty, .inr (.inl ⟨_, SqT.of hr, rfl⟩), ?_⟩
  have E3 := (e1.trans e2).trans e3
  cases L with
  | nil => exact iteF (hQ .fam H3 .non ⟨hfull, hno, hjoin, hL⟩ E3 rfl)
  | cons x l =>
    refine iteT ⟨_, rfl, small_line (n := 2) (by decide), fun t ht => ?_⟩
    have n3 := Ext.new (o := .tup [.str "ring", .ref r]) e3.tabs ht
    exact hQ (.ring (x :: l)) _ _ ⟨hfull, hno, hjoin, hL, by simp⟩ (E3.trans n3) ⟨t, r, rfl, upd_same, n3.tup hr⟩
end
end K00
end

section
set_option Elab.async false
set_option linter.all false
set_option maxRecDepth 100000
set_option maxHeartbeats 4000000
/-! are_bags, makes_family, check_bags, is_family, bar: of any bags. -/
namespace K00
open PySem PySem.Spec PyProof.Rows L2 GX GxR PG C8
section
variable {P : Program} {w : World} {K : PySem.W.Frag} {mg : Str → Option Value} {base : Heap}
def spBagsG (x : V) (K : PySem.W.Frag) : Sp := fun vs H Q _ => ∃ v bs, vs = [v] ∧ IsBs K H v bs ∧ Bags bs ∧ Tabs (tabs K) H ∧ ∀ H', Ext (tabs K) H H' → Q x H'
theorem c_arebagsG (T : Txt K mg base) : Cal P w K mg base 8 "are_bags" (spBagsG (.bl true) K) [] := by
  have C1 := c_bag (P := P) (w := w) T
  have C2 := c_asc (P := P) (w := w) T
  refine calC (T.defs f_are_bags _ rfl) T.g sc_arebags (fun _ _ _ _ _ _ us hl => match us, hl with | [_], _ => rfl) (fun vs H Q E h => by obtain ⟨a, n, rfl, _⟩ := h; rfl) fun A outer s H vs Q E hr h => ⟨_, PSs.nox (pss_cons
    (ps_if (PW.pt (pw_or (pt_not (pt_val (pe_callB call_isi rfl T.n boot_isinstance (pa_cons (pv 0) (pa_cons (pe_bltn (v := .ty "tuple") rfl T.n PyProof.Rows.boot_tuple rfl) pa_nil))))) (pw_or1 (pt_not (pt_tru (K := K) rfl (pv 0)))))) (pss_one ps_never) pss_nil)
    (pss_one (ps_ret (pe_and
      (pe_allG (x := "bag") (cap := []) hr rfl rfl T.n T.tb rfl (capOk_by (N := ["value"]) (sc := defScope (top p_are_bags)) (by decide +kernel)) (pi_tup (pv 0))
        (fun _ _ _ _ _ => pts_nil) (fun _ _ _ _ _ => pe_c C1 (room_g hr) (by decide) rfl (pa_cons (pv 0) pa_nil)))
      (pe_one (pe_c C2 hr (by decide) rfl (pa_cons (pv 0) pa_nil))))))), ?_⟩
  obtain ⟨v, bs, rfl, ⟨t, xs, rfl, hS, hE⟩, G, hT, hQ⟩ := h
  refine ⟨_, rfl, _, _, _, _, true, rfl, .ty _, ty_tup hS, isT, _, rfl, iteF ⟨_, rfl, true, .inr (.inl ⟨_, hS, ?_⟩), iteF ?_⟩⟩
  · have := hE.len
    cases xs with
    | nil => exact absurd (List.length_eq_zero_iff.mp this.symm) G.ne
    | cons _ _ => rfl
  refine ⟨_, rfl, t, rfl, ⟨_, hS⟩, tab_in hT, fun H2 tb => ?_⟩
  have e2 := Ext.tabbed hT (tab_in hT) tb
  refine all_src (Q := fun x H1 => ∃ c, x = V.bl c ∧ if c = true then tCall (spAsc K) [] C8.E0 (tCons (tVar 0) tNil) (L2.start [("value" : Str)] [V.ref t]) H1 Q else Q (.bl false) H1) (src_tup (xs := xs)) (fun i H' => Ext (tabs K) H H') e2 (fun i H' e => e.seqT hS) (fun i v H' hv e => ?_) (fun H' e => ?_)
  · obtain ⟨b, hb, hB⟩ := hE.get hv
    have hm := List.mem_of_getElem? hb
    exact ⟨_, rfl, v, b, rfl, hB.ext e, G.asc b hm, G.two b hm, G.lt b hm, e.tabs, fun H3 e3 => ⟨true, rfl, fun _ => e.trans e3, fun z => by cases z⟩⟩
  · refine ⟨_, rfl, iteT ⟨_, rfl, t, _, rfl, e.seqT hS, by rw [hE.len]; exact G.few, fun i x y hx hy => ?_, e.tabs, fun H3 e3 => hQ H3 (e.trans e3)⟩⟩
    obtain ⟨b1, hb1, p, rfl, h1⟩ := hE.get hx
    obtain ⟨b2, hb2, q, rfl, h2⟩ := hE.get hy
    exact .inr ⟨p, q, natI b1, natI b2, rfl, rfl, by rw [natI_V]; exact e.seqT h1, by rw [natI_V]; exact e.seqT h2, G.srt i b1 b2 hb1 hb2⟩
def Ans.good : Ans → Bool
  | .fam => true
  | _ => false
theorem AnsV.isNon {H : Hp} {v : V} {a : Ans} (h : AnsV K H v a) : decide (v = V.non) = a.good := by
  cases a with
  | fam => have h : v = V.non := h; subst h; rfl
  | bead k => obtain ⟨t, rfl, _⟩ := h; rfl
  | two i j => obtain ⟨t, rfl, _⟩ := h; rfl
  | apart l => obtain ⟨t, q, rfl, _⟩ := h; rfl
  | ring l => obtain ⟨t, q, rfl, _⟩ := h; rfl
def spIsG (K : PySem.W.Frag) : Sp := fun vs H Q _ => ∃ v bs, vs = [v] ∧ IsBs K H v bs ∧ Bags bs ∧ Tabs (tabs K) H ∧ ∀ a H', Bar (bs.map FM.mask) a → Ext (tabs K) H H' → Q (.bl a.good) H'
theorem c_makesG (T : Txt K mg base) : Cal P w K mg base 9 "makes_family" (spIsG K) [] := by
  have C1 := c_arebagsG (P := P) (w := w) T
  have C2 := c_barG (P := P) (w := w) T
  refine calC (T.defs f_makes_family _ rfl) T.g sc_makes (fun _ _ _ _ _ _ us hl => match us, hl with | [_], _ => rfl) (fun vs H Q E h => by obtain ⟨a, n, rfl, _⟩ := h; rfl) fun A outer s H vs Q E hr h => ⟨_, PSs.nox (pss_one (ps_ret
    (pe_and (pe_c C1 hr (by decide) rfl (pa_cons (pv 0) pa_nil)) (pe_one (pe_cmpR op_isN (pe_c C2 hr (by decide) rfl (pa_cons (pv 0) pa_nil)) pe_non (nomark _)))))), ?_⟩
  obtain ⟨v, bs, rfl, hB, G, hT, hQ⟩ := h
  refine ⟨_, rfl, v, bs, rfl, hB, G, hT, fun H2 e2 => ⟨_, rfl, iteT ⟨_, rfl, v, bs, rfl, hB.ext e2, G, e2.tabs, fun a H3 v' ha e3 hv => ⟨rfl, ?_⟩⟩⟩⟩
  show Q (.bl (decide (v' = V.non))) H3
  rw [hv.isNon]
  exact hQ a H3 ha (e2.trans e3)
theorem c_isfamG (T : Txt K mg base) : Cal P w K mg base 10 "is_family" (spIsG K) [] := by
  have C1 := c_makesG (P := P) (w := w) T
  refine calC (T.defs f_is_family _ rfl) T.g sc_isfam (fun _ _ _ _ _ _ us hl => match us, hl with | [_], _ => rfl) (fun vs H Q E h => by obtain ⟨a, n, rfl, _⟩ := h; rfl) fun A outer s H vs Q E hr h => ⟨_, PSs.nox (pss_one (ps_ret
    (pe_c C1 hr (by decide) rfl (pa_cons (pv 0) pa_nil)))), ?_⟩
  obtain ⟨v, bs, rfl, hB, G, hT, hQ⟩ := h
  exact ⟨_, rfl, v, bs, rfl, hB, G, hT, hQ⟩
theorem c_cbagsG (T : Txt K mg base) : Cal P w K mg base 9 "check_bags" (spBagsG .non K) [] := by
  have C1 := c_arebagsG (P := P) (w := w) T
  refine calC (T.defs f_check_bags _ rfl) T.g sc_cbags (fun _ _ _ _ _ _ us hl => match us, hl with | [_], _ => rfl) (fun vs H Q E h => by obtain ⟨a, n, rfl, _⟩ := h; rfl) fun A outer s H vs Q E hr h => ⟨_, PSs.nox (pss_one
    (ps_if (pt_not (pt_val (pe_c C1 hr (by decide) rfl (pa_cons (pv 0) pa_nil)))) (pss_one ps_never) pss_nil)), ?_⟩
  obtain ⟨v, bs, rfl, hB, G, hT, hQ⟩ := h
  exact ⟨_, rfl, v, bs, rfl, hB, G, hT, fun H2 e2 => ⟨_, rfl, iteF (hQ H2 e2)⟩⟩
theorem c_barfG (T : Txt K mg base) : Cal P w K mg base 10 "bar" (spBarG K) [] := by
  have C1 := c_cbagsG (P := P) (w := w) T
  have C2 := c_barG (P := P) (w := w) T
  refine calC (T.defs f_bar _ rfl) T.g sc_barf (fun _ _ _ _ _ _ us hl => match us, hl with | [_], _ => rfl) (fun vs H Q E h => by obtain ⟨a, n, rfl, _⟩ := h; rfl) fun A outer s H vs Q E hr h => ⟨_, PSs.nox (pss_cons
    (ps_expr (pe_c C1 hr (by decide) rfl (pa_cons (pv 0) pa_nil)))
    (pss_one (ps_ret (pe_c C2 hr (by decide) rfl (pa_cons (pv 0) pa_nil))))), ?_⟩
  obtain ⟨v, bs, rfl, hB, G, hT, hQ⟩ := h
  exact ⟨_, rfl, v, bs, rfl, hB, G, hT, fun H2 e2 => ⟨_, rfl, v, bs, rfl, hB.ext e2, G, e2.tabs, fun a H3 v' ha e3 hv => hQ a H3 v' ha (e2.trans e3) hv⟩⟩
end
end K00
end

section
set_option Elab.async false
set_option linter.all false
set_option maxRecDepth 100000
set_option maxHeartbeats 4000000
/-! Comprehensions over known sources; degrees, sizes, one_bag. -/
namespace PG
open PySem PySem.Spec PyProof.Rows L2 GX GxR
/-- a list comprehension over a known source: gs what comes of each item (none: it is left out) -/
theorem lc_src {T : List Addr} {J : It} {xs : List V} {Ok : Hp → Prop} {g : TG} {tt : TT} {te : TE} {vs : List Nat} {σ : L2.St} {H1 : Hp} {D : Addr} {Qd : Hp → Prop} (S : Src J xs Ok) (gs : List (Option V)) (hg : gs.length = xs.length) (hlen : xs.length ≤ sizeLine)
    (hT : Tabs T H1) (hD : H1 D = none) (hok : ∀ H', Ext T H1 H' → Ok H')
    (hs : ∀ (i : Nat) (x : V) (gv : Option V) (H' : Hp) (N : Hp → Prop) (Y : VK), xs[i]? = some x → gs[i]? = some gv → Ext T H1 H' → (∀ H4, gv = none → Ext T H' H4 → N H4) → (∀ y H4, gv = some y → Ext T H' H4 → Y y H4) →
      g x (wipe σ vs) H' fun σ2 H2 => wipe σ2 vs = wipe σ vs ∧ tt σ2 H2 fun b H3 => if b = true then te σ2 H3 Y else N H3)
    (hd : ∀ H', Ext T H1 H' → H' D = some (.lst (gs.filterMap id)) → Qd H') :
    ∃ W : Nat → Nat → Hp → Prop, (∃ m, W 0 m (upd H1 D (.lst []))) ∧ ∀ i m H, W i m H →
      (J.stop i H ∧ Qd H) ∨ (J.go i H ∧ ∃ Nx : Hp → Prop, (∀ H', Nx H' → ∃ m', m' < m ∧ W (i + 1) m' H') ∧ ∀ x H', J.yld i H x H' → g x (wipe σ vs) H' fun σ2 H2 => wipe σ2 vs = wipe σ vs ∧ tt σ2 H2 fun b H3 =>
        if b = true then te σ2 H3 fun y H4 => ∃ acc, H4 D = some (.lst acc) ∧ acc.length < sizeLine ∧ Nx (upd H4 D (.lst (acc ++ [y]))) else Nx H3) := by
  refine ⟨fun i m H => m = xs.length - i ∧ i ≤ xs.length ∧ Ext T H1 H ∧ H D = some (.lst ((gs.take i).filterMap id)), ⟨xs.length, by simp, Nat.zero_le _, Ext.new hT hD, by rw [upd_same]; rfl⟩, ?_⟩
  rintro i m H ⟨rfl, hi, e, eD⟩
  have short : ∀ j, ((gs.take j).filterMap id).length ≤ j := fun j => Nat.le_trans (List.length_filterMap_le _ _) (List.length_take_le _ _)
  by_cases hlt : i < xs.length
  · have hgg : gs[i]? = some gs[i] := List.getElem?_eq_getElem (by omega)
    have tk : gs.take (i + 1) = gs.take i ++ [gs[i]] := by rw [List.take_add_one, hgg]; rfl
    refine .inr ⟨S.go i H (hok H e) hlt, fun H' => Ext T H1 H' ∧ H' D = some (.lst ((gs.take (i + 1)).filterMap id)), fun H' p => ⟨xs.length - (i + 1), by omega, rfl, hlt, p⟩, fun x H' y => ?_⟩
    obtain ⟨eH, q⟩ := S.yld i H x H' (hok H e) hlt y
    subst eH
    refine hs i x gs[i] _ _ _ q hgg e (fun H4 en e4 => ⟨e.trans e4, ?_⟩) (fun y H4 en e4 => ⟨_, e4.lst eD, Nat.lt_of_le_of_lt (short i) (Nat.lt_of_lt_of_le hlt hlen), (e.trans e4).set hD ⟨_, e4.lst eD, fun ps z => by cases z⟩, ?_⟩)
    · rw [tk, List.filterMap_append, e4.lst eD]
      simp [en]
    · rw [tk, List.filterMap_append, upd_same]
      simp [en]
  · have ei : i = xs.length := by omega
    subst ei
    refine .inl ⟨S.stop _ H (hok H e) (Nat.le_refl _), hd H e ?_⟩
    rw [List.take_of_length_le (by omega)] at eD
    exact eD
theorem fm_some {α : Type} (l : List α) : (l.map some).filterMap id = l := by
  induction l with
  | nil => rfl
  | cons x r ih => simp
end PG
namespace K00
open PySem PySem.Spec PyProof.Rows L2 GX GxR PG C8
section
variable {P : Program} {w : World} {K : PySem.W.Frag} {mg : Str → Option Value} {base : Heap}
/-! ### xs[i], i not negative, as an old value -/
theorem get_list0 {X : Cx} : PGet X (fun o i H Q => ∃ p xs k v, o = .ref p ∧ i = .int k ∧ 0 ≤ k ∧ SqL X.K H p xs ∧ atI xs k = some v ∧ Q v H) := by
  intro pins s σ H o i ov iv Q I ro ri h
  obtain ⟨p, xs, k, z, rfl, rfl, h0, hq, he, q⟩ := h
  cases ro
  obtain ⟨t, rfl⟩ := ri
  obtain ⟨its, r, pl, hz⟩ := I.list hq
  obtain ⟨j, h1, h2, h3, h4, h5⟩ := atI_get he
  obtain ⟨w, ew, rw'⟩ := r.get h2
  have hl := r.length
  have hn := line63
  have hj : k.toNat = j := by
    rw [seqIndex_of h0 h5] at h1
    exact Option.some.inj h1
  exact wpAny_getItem_list pl.isList h0 (by omega) (by rw [hj]; simpa using ew) ⟨z, H, I, rw', q⟩
/-! ### degrees -/
/-- the number of bags that hold x -/
def cnt (bs : List (List Nat)) (x : Nat) : Nat := (bs.filter fun b => b.contains x).length
theorem cnt_snoc (bs : List (List Nat)) (b : List Nat) (x : Nat) : cnt (bs ++ [b]) x = cnt bs x + if x ∈ b then 1 else 0 := by
  unfold cnt
  rw [List.filter_append, List.length_append]
  by_cases h : x ∈ b <;> simp [h]
def degs (n : Nat) (bs : List (List Nat)) (b : List Nat) : List V := (List.range n).map fun x => V.int ((cnt bs x + if x ∈ b then 1 else 0 : Nat) : Int)
theorem degs_len {n : Nat} {bs : List (List Nat)} {b : List Nat} : (degs n bs b).length = n := by simp [degs]
theorem degs_get {n : Nat} {bs : List (List Nat)} {b : List Nat} {x : Nat} (h : x < n) : (degs n bs b)[x]? = some (.int ((cnt bs x + if x ∈ b then 1 else 0 : Nat) : Int)) := by simp [degs, h]
theorem degs_snoc (n : Nat) (bs : List (List Nat)) (b : List Nat) : degs n (bs ++ [b]) [] = degs n bs b := by
  unfold degs
  refine List.map_congr_left fun x _ => ?_
  rw [cnt_snoc]
  simp
theorem degs_set {n : Nat} {bs : List (List Nat)} {b : List Nat} {x : Nat} (h : x < n) (hx : x ∉ b) : (degs n bs b).set x (.int ((cnt bs x : Nat) + 1)) = degs n bs (b ++ [x]) := by
  apply List.ext_getElem?
  intro i
  by_cases hi : i < n
  · rw [List.getElem?_set, degs_get hi, degs_get hi]
    by_cases e : x = i
    · subst e
      rw [if_pos rfl, degs_len, if_pos hi]
      simp
    · rw [if_neg e]
      have : (i ∈ b ++ [x]) ↔ i ∈ b := by simp; intro z; exact absurd z.symm e
      simp only [this]
  · have h1 : ((degs n bs b).set x (.int ((cnt bs x : Nat) + 1)))[i]? = none := List.getElem?_eq_none (by rw [List.length_set, degs_len]; omega)
    have h2 : (degs n bs (b ++ [x]))[i]? = none := List.getElem?_eq_none (by rw [degs_len]; omega)
    rw [h1, h2]
/-- of a family, a new tuple -/
def spNew (f : Nat → List (List Nat) → List V) (K : PySem.W.Frag) : Sp := fun vs H Q _ => ∃ v n bs rk, vs = [v] ∧ IsBs K H v bs ∧ Good n bs rk ∧ Tabs (tabs K) H ∧ ∀ H' q, Ext (tabs K) H H' → H q = none → H' q = some (.tup (f n bs)) → Q (.ref q) H'
end
end K00
end

section
set_option Elab.async false
set_option linter.all false
set_option maxRecDepth 100000
set_option maxHeartbeats 4000000
/-! sizes, one_bag. -/
namespace K00
open PySem PySem.Spec PyProof.Rows L2 GX GxR PG C8
section
variable {P : Program} {w : World} {K : PySem.W.Frag} {mg : Str → Option Value} {base : Heap}
/-- the numbers of beads of the bags -/
def lens (bs : List (List Nat)) : List Int := bs.map fun b => ((b.length : Nat) : Int)
theorem gs_get {α : Type} {f : α → V} {l : List α} {i : Nat} {gv : Option V} (h : (l.map fun x => some (f x))[i]? = some gv) : ∃ x, l[i]? = some x ∧ gv = some (f x) := by
  rw [List.getElem?_map] at h
  cases q : l[i]? with
  | none => rw [q] at h; cases h
  | some x => rw [q] at h; cases h; exact ⟨x, rfl, rfl⟩
theorem fm_map {α : Type} (f : α → V) (l : List α) : (l.map fun x => some (f x)).filterMap id = l.map f := by
  induction l with
  | nil => rfl
  | cons x r ih => simp
/-- sorted sizes -/
def spSizes (K : PySem.W.Frag) : Sp := fun vs H Q _ => ∃ v n bs rk, vs = [v] ∧ IsBs K H v bs ∧ Good n bs rk ∧ Tabs (tabs K) H ∧
  ∀ H' q (ns : List Int), ns.Perm (lens bs) → ns.Pairwise (· ≤ ·) → Ext (tabs K) H H' → H q = none → H' q = some (.tup (ns.map V.int)) → Q (.ref q) H'
/-! ### one_bag -/
def spOne (K : PySem.W.Frag) : Sp := fun vs H Q _ => ∃ n : Nat, vs = [.int (n : Int)] ∧ 2 ≤ n ∧ n ≤ 60 ∧ Tabs (tabs K) H ∧
  ∀ H' q r, Ext (tabs K) H H' → H r = none → H' q = some (.tup (bagV (List.range n))) → H' r = some (.tup [.ref q]) → Q (.ref r) H'
end
end K00
end

section
set_option Elab.async false
set_option linter.all false
set_option maxRecDepth 100000
set_option maxHeartbeats 4000000
/-! The law's draws: _law_taken, _law_pick. -/
namespace K00
open PySem PySem.Spec PyProof.Rows L2 GX GxR PG C8
/-- the heap without one object -/
def drop (H : Hp) (r : Addr) : Hp := fun b => if b = r then none else H b
theorem drop_self {H : Hp} {r : Addr} : drop H r r = none := by unfold drop; rw [if_pos rfl]
theorem drop_ne {H : Hp} {r b : Addr} (h : b ≠ r) : drop H r b = H b := by unfold drop; rw [if_neg h]
theorem drop_some {H : Hp} {r b : Addr} {o : HO} (h : drop H r b = some o) : b ≠ r ∧ H b = some o := by
  by_cases e : b = r
  · rw [e, drop_self] at h; cases h
  · rw [drop_ne e] at h; exact ⟨e, h⟩
section
variable {T : List Addr} {H H1 H2 : Hp} {r : Addr} {K : PySem.W.Frag}
/-- all but r is kept -/
abbrev ExtR (T : List Addr) (r : Addr) (H H' : Hp) : Prop := Ext T (drop H r) H'
theorem ExtR.of (e : Ext T H H1) : ExtR T r H H1 := ⟨fun b o h n => e.keep b o (drop_some h).2 n, e.tabs, fun b o h => e.dom b o (drop_some h).2⟩
theorem ExtR.trans (a : ExtR T r H H1) (b : ExtR T r H1 H2) : ExtR T r H H2 :=
  ⟨fun c o e n => b.keep c o (by rw [drop_ne (drop_some e).1]; exact a.keep c o e n) n, b.tabs, fun c o e => by
    obtain ⟨o', e'⟩ := a.dom c o e
    exact b.dom c o' (by rw [drop_ne (drop_some e).1]; exact e')⟩
theorem ExtR.refl (h : Tabs T H) : ExtR T r H H := .of (.refl h)
theorem ExtR.put {xs : List V} {o : HO} (a : ExtR T r H H1) (h : H1 r = some (.lst xs)) : ExtR T r H (upd H1 r o) := Ext.set a drop_self ⟨_, h, fun ps z => by cases z⟩
theorem sqL_drop {a : Addr} {xs : List V} (hne : a ≠ r) (h : SqL K H a xs) : SqL K (drop H r) a xs := by
  rcases h with (h | ⟨o, h⟩) | h
  · exact .inl (.inl (by rw [drop_ne hne]; exact h))
  · exact .inl (.inr ⟨o, by rw [drop_ne hne]; exact h⟩)
  · exact .inr h
theorem sqT_drop {a : Addr} {xs : List V} (hne : a ≠ r) (h : SqT K H a xs) : SqT K (drop H r) a xs := by
  rcases h with (h | ⟨o, h⟩) | h
  · exact .inl (.inl (by rw [drop_ne hne]; exact h))
  · exact .inl (.inr ⟨o, by rw [drop_ne hne]; exact h⟩)
  · exact .inr h
theorem ExtR.seqL {a : Addr} {xs : List V} (e : ExtR T r H H1) (hne : a ≠ r) (h : SqL K H a xs) : SqL K H1 a xs := Ext.seqL e (sqL_drop hne h)
theorem ExtR.lst {a : Addr} {xs : List V} (e : ExtR T r H H1) (hne : a ≠ r) (h : H a = some (.lst xs)) : H1 a = some (.lst xs) := Ext.lst e (by rw [drop_ne hne]; exact h)
theorem ExtR.none {p : Addr} (e : ExtR T r H H1) (h : H1 p = none) (hne : p ≠ r) : H p = none := by
  have := Ext.none e h
  rw [drop_ne hne] at this
  exact this
end
/-- the row of the draws, of the script at sc -/
def Rw (H : Hp) (r sc : Addr) : Prop := ∃ (k c v : Int), H r = some (.lst [.ref sc, .int k, .int c, .int v]) ∧ 0 ≤ k
structure Row (K : PySem.W.Frag) (H : Hp) (r sc : Addr) (cells : List Int) : Prop where
  sq : SqL K (drop H r) sc (cells.map V.int)
  rw : Rw H r sc
theorem sqL_d {K : PySem.W.Frag} {H H' : Hp} {r sc : Addr} {xs : List V} (h : SqL K (drop H r) sc xs) (k : ∀ b o, b ≠ r → H b = some o → (∀ ps, o ≠ .tbl ps) → H' b = some o) : SqL K H' sc xs := by
  rcases h with (h | ⟨o, h⟩) | h
  · exact .inl (.inl (k _ _ (drop_some h).1 (drop_some h).2 fun ps z => by cases z))
  · exact .inl (.inr ⟨o, k _ _ (drop_some h).1 (drop_some h).2 fun ps z => by cases z⟩)
  · exact .inr h
section
variable {K : PySem.W.Frag} {T : List Addr} {H H' : Hp} {r sc p : Addr} {cells : List Int}
theorem Rw.ext (h : Rw H r sc) (e : Ext T H H') : Rw H' r sc := by
  obtain ⟨k, c, v, h, hk⟩ := h
  exact ⟨k, c, v, e.lst h, hk⟩
theorem Rw.nep (h : Rw H r sc) (hp : H p = none) : p ≠ r := fun z => by
  obtain ⟨k, c, v, e, _⟩ := h
  rw [← z, hp] at e
  cases e
theorem Rw.put {o : HO} (h : Rw H r sc) (hne : p ≠ r) : Rw (upd H p o) r sc := by
  obtain ⟨k, c, v, h, hk⟩ := h
  exact ⟨k, c, v, by rw [upd_ne (Ne.symm hne)]; exact h, hk⟩
theorem Row.next (h : Row K H r sc cells) (e : ExtR T r H H') (w : Rw H' r sc) : Row K H' r sc cells := ⟨sqL_d h.sq fun b o hb g n => by rw [drop_ne hb]; exact e.keep b o (by rw [drop_ne hb]; exact g) n, w⟩
theorem Row.ext (h : Row K H r sc cells) (e : Ext T H H') : Row K H' r sc cells := h.next (ExtR.of e) (h.rw.ext e)
end
section
variable {P : Program} {w : World} {K : PySem.W.Frag} {mg : Str → Option Value} {base : Heap}
def spTaken (K : PySem.W.Frag) : Sp := fun vs H Q _ => ∃ (r : Addr) (many : Nat) (sc : Addr) (cells : List Int), vs = [.ref r, .int (many : Int)] ∧ 0 < many ∧ many ≤ 1000 ∧ Row K H r sc cells ∧ Tabs (tabs K) H ∧
  ∀ H' (j : Nat), j < many → Rw H' r sc → ExtR (tabs K) r H H' → Q (.int (j : Int)) H'
theorem sc_taken : FnScope ["row", "many", "found", "cell"] ["row", "many"] (defScope (top p_law_taken)) := fnScope_by (by decide +kernel)
theorem mod_nat {i : Int} {m : Nat} (h : 0 < m) : ∃ j : Nat, i % (m : Int) = (j : Int) ∧ j < m := by
  have h1 := Int.emod_nonneg i (b := (m : Int)) (by omega)
  have h2 := Int.emod_lt_of_pos i (b := (m : Int)) (by omega)
  exact ⟨(i % (m : Int)).toNat, by omega, by omega⟩
theorem sqL_put {H : Hp} {sc r : Addr} {xs : List V} {o : HO} (hne : sc ≠ r) (h : SqL K H sc xs) : SqL K (upd H r o) sc xs := by
  rcases h with (h | ⟨o, h⟩) | h
  · exact .inl (.inl (by rw [upd_ne hne]; exact h))
  · exact .inl (.inr ⟨o, by rw [upd_ne hne]; exact h⟩)
  · exact .inr h
theorem c_taken (T : Txt K mg base) : Cal P w K mg base 1 "_law_taken" (spTaken K) [] := by
  refine calC (T.defs f_law_taken _ rfl) T.g sc_taken (fun _ _ _ _ _ _ us hl => match us, hl with | [_, _], _ => rfl) (fun vs H Q E h => by obtain ⟨a, m, _, _, rfl, _⟩ := h; rfl) fun A outer s H vs Q E hr h => ⟨_, PSs.nox (pss_cons
    (ps_if (pt_cmpR op_gt (pe_ix ix_list (pv 0) pe_int (fun _ _ => rfl)) pe_int (nomark _))
      (pss_cons (ps_set (i := 2) sc_taken.nd rfl (.inl rfl) (pe_op op_mod (pe_callTy call_int1 rfl T.n (by decide +kernel) (pa_cons (pe_ix ix_list (pv 0) pe_int (fun _ _ => rfl)) pa_nil)) (pv 1)))
      (pss_cons (ps_asg (pe_op op_fdivW (pe_ix ix_list (pv 0) pe_int (fun _ _ => rfl)) (pv 1)) (pg_sub (pv 0) pe_int set_list))
      (pss_one (ps_ret (pv 2))))) pss_nil)
    (pss_cons (ps_asg (pe_op op_add (pe_ix ix_list (pv 0) pe_int (fun _ _ => rfl)) pe_int) (pg_sub (pv 0) pe_int set_list))
    (pss_cons (ps_if (pt_cmpR op_gt (pe_ix ix_list (pv 0) pe_int (fun _ _ => rfl)) (pe_callB call_len rfl T.n PySem.boot_len (pa_cons (pe_ix ix_list (pv 0) pe_int (fun _ _ => rfl)) pa_nil)) (nomark _))
      (pss_cons (ps_asg (pe_op op_mod (pe_callTy call_int1 rfl T.n (by decide +kernel) (pa_cons (pe_op op_add (pe_op op_mul (pe_ix ix_list (pv 0) pe_int (fun _ _ => rfl)) pe_int) pe_int) pa_nil)) pe_int) (pg_sub (pv 0) pe_int set_list))
      (pss_one (ps_ret (pe_op op_mod (pe_callTy call_int1 rfl T.n (by decide +kernel) (pa_cons (pe_op op_fdivW (pe_ix ix_list (pv 0) pe_int (fun _ _ => rfl)) pe_int) pa_nil)) (pv 1))))) pss_nil)
    (pss_cons (ps_set (i := 3) sc_taken.nd rfl (.inl rfl) (pe_ix ix_list (pe_ix ix_list (pv 0) pe_int (fun _ _ => rfl)) (pe_op op_sub (pe_ix ix_list (pv 0) pe_int (fun _ _ => rfl)) pe_int) (fun _ _ => rfl)))
    (pss_cons (ps_asg (pe_op op_mod (pe_callTy call_int1 rfl T.n (by decide +kernel) (pa_cons (pe_op op_add (pe_op op_add (pe_op op_mul (pe_ix ix_list (pv 0) pe_int (fun _ _ => rfl)) pe_int) (pv 3)) pe_int) pa_nil)) pe_int) (pg_sub (pv 0) pe_int set_list))
    (pss_cons (ps_if (pt_cmpR op_ge (pv 3) (pe_op op_pow pe_int pe_int) (nomark _))
      (pss_one (ps_asg (pe_op op_fdivW (pv 3) (pv 1)) (pg_sub (pv 0) pe_int set_list))) pss_nil)
    (pss_one (ps_ret (pe_op op_mod (pe_callTy call_int1 rfl T.n (by decide +kernel) (pa_cons (pv 3) pa_nil)) (pv 1)))))))))), ?_⟩
  obtain ⟨r, many, sc, cells, rfl, hm0, hm1, ⟨hD, k, c, v, hR, hk⟩, hT, hQ⟩ := h
  have hdiv : CDivW v (many : Int) := wide_div (b := 10) (by omega) (by rw [Int.natAbs_natCast]; exact Nat.lt_of_le_of_lt hm1 (by decide)) (by decide) (by decide)
  have hmpos : (0 : Int) < (many : Int) := by omega
  refine ⟨_, rfl, r, _, _, _, rfl, rfl, SqL.of hR, atI_nat (j := 3) rfl, _, _, rfl, rfl, _, rfl, ?_⟩
  refine ite2 (fun hv => ?_) fun hv => ?_
  · obtain ⟨j, ej, hj⟩ := mod_nat (i := v) hm0
    refine ⟨_, rfl, r, _, _, _, rfl, rfl, SqL.of hR, atI_nat (j := 3) rfl, .inl ⟨v, rfl, _, rfl, _, _, rfl, rfl, hmpos, ?_⟩⟩
    refine ⟨_, rfl, r, _, _, _, rfl, rfl, SqL.of hR, atI_nat (j := 3) rfl, _, rfl, _, _, rfl, rfl, hdiv, _, rfl, r, _, 3, 3, rfl, rfl, hR, rfl, _, rfl, ?_⟩
    show Q (.int (v % (many : Int))) _
    rw [ej]
    exact hQ _ j hj ⟨k, c, _, upd_same, hk⟩ (ExtR.put (ExtR.refl hT) hR)
  refine ⟨_, rfl, r, _, _, _, rfl, rfl, SqL.of hR, atI_nat (j := 1) rfl, _, _, rfl, rfl, _, rfl, r, _, 1, 1, rfl, rfl, hR, rfl, ?_⟩
  have hR1 : upd H r (.lst [.ref sc, .int (k + 1), .int c, .int v]) r = some (.lst [.ref sc, .int (k + 1), .int c, .int v]) := upd_same
  have hS1 : SqL K (upd H r (.lst [.ref sc, .int (k + 1), .int c, .int v])) sc (cells.map V.int) := sqL_d hD fun b o hb g _ => by rw [upd_ne hb]; exact g
  have e1 : ExtR (tabs K) r H (upd H r (.lst [.ref sc, .int (k + 1), .int c, .int v])) := ExtR.put (ExtR.refl hT) hR
  refine ⟨_, rfl, r, _, _, _, rfl, rfl, SqL.of hR1, atI_nat (j := 1) rfl, _, rfl, r, _, _, _, rfl, rfl, SqL.of hR1, atI_nat (j := 0) rfl, _, cells.length, rfl, .inl ⟨_, hS1, by rw [List.length_map]⟩, _, _, rfl, rfl, _, rfl, ?_⟩
  refine ite2 (fun hv => ?_) fun hv => ?_
  · have hR2 : upd (upd H r (.lst [.ref sc, .int (k + 1), .int c, .int v])) r (.lst [.ref sc, .int (k + 1), .int ((c * 48271 + 11) % 2147483647), .int v]) r = some (.lst [.ref sc, .int (k + 1), .int ((c * 48271 + 11) % 2147483647), .int v]) := upd_same
    have hS2 : SqL K (upd (upd H r (.lst [.ref sc, .int (k + 1), .int c, .int v])) r (.lst [.ref sc, .int (k + 1), .int ((c * 48271 + 11) % 2147483647), .int v])) sc (cells.map V.int) := sqL_d hD fun b o hb g _ => by rw [upd_ne hb, upd_ne hb]; exact g
    have e2 := e1.put (o := .lst [.ref sc, .int (k + 1), .int ((c * 48271 + 11) % 2147483647), .int v]) hR1
    obtain ⟨j, ej, hj⟩ := mod_nat (i := ((c * 48271 + 11) % 2147483647) / 7) hm0
    refine ⟨_, rfl, r, _, _, _, rfl, rfl, SqL.of hR1, atI_nat (j := 2) rfl, _, _, rfl, rfl, .inr ⟨by decide, by decide⟩, _, _, rfl, rfl, .inl ⟨_, rfl, _, _, rfl, rfl, (by decide : (0 : Int) < 2147483647), _, rfl, r, _, 2, 2, rfl, rfl, hR1, rfl, ?_⟩⟩
    refine ⟨_, rfl, r, _, _, _, rfl, rfl, SqL.of hR2, atI_nat (j := 2) rfl, _, _, rfl, rfl, wide_div (b := 3) (by decide) (by decide) (by decide) (by decide), .inl ⟨_, rfl, _, rfl, _, _, rfl, rfl, hmpos, ?_⟩⟩
    show Q (.int (((c * 48271 + 11) % 2147483647) / 7 % (many : Int))) _
    rw [ej]
    exact hQ _ j hj ⟨k + 1, _, _, hR2, by omega⟩ e2
  have hv2 : ¬ (k + 1 > ((cells.length : Nat) : Int)) := fun z => hv (decide_eq_true z)
  obtain ⟨cell, hcell⟩ : ∃ z, cells[k.toNat]? = some z := ⟨cells[k.toNat]'(by omega), List.getElem?_eq_getElem (by omega)⟩
  have hcell2 : (cells.map V.int)[k.toNat]? = some (.int cell) := by rw [List.getElem?_map, hcell]; rfl
  have hcell3 : atI (cells.map V.int) (k + 1 - 1) = some (.int cell) := by
    have e : k + 1 - 1 = ((k.toNat : Nat) : Int) := by omega
    rw [e]
    exact atI_nat hcell2
  refine ⟨_, rfl, r, _, _, _, rfl, rfl, SqL.of hR1, atI_nat (j := 0) rfl, _, rfl, r, _, _, _, rfl, rfl, SqL.of hR1, atI_nat (j := 1) rfl, _, _, rfl, rfl, sc, _, _, _, rfl, rfl, hS1, hcell3, ?_⟩
  have hR2 : upd (upd H r (.lst [.ref sc, .int (k + 1), .int c, .int v])) r (.lst [.ref sc, .int (k + 1), .int ((c * 48271 + cell + 11) % 2147483647), .int v]) r = some (.lst [.ref sc, .int (k + 1), .int ((c * 48271 + cell + 11) % 2147483647), .int v]) := upd_same
  have hS2 : SqL K (upd (upd H r (.lst [.ref sc, .int (k + 1), .int c, .int v])) r (.lst [.ref sc, .int (k + 1), .int ((c * 48271 + cell + 11) % 2147483647), .int v])) sc (cells.map V.int) := sqL_d hD fun b o hb g _ => by rw [upd_ne hb, upd_ne hb]; exact g
  have e2 := e1.put (o := .lst [.ref sc, .int (k + 1), .int ((c * 48271 + cell + 11) % 2147483647), .int v]) hR1
  refine ⟨_, rfl, r, _, _, _, rfl, rfl, SqL.of hR1, atI_nat (j := 2) rfl, _, _, rfl, rfl, .inr ⟨by decide, by decide⟩, _, rfl, _, _, rfl, rfl, _, _, rfl, rfl, .inl ⟨_, rfl, _, _, rfl, rfl, (by decide : (0 : Int) < 2147483647), _, rfl, r, _, 2, 2, rfl, rfl, hR1, rfl, ?_⟩⟩
  refine ⟨_, rfl, _, _, rfl, rfl, ⟨by decide, by decide, by decide⟩, _, _, rfl, rfl, _, rfl, ?_⟩
  obtain ⟨j, ej, hj⟩ := mod_nat (i := cell) hm0
  refine ite2 (fun _ => ?_) fun _ => ?_
  · refine ⟨_, rfl, _, rfl, _, _, rfl, rfl, wide_div (b := 10) (by omega) (by rw [Int.natAbs_natCast]; exact Nat.lt_of_le_of_lt hm1 (by decide)) (by decide) (by decide), _, rfl, r, _, 3, 3, rfl, rfl, hR2, rfl, ?_⟩
    refine ⟨_, rfl, .inl ⟨_, rfl, _, rfl, _, _, rfl, rfl, hmpos, ?_⟩⟩
    show Q (.int (cell % (many : Int))) _
    rw [ej]
    exact hQ _ j hj ⟨k + 1, _, _, upd_same, by omega⟩ (e2.put hR2)
  · refine ⟨_, rfl, .inl ⟨_, rfl, _, rfl, _, _, rfl, rfl, hmpos, ?_⟩⟩
    show Q (.int (cell % (many : Int))) _
    rw [ej]
    exact hQ _ j hj ⟨k + 1, _, _, hR2, by omega⟩ e2
end
end K00
end

section
set_option Elab.async false
set_option linter.all false
set_option maxRecDepth 100000
set_option maxHeartbeats 4000000
/-! The law's draws: _law_pick, _law_mixed, _law_size. -/
namespace K00
open PySem PySem.Spec PyProof.Rows L2 GX GxR PG C8
section
variable {P : Program} {w : World} {K : PySem.W.Frag} {mg : Str → Option Value} {base : Heap}
def spPick (K : PySem.W.Frag) : Sp := fun vs H Q _ => ∃ (r p sc : Addr) (cells ns : List Int), vs = [.ref r, .ref p] ∧ p ≠ r ∧ SqL K H p (ns.map V.int) ∧ ns ≠ [] ∧ ns.length ≤ small ∧ Row K H r sc cells ∧ Tabs (tabs K) H ∧
  ∀ H' x, x ∈ ns → Rw H' r sc → ExtR (tabs K) r H H' → Q (.int x) H'
theorem sc_pick : FnScope ["row", "things"] ["row", "things"] (defScope (top p_law_pick)) := fnScope_by (by decide +kernel)
theorem c_pick (T : Txt K mg base) : Cal P w K mg base 2 "_law_pick" (spPick K) [] := by
  have C1 := c_taken (P := P) (w := w) T
  refine calC (T.defs f_law_pick _ rfl) T.g sc_pick (fun _ _ _ _ _ _ us hl => match us, hl with | [_, _], _ => rfl) (fun vs H Q E h => by obtain ⟨a, m, _, _, _, rfl, _⟩ := h; rfl) fun A outer s H vs Q E hr h => ⟨_, PSs.nox (pss_one (ps_ret
    (pe_ix ix_list (pv 1) (pe_c C1 hr (by decide) rfl (pa_cons (pv 0) (pa_cons (pe_callB (lenK (K := K) rfl) rfl T.n PySem.boot_len (pa_cons (pv 1) pa_nil)) pa_nil))) (fun _ _ => rfl)))), ?_⟩
  obtain ⟨r, p, sc, cells, ns, rfl, hne, hS, h0, hl, hR, hT, hQ⟩ := h
  have hpos : 0 < ns.length := List.length_pos_iff.mpr h0
  refine ⟨_, rfl, _, rfl, _, rfl, _, ns.length, rfl, .inl ⟨_, hS, by rw [List.length_map]⟩, r, ns.length, sc, cells, rfl, hpos, hl, hR, hT, fun H2 j hj hR2 e2 => ?_⟩
  have g : ns[j]? = some ns[j] := List.getElem?_eq_getElem hj
  exact ⟨p, _, _, _, rfl, rfl, e2.seqL hne hS, atI_nat (show (ns.map V.int)[j]? = some (.int ns[j]) by rw [List.getElem?_map, g]; rfl), hQ H2 _ (List.getElem_mem hj) hR2 e2⟩
/-! ### _law_mixed -/
def spMixed (K : PySem.W.Frag) : Sp := fun vs H Q _ => ∃ (r p sc : Addr) (cells : List Int) (l : List Nat), vs = [.ref r, .ref p] ∧ p ≠ r ∧ SqL K H p (bagV l) ∧ l.length ≤ small ∧ Row K H r sc cells ∧ Tabs (tabs K) H ∧
  ∀ H' q (m : List Nat), m.Perm l → Rw H' r sc → ExtR (tabs K) r H H' → q ≠ r → H q = none → H' q = some (.lst (bagV m)) → Q (.ref q) H'
theorem sc_mixed : FnScope ["row", "some", "left", "found", "turn"] ["row", "some"] (defScope (top p_law_mixed)) := fnScope_by (by decide +kernel)
theorem erase_perm {l : List Nat} {j x : Nat} (h : l[j]? = some x) : (x :: l.eraseIdx j).Perm l := by
  induction l generalizing j with
  | nil => simp at h
  | cons y r ih =>
    cases j with
    | zero => simp at h; subst h; exact List.Perm.refl _
    | succ j =>
      rw [List.eraseIdx_cons_succ]
      exact (List.Perm.swap y x _).trans ((ih (by simpa using h)).cons y)
theorem bag_erase (l : List Nat) (j : Nat) : (bagV l).eraseIdx j = bagV (l.eraseIdx j) := by
  induction l generalizing j with
  | nil => rfl
  | cons y r ih =>
    cases j with
    | zero => rfl
    | succ j =>
      show V.int (y : Int) :: (bagV r).eraseIdx j = V.int (y : Int) :: bagV (r.eraseIdx j)
      rw [ih]
theorem c_mixed (T : Txt K mg base) : Cal P w K mg base 2 "_law_mixed" (spMixed K) [] := by
  have C1 := c_taken (P := P) (w := w) T
  refine calC (T.defs f_law_mixed _ rfl) T.g sc_mixed (fun _ _ _ _ _ _ us hl => match us, hl with | [_, _], _ => rfl) (fun vs H Q E h => by obtain ⟨a, m, _, _, _, rfl, _⟩ := h; rfl) fun A outer s H vs Q E hr h => ⟨_, PSs.nox (pss_cons
    (ps_par (i := 2) (j := 3) rfl sc_mixed.nd rfl rfl (by decide) rfl rfl (pa_cons (pe_callTy call_list_of rfl T.n (by decide +kernel) (pa_cons (pv 1) pa_nil)) (pa_cons (pe_lst pa_nil) pa_nil)) rfl)
    (pss_cons (ps_for PassesOwn.never rfl (pi_range1 rfl T.n (pa_cons (pe_callB (lenK (K := K) rfl) rfl T.n PySem.boot_len (pa_cons (pv 2) pa_nil)) pa_nil)) (pg_name (i := 4) sc_mixed.nd rfl (.inl rfl))
      (pss_one (ps_expr (pe_bm PySem.F.plainAttrs_list PySem.F.slot_list_append PySem.F.type_list_append mt_append (pv 3) (pa_cons
        (pe_bm PySem.F.plainAttrs_list PySem.F.slot_list_pop PySem.F.type_list_pop mt_popAt (pv 2) (pa_cons
          (pe_c C1 hr (by decide) rfl (pa_cons (pv 0) (pa_cons (pe_callB (lenK (K := K) rfl) rfl T.n PySem.boot_len (pa_cons (pv 2) pa_nil)) pa_nil))) pa_nil)) pa_nil)))))
    (pss_one (ps_ret (pv 3))))), ?_⟩
  obtain ⟨r, p, sc, cells, l, rfl, hne, hS, hl, hR, hT, hQ⟩ := h
  refine ⟨_, rfl, p, _, rfl, .inl hS, fun a ha => ?_⟩
  have e1 := Ext.new (o := .lst (bagV l)) hT ha
  refine ⟨Nat.zero_le _, fun b hb => ⟨_, _, rfl, ?_⟩⟩
  have hb0 := e1.none hb
  have hab : a ≠ b := fun z => by rw [← z, upd_same] at hb; cases hb
  have e2 := e1.trans (Ext.new (o := .lst []) e1.tabs hb)
  have har := hR.rw.nep ha
  have hbr := hR.rw.nep hb0
  have hla : upd (upd H a (.lst (bagV l))) b (.lst []) a = some (.lst (bagV l)) := by rw [upd_ne hab, upd_same]
  refine ⟨_, rfl, _, l.length, rfl, .inl ⟨_, SqL.of hla, bagV_len.symm⟩, _, rfl, (small62 hl).1, (small62 hl).2, ?_⟩
  refine for_range (lo := 0) (fun i σ H' => ∃ (L F : List Nat) (u : Option V), σ = [some (.ref r), some (.ref p), some (.ref a), some (.ref b), u] ∧ ExtR (tabs K) r H H' ∧ Rw H' r sc ∧ H' a = some (.lst (bagV L)) ∧ H' b = some (.lst (bagV F)) ∧ (F ++ L).Perm l ∧ L.length + i = l.length)
    ⟨l, [], none, rfl, .of e2, hR.rw.ext e2, hla, upd_same, List.Perm.refl _, rfl⟩ (fun i σ H' hi q => ?_) (fun σ H' q => ?_)
  · obtain ⟨L, F, u, rfl, e, hRo, hLa, hFb, hp, hlen⟩ := q
    have hi : i < l.length := by simpa using hi
    have hLpos : 0 < L.length := by omega
    refine ⟨_, rfl, .inl ⟨rfl, _, SqL.of hFb⟩, _, rfl, .inl ⟨rfl, _, SqL.of hLa⟩, _, rfl, _, rfl, _, L.length, rfl, .inl ⟨_, SqL.of hLa, bagV_len.symm⟩, r, L.length, sc, cells, rfl, hLpos, ?_, hR.next e hRo, e.tabs, fun H2 j hj hR2 e2 => ?_⟩
    · have hl : l.length ≤ 1000 := hl
      omega
    have hLa2 := e2.lst har hLa
    have hFb2 := e2.lst hbr hFb
    have g : L[j]? = some L[j] := List.getElem?_eq_getElem hj
    have hl1 : l.length ≤ 1000 := hl
    have hj62 := small62 (n := j) (show j ≤ 1000 by omega)
    have h6263 : (2 ^ 62 : Int) < 2 ^ 63 := by decide
    have hfl : F.length ≤ l.length := by
      have := hp.length_eq
      rw [List.length_append] at this
      omega
    refine ⟨a, _, (j : Int), j, _, rfl, rfl, hLa2, by omega, by omega, ?_, bagV_get g, b, _, _, rfl, rfl, by rw [upd_ne (Ne.symm hab)]; exact hFb2, ?_, ?_⟩
    · rw [bagV_len, seqIndex_of (by omega) (by omega)]
      simp
    · rw [bagV_len]
      exact small1000 (by omega)
    · have e3 : ExtR (tabs K) r H (upd H2 a (.lst (bagV (L.eraseIdx j)))) := Ext.set (e.trans e2) (by rw [drop_ne har]; exact ha) ⟨_, hLa2, fun ps z => by cases z⟩
      have hFb3 : upd H2 a (.lst (bagV (L.eraseIdx j))) b = some (.lst (bagV F)) := by rw [upd_ne (Ne.symm hab)]; exact hFb2
      have e4 : ExtR (tabs K) r H (upd (upd H2 a (.lst (bagV (L.eraseIdx j)))) b (.lst (bagV (F ++ [L[j]])))) := Ext.set e3 (by rw [drop_ne hbr]; exact hb0) ⟨_, hFb3, fun ps z => by cases z⟩
      have eb : bagV F ++ [V.int ((L[j] : Nat) : Int)] = bagV (F ++ [L[j]]) := by simp [bagV]
      refine ⟨L.eraseIdx j, F ++ [L[j]], some (.int (0 + (i : Int))), ?_, ?_, (hR2.put har).put hbr, by rw [upd_ne hab, upd_same, bag_erase], by rw [upd_same, eb], ?_, ?_⟩
      · rfl
      · rw [bag_erase, eb]; exact e4
      · rw [List.append_assoc]
        exact ((erase_perm g).append_left F).trans hp
      · rw [List.length_eraseIdx, if_pos hj]
        omega
  · obtain ⟨L, F, u, rfl, e, hRo, hLa, hFb, hp, hlen⟩ := q
    have hl0 : L = [] := List.length_eq_zero_iff.mp (by omega)
    subst hl0
    rw [List.append_nil] at hp
    exact ⟨_, rfl, hQ H' b F hp hRo e hbr hb0 hFb⟩
end
end K00
end

section
set_option Elab.async false
set_option linter.all false
set_option maxRecDepth 100000
set_option maxHeartbeats 4000000
/-! sorted(..) of tuples of whole numbers, of any lengths, any number of them. -/
namespace ST
open PySem PySem.Spec PyProof.Rows L2 PySem.W
def encT (b : Addr × List Int) : PyData := .tuple (b.2.map PyData.int)
theorem le_encT (p q : Addr × List Int) : dataLe false encT p q = decide (p.2 ≤ q.2) := by
  show (!dataLt (.tuple (q.2.map PyData.int)) (.tuple (p.2.map PyData.int))) = _
  rw [dataLt_tuple]
  show (!rowLt (q.2.map PyData.int) (p.2.map PyData.int)) = _
  rw [dataLt_ints]
  by_cases h : q.2 < p.2
  · have h' : ¬ p.2 ≤ q.2 := fun z => List.not_lt.mpr z h
    simp [h, h']
  · have h' : p.2 ≤ q.2 := List.not_lt.mp h
    simp [h, h']
def rSortTu (K : PySem.W.Frag) : List V → Hp → VK → Prop := fun vs H Q => ∃ (a : Addr) (L : List (Addr × List Int)), vs = [V.ref a] ∧ SqL K H a (L.map fun p => V.ref p.1) ∧ (∀ p ∈ L, SqT K H p.1 (p.2.map V.int) ∧ p.2 ≠ []) ∧
  ∀ (L' : List (Addr × List Int)) (p : Addr), L'.Perm L → L'.Pairwise (fun x y => x.2 ≤ y.2) → H p = none → Q (.ref p) (upd H p (.lst (L'.map fun q => V.ref q.1)))
section
variable {X : Cx} {pins : List (Addr × Obj)} {σ : L2.St} {H : Hp} {s : Shared}
theorem each_of (I : Inv X pins σ H s) : ∀ (L : List (Addr × List Int)) (its : List Value), Vals (L.map fun p => V.ref p.1) its → (∀ p ∈ L, SqT X.K H p.1 (p.2.map V.int)) →
    EachIs (fun v b => v = Value.ref b.1) its L ∧ EachIs (fun v b => ∃ as, Reads s.heap v (encT b) as) its L
  | [], _, h, _ => by cases h; exact ⟨.nil, .nil⟩
  | p :: L, _, h, hT => by
    cases h with
    | cons r t =>
      obtain ⟨h1, h2⟩ := each_of I L _ t fun q hq => hT q (List.mem_cons_of_mem _ hq)
      cases r
      refine ⟨.cons rfl h1, .cons ?_ h2⟩
      obtain ⟨its, r1, p1, _⟩ := I.tuple (hT p List.mem_cons_self)
      have i1 : IntsAre its.toArray.toList p.2 := intsAre_of r1
      obtain ⟨o, ho, hc, n, hd⟩ := p1
      exact ⟨[], .tuple ho hc hd (IntsAre.reads _ i1)⟩
theorem vals_of_each : ∀ {out : List Value} {L : List (Addr × List Int)}, EachIs (fun v b => v = Value.ref b.1) out L → Vals (L.map fun p => V.ref p.1) out
  | _, _, .nil => .nil
  | _, _, .cons h t => .cons h (vals_of_each t)
theorem sortable_all : ∀ {L : List (Addr × List Int)}, (∀ p ∈ L, p.2 ≠ []) → Sortable (L.map encT) := fun {L} h => .inl fun d hd => by
  obtain ⟨b, hb, rfl⟩ := List.mem_map.mp hd
  cases e : b.2 with
  | nil => exact absurd e (h b hb)
  | cons x r => exact ⟨.int x, r.map PyData.int, by unfold encT; rw [e]; rfl⟩
theorem cr_sortTu (hu : X.A.units + 64 < cLine) : CallR X (.builtin "sorted") (rSortTu X.K) := by
  intro pins s σ H vs us Q I r h
  obtain ⟨a, L, rfl, hs, hT, q⟩ := h
  obtain ⟨its, rv, hl, hz⟩ := I.list hs
  rw [Vals.ref1 r]
  obtain ⟨e1, e2⟩ := each_of I L its rv fun p hp => (hT p hp).1
  have hlenL : L.length ≤ sizeLine := by rw [List.length_map] at hz; exact hz
  refine sorted_data (R := fun v b => v = Value.ref b.1) (enc := encT) hl.isList e1 e2 (AllAlike.of fun b b' => ?_) (sortable_all fun p hp => (hT p hp).2) hlenL (fun b _ => ?_) fun out ho eo => ?_
  · show alike (.tuple (b.2.map PyData.int)) (.tuple (b'.2.map PyData.int)) = true
    rw [alike]
    exact alike_ints _ _
  · have : (encT b).depth ≤ 1 := by
      show (PyData.tuple (b.2.map PyData.int)).depth ≤ 1
      rw [PyData.depth, depth_ints]
      exact Nat.le_refl 1
    omega
  · have hL : (L.mergeSort (dataLe false encT)).Perm L := List.mergeSort_perm _ _
    have hP : (L.mergeSort (dataLe false encT)).Pairwise (fun x y => x.2 ≤ y.2) := by
      have := List.pairwise_mergeSort (le := dataLe false encT) (fun x y z h1 h2 => by
        rw [le_encT, decide_eq_true_eq] at h1 h2 ⊢
        exact List.le_trans h1 h2) (fun x y => by
        rw [le_encT, le_encT, Bool.or_eq_true, decide_eq_true_eq, decide_eq_true_eq]
        exact List.le_total _ _) L
      exact this.imp fun {x y} h => by rw [le_encT, decide_eq_true_eq] at h; exact h
    obtain ⟨ep, he'⟩ := PyProof.Rows.sortedAll_at s.heap its out.toArray
    have hlen : ((L.mergeSort (dataLe false encT)).map fun p => V.ref p.1).length ≤ sizeLine := by rw [List.length_map, hL.length_eq]; exact hlenL
    exact ⟨.ref _, upd H (s.heap.objs.size + 1) (.lst ((L.mergeSort (dataLe false encT)).map fun p => V.ref p.1)), I.laid (t' := s.toks) (fun _ _ => PyProof.Rows.sortedAll_old) (Nat.le_succ _) ⟨hlen, out, ep, vals_of_each eo, he'⟩, rfl, q _ _ hL hP (I.hok.fresh (Nat.le_succ _))⟩
end
end ST
end

section
set_option Elab.async false
set_option linter.all false
set_option maxRecDepth 100000
set_option maxHeartbeats 4000000
/-! _law_named. -/
namespace K00
open PySem PySem.Spec PyProof.Rows L2 GX GxR PG C8 ST
theorem nat_eq {a b : List Nat} (h : natI a = natI b) : a = b := by
  induction a generalizing b with
  | nil => cases b with
    | nil => rfl
    | cons y r => simp [natI] at h
  | cons x r ih => cases b with
    | nil => simp [natI] at h
    | cons y t =>
      simp only [natI, List.map_cons, List.cons.injEq] at h
      obtain ⟨h1, h2⟩ := h
      rw [ih h2]
      congr 1
      omega
/-- a bag with other names -/
def nm (m b : List Nat) : List Nat := (b.map fun x => m.getD x 0).mergeSort (fun x y => decide (x ≤ y))
theorem nm_perm (m b : List Nat) : (nm m b).Perm (b.map fun x => m.getD x 0) := List.mergeSort_perm _ _
theorem nm_asc (m b : List Nat) : (nm m b).Pairwise (· ≤ ·) := by
  have := List.pairwise_mergeSort (le := fun x y : Nat => decide (x ≤ y)) (fun x y z h1 h2 => by
    rw [decide_eq_true_eq] at h1 h2 ⊢; omega) (fun x y => by
    rw [Bool.or_eq_true, decide_eq_true_eq, decide_eq_true_eq]; omega) (b.map fun x => m.getD x 0)
  exact this.imp fun h => by simpa using h
theorem sorted_uniq {a b : List Int} (h : a.Perm b) (ha : a.Pairwise (· ≤ ·)) (hb : b.Pairwise (· ≤ ·)) : a = b :=
  List.Perm.eq_of_pairwise (fun _ _ _ _ h1 h2 => Int.le_antisymm h1 h2) ha hb h
theorem nm_uniq {m b : List Nat} {ns : List Int} (h : ns.Perm (natI (b.map fun x => m.getD x 0))) (hs : ns.Pairwise (· ≤ ·)) : ns = natI (nm m b) := by
  refine sorted_uniq (h.trans ((nm_perm m b).map fun (k : Nat) => (k : Int)).symm) hs ?_
  unfold natI
  rw [List.pairwise_map]
  exact (nm_asc m b).imp fun h => by omega
theorem lex_lt : ∀ a b : List Int, HT.lexLt a b = decide (a < b)
  | [], [] => by simp [HT.lexLt]
  | [], _ :: _ => by simp [HT.lexLt]
  | _ :: _, [] => by simp [HT.lexLt]
  | x :: a, y :: b => by
    rw [HT.lexLt_cons, lex_lt a b]
    by_cases h : x = y
    · subst h; simp [List.cons_lt_cons_iff]
    · simp [List.cons_lt_cons_iff, h]
theorem room64 {k : Nat} {A : Around} (r : Room k A) : A.units + 64 < cLine := by have := r.un; omega
section
variable {X : Cx} {K : PySem.W.Frag}
def rTupOf (K : PySem.W.Frag) : List V → Hp → VK → Prop := fun xs H Q => ∃ p ys, xs = [.ref p] ∧ ((SqL K H p ys ∧ ∀ l, H l = none → Q (.ref l) (upd H l (.tup ys))) ∨ (SqT K H p ys ∧ Q (.ref p) H))
theorem tupofK (hK : X.K = K) : CallR X (.type "tuple") (rTupOf K) := by subst hK; exact call_tuple_of
theorem sortIK (hK : X.K = K) : CallR X (.builtin "sorted") (rSortedI K) := by subst hK; exact cr_sortedI
theorem piLK {tg e : Expr} {te : TE} (hK : X.K = K) (h : PE X e te) : PI X tg e (iList K te) := by subst hK; exact pi_list h
theorem piTK {tg e : Expr} {te : TE} (hK : X.K = K) (h : PE X e te) : PI X tg e (iTup K te) := by subst hK; exact pi_tup h
end
section
variable {P : Program} {w : World} {K : PySem.W.Frag} {mg : Str → Option Value} {base : Heap}
/-- a row of lists -/
structure EachL (K : PySem.W.Frag) (H : Hp) (xs : List V) (bs : List (List Nat)) : Prop where
  len : xs.length = bs.length
  is : ∀ (i : Nat) v b, xs[i]? = some v → bs[i]? = some b → ∃ t, v = .ref t ∧ SqL K H t (bagV b)
def spNamed (K : PySem.W.Frag) : Sp := fun vs H Q _ => ∃ (p q : Addr) (xs : List V) (bs : List (List Nat)) (m : List Nat), vs = [.ref p, .ref q] ∧ SqL K H p xs ∧ EachL K H xs bs ∧ SqL K H q (bagV m) ∧ (∀ b ∈ bs, b ≠ [] ∧ b.length ≤ small ∧ ∀ x ∈ b, x < m.length) ∧ bs.length ≤ small ∧ Tabs (tabs K) H ∧
  ∀ H' v bs', Ext (tabs K) H H' → IsBs K H' v bs' → bs'.Perm (bs.map (nm m)) → bs'.Pairwise (fun x y => natI x ≤ natI y) → Q v H'
theorem sc_named : FnScope ["bags", "names", "bag", "bead"] ["bags", "names"] (defScope (top p_law_named)) := fnScope_by (by decide +kernel)
theorem c_named (T : Txt K mg base) : Cal P w K mg base 2 "_law_named" (spNamed K) [] := by
  refine calC (T.defs f_law_named _ rfl) T.g sc_named (fun _ _ _ _ _ _ us hl => match us, hl with | [_, _], _ => rfl) (fun vs H Q E h => by obtain ⟨a, m, _, _, _, rfl, _⟩ := h; rfl) fun A outer s H vs Q E hr h => ⟨_, PSs.nox (pss_one (ps_ret
    (pe_callTy (tupofK (K := K) rfl) rfl T.n (by decide +kernel) (pa_cons (pe_callB (cr_sortTu (room64 hr)) rfl T.n PyProof.Rows.boot_sorted (pa_cons
      (pe_lc (own := [("bag", 2)]) (g := gName 2) (tt := tYes) rfl sc_named.nd (pi_list (pv 0)) (blkOk_by (N := ["bags", "names", "bag", "bead"]) (sc := defScope (top p_law_named)) (by decide +kernel)) (fun _ _ _ _ _ => pg_name (i := 2) sc_named.nd rfl (Or.inl rfl)) (fun _ _ _ _ _ => pts_nil)
        (fun _ _ _ _ _ => pe_callTy (tupofK (K := K) rfl) rfl T.n (by decide +kernel) (pa_cons (pe_callB (sortIK (K := K) rfl) rfl T.n PyProof.Rows.boot_sorted (pa_cons
          (pe_lc (own := [("bead", 3)]) (g := gName 3) (tt := tYes) rfl sc_named.nd (piLK (K := K) rfl (pv 2)) (blkOk_by (by kernel_rfl)) (fun _ _ _ _ _ => pg_name (i := 3) sc_named.nd rfl (Or.inl rfl)) (fun _ _ _ _ _ => pts_nil)
            (fun _ _ _ _ _ => pe_ix (ixLK (K := K) rfl) (pv 1) (pv 3) (fun _ _ => rfl))) pa_nil)) pa_nil))) pa_nil)) pa_nil)))), ?_⟩
  obtain ⟨p, q, xs, bs, m, rfl, hS, hE, hN, hb, hl, hT, hQ⟩ := h
  have hl1 : bs.length ≤ 1000 := hl
  refine ⟨_, rfl, p, rfl, ⟨_, hS⟩, fun D hD => ?_⟩
  refine lc_list (K := K) (a := p) (xs := xs) (fun i H' => Ext (tabs K) H H' ∧ ∃ ts : List Addr, ts.length = i ∧ H' D = some (.lst (ts.map V.ref)) ∧ ∀ (j : Nat) t b, ts[j]? = some t → bs[j]? = some b → H' t = some (.tup (bagV (nm m b)))) ⟨Ext.new hT hD, [], rfl, by rw [upd_same]; rfl, fun j t b h => by simp at h⟩ (fun i H' _ z => z.1.seqL hS) (fun i x H' hx z => ?_) (fun H' z => ?_)
  · obtain ⟨e, ts, hlen, eD, ht⟩ := z
    have hix := (List.getElem?_eq_some_iff.mp hx).1
    rw [hE.len] at hix
    have hbi : bs[i]? = some bs[i] := List.getElem?_eq_getElem hix
    obtain ⟨t, rfl, hSt⟩ := hE.is i x _ hx hbi
    obtain ⟨hb1, hb2, hb3⟩ := hb _ (List.getElem_mem hix)
    refine ⟨rfl, tyes_if ⟨_, rfl, t, rfl, ⟨_, e.seqL hSt⟩, fun D2 hD2 => ?_⟩⟩
    refine lc_src (T := tabs K) (src_list (K := K) (a := t) (xs := bagV bs[i])) (bs[i].map fun x => some (V.int ((m.getD x 0 : Nat) : Int))) (by rw [List.length_map, bagV_len]) (by rw [bagV_len]; exact small_line hb2) e.tabs hD2 (fun H2 e2 => (e.trans e2).seqL hSt) (fun j y gv H2 N Y hy hg e2 hN2 hY => ?_) (fun H2 e2 eD2 => ?_)
    · obtain ⟨x, hxj, rfl⟩ := gs_get hg
      obtain ⟨x', hx', rfl⟩ := get_bagV hy
      rw [hxj] at hx'
      cases hx'
      have hxm := hb3 x (List.mem_of_getElem? hxj)
      have gm : m[x]? = some (m.getD x 0) := by rw [List.getD_eq_getElem?_getD, List.getElem?_eq_getElem hxm]; rfl
      exact ⟨rfl, tyes_if ⟨_, rfl, _, rfl, q, _, _, _, rfl, rfl, (e.trans e2).seqL hN, atI_nat (bagV_get gm), hY _ _ rfl (Ext.refl e2.tabs)⟩⟩
    · rw [fm_map (fun x : Nat => V.int ((m.getD x 0 : Nat) : Int))] at eD2
      have em : (bs[i].map fun x => V.int ((m.getD x 0 : Nat) : Int)) = (natI (bs[i].map fun x => m.getD x 0)).map V.int := by simp [natI]
      rw [em] at eD2
      refine ⟨D2, _, rfl, SqL.of eD2, fun ns p2 hp1 hp2 hpn => ?_⟩
      have en := nm_uniq hp1 hp2
      subst en
      have e3 := e2.trans (Ext.new (o := .lst ((natI (nm m bs[i])).map V.int)) e2.tabs hpn)
      refine ⟨p2, _, rfl, .inl ⟨SqL.of upd_same, fun l hln => ?_⟩⟩
      have e4 := e3.trans (Ext.new (o := .tup ((natI (nm m bs[i])).map V.int)) e3.tabs hln)
      have eD4 := e4.lst eD
      have hlD : l ≠ D := fun z => by rw [z, e3.lst eD] at hln; cases hln
      refine ⟨ts.map V.ref, eD4, ?_, ?_, ts ++ [l], ?_, ?_, ?_⟩
      · rw [List.length_map, hlen]; exact small1000 (by omega)
      · exact (e.trans e4).set hD ⟨_, eD4, fun ps z => by cases z⟩
      · rw [List.length_append, hlen]; rfl
      · rw [upd_same, List.map_append]; rfl
      · intro j t' b' hj hb'
        by_cases hji : j < i
        · rw [List.getElem?_append_left (by rw [hlen]; exact hji)] at hj
          have h1 := ht j t' b' hj hb'
          have hne : t' ≠ D := fun z => by rw [z, eD] at h1; cases h1
          rw [upd_ne hne]
          exact e4.tup h1
        · have hj2 := (List.getElem?_eq_some_iff.mp hj).1
          rw [List.length_append, hlen] at hj2
          simp only [List.length_cons, List.length_nil] at hj2
          have hje : j = i := by omega
          subst hje
          rw [List.getElem?_append_right (by omega), hlen] at hj
          simp at hj
          subst hj
          rw [hbi] at hb'
          cases hb'
          rw [upd_ne hlD, upd_same, natI_V]
  · obtain ⟨e, ts, hlen, eD, ht⟩ := z
    rw [hE.len] at hlen
    let Z : List (Addr × List Nat) := ts.zip (bs.map (nm m))
    let f : Addr × List Nat → Addr × List Int := fun z => (z.1, natI z.2)
    let g : Addr × List Int → Addr × List Nat := fun z => (z.1, z.2.map Int.toNat)
    have gf : ∀ z, g (f z) = z := fun z => by
      show (z.1, (natI z.2).map Int.toNat) = z
      have : (natI z.2).map Int.toNat = z.2 := by simp [natI, Function.comp_def]
      rw [this]
    have hZ1 : Z.map (·.1) = ts := List.map_fst_zip (by rw [List.length_map, hlen]; exact Nat.le_refl _)
    have hZ2 : Z.map (·.2) = bs.map (nm m) := List.map_snd_zip (by rw [List.length_map, hlen]; exact Nat.le_refl _)
    have hZm : ∀ z ∈ Z, ∃ b ∈ bs, z.2 = nm m b ∧ H' z.1 = some (.tup (bagV z.2)) := fun z hz => by
      obtain ⟨i, hi⟩ := List.mem_iff_getElem?.mp hz
      obtain ⟨h1, h2⟩ := List.getElem?_zip_eq_some.mp hi
      rw [List.getElem?_map] at h2
      cases hbi : bs[i]? with
      | none => rw [hbi] at h2; cases h2
      | some b =>
        rw [hbi] at h2
        have h2 : nm m b = z.2 := Option.some.inj h2
        exact ⟨b, List.mem_of_getElem? hbi, h2.symm, by rw [← h2]; exact ht i z.1 b h1 hbi⟩
    refine ⟨D, Z.map f, rfl, ?_, fun z hz => ?_, fun L' p2 hp1 hp2 hpn => ?_⟩
    · have : (Z.map f).map (fun z => V.ref z.1) = ts.map V.ref := by
        rw [List.map_map, ← hZ1, List.map_map]
        rfl
      rw [this]
      exact SqL.of eD
    · obtain ⟨z0, hz0, rfl⟩ := List.mem_map.mp hz
      obtain ⟨b, hbm, e1, e2⟩ := hZm z0 hz0
      refine ⟨by show SqT _ _ z0.1 ((natI z0.2).map V.int); rw [natI_V]; exact SqT.of e2, fun z => ?_⟩
      have z : natI z0.2 = [] := z
      have l1 := (nm_perm m b).length_eq
      rw [← e1, List.length_map] at l1
      have : z0.2.length = 0 := by have := congrArg List.length z; simpa [natI] using this
      exact (hb b hbm).1 (List.length_eq_zero_iff.mp (by omega))
    · have hpg : (L'.map g).Perm Z := by
        have := hp1.map g
        rw [List.map_map] at this
        have e5 : Z.map (g ∘ f) = Z := by
          conv => rhs; rw [← List.map_id Z]
          exact List.map_congr_left fun z _ => gf z
        rw [e5] at this
        exact this
      have hfg : ∀ z ∈ L', f (g z) = z := fun z hz => by
        obtain ⟨z0, _, rfl⟩ := List.mem_map.mp (hp1.mem_iff.mp hz)
        rw [gf]
      have e5 := e.trans (Ext.new (o := .lst (L'.map fun z => V.ref z.1)) e.tabs hpn)
      refine ⟨p2, _, rfl, .inl ⟨SqL.of upd_same, fun l hln => ?_⟩⟩
      have e6 := e5.trans (Ext.new (o := .tup (L'.map fun z => V.ref z.1)) e5.tabs hln)
      have e7 := (Ext.new (o := .lst (L'.map fun z => V.ref z.1)) e.tabs hpn).trans (Ext.new (o := .tup (L'.map fun z => V.ref z.1)) e5.tabs hln)
      refine hQ _ (.ref l) ((L'.map g).map (·.2)) e6 ⟨l, _, rfl, SqT.of upd_same, ⟨by simp, fun i v b hv hb2 => ?_⟩⟩ ?_ ?_
      · rw [List.getElem?_map] at hv
        rw [List.getElem?_map, List.getElem?_map] at hb2
        cases hz : L'[i]? with
        | none => rw [hz] at hv; cases hv
        | some z =>
          rw [hz] at hv hb2
          cases hv
          cases hb2
          obtain ⟨b, hbm, e1, e2⟩ := hZm (g z) (hpg.mem_iff.mp (List.mem_map.mpr ⟨z, List.mem_of_getElem? hz, rfl⟩))
          exact ⟨z.1, rfl, SqT.of (e7.tup e2)⟩
      · rw [← hZ2]
        exact hpg.map _
      · rw [List.map_map, List.pairwise_map]
        refine hp2.imp_of_mem fun {x y} hx hy h => ?_
        have ex := congrArg Prod.snd (hfg x hx)
        have ey := congrArg Prod.snd (hfg y hy)
        have ex : natI (g x).2 = x.2 := ex
        have ey : natI (g y).2 = y.2 := ey
        show natI (g x).2 ≤ natI (g y).2
        rw [ex, ey]
        exact h
end
end K00
end

section
set_option Elab.async false
set_option linter.all false
set_option maxRecDepth 100000
set_option maxHeartbeats 4000000
/-! Families that grow bead by bead, with other names, in another order. -/
namespace FM
section
variable {n : Nat} {bs bs' : List (List Nat)} {rk : Nat → Nat}
theorem tree_two : Tree 2 [[0, 1]] id := by
  refine ⟨fun b hb => ?_, fun b hb => ?_, fun b hb x hx => ?_, fun x y _ _ h => h, fun i j a b x ha hb _ _ => ?_, 0, by decide, ⟨[0, 1], by simp, by simp⟩, fun x hx h0 => ⟨[0, 1], by simp, ?_⟩⟩
  · rw [List.mem_singleton.mp hb]; simp [Asc]
  · rw [List.mem_singleton.mp hb]; simp
  · rw [List.mem_singleton.mp hb] at hx; simp at hx; omega
  · have h1 := (List.getElem?_eq_some_iff.mp ha).1
    have h2 := (List.getElem?_eq_some_iff.mp hb).1
    simp at h1 h2
    omega
  · have : x = 1 := by omega
    subst this
    exact ⟨by simp, 0, by simp, by decide⟩
theorem own_snoc {b : List Nat} {x m : Nat} (h : Own id (b ++ [m]) x) (hb : ∀ y ∈ b, y < m) : Own id b x ∨ x = m := by
  obtain ⟨h1, y, hy, hlt⟩ := h
  rcases List.mem_append.mp h1 with q | q
  · refine .inl ⟨q, y, ?_, hlt⟩
    rcases List.mem_append.mp hy with z | z
    · exact z
    · have := hb x q
      have e := List.mem_singleton.mp z
      subst e
      simp at hlt
      omega
  · exact .inr (List.mem_singleton.mp q)
theorem own_lt (T : Tree n bs id) {b : List Nat} (hb : b ∈ bs) {x : Nat} (h : Own id b x) : x < n := T.lt b hb x h.1
theorem Tree.join (T : Tree n bs id) {i : Nat} {b : List Nat} (hi : bs[i]? = some b) : Tree (n + 1) (bs.set i (b ++ [n])) id := by
  have hb := List.mem_of_getElem? hi
  have hlt := T.lt b hb
  have hil := (List.getElem?_eq_some_iff.mp hi).1
  have mem : ∀ c ∈ bs.set i (b ++ [n]), c ∈ bs ∨ c = b ++ [n] := fun c hc => List.mem_or_eq_of_mem_set hc
  have new : b ++ [n] ∈ bs.set i (b ++ [n]) := List.mem_of_getElem? (by rw [List.getElem?_set_self hil])
  have up : ∀ c ∈ bs, ∀ x, Own id c x → ∃ d ∈ bs.set i (b ++ [n]), Own id d x := fun c hc x hx => by
    obtain ⟨j, hj⟩ := List.mem_iff_getElem?.mp hc
    by_cases e : i = j
    · subst e
      rw [hi] at hj
      cases hj
      exact ⟨_, new, List.mem_append_left _ hx.1, by obtain ⟨y, hy, h⟩ := hx.2; exact ⟨y, List.mem_append_left _ hy, h⟩⟩
    · exact ⟨c, List.mem_of_getElem? (by rw [List.getElem?_set_ne e]; exact hj), hx⟩
  have ownj : ∀ (j : Nat) c x, (bs.set i (b ++ [n]))[j]? = some c → Own id c x → (∃ d, bs[j]? = some d ∧ Own id d x) ∨ (j = i ∧ x = n) := fun j c x hj hx => by
    by_cases e : i = j
    · subst e
      rw [List.getElem?_set_self hil] at hj
      cases hj
      rcases own_snoc hx hlt with q | q
      · exact .inl ⟨b, hi, q⟩
      · exact .inr ⟨rfl, q⟩
    · rw [List.getElem?_set_ne e] at hj
      exact .inl ⟨c, hj, hx⟩
  refine ⟨fun c hc => ?_, fun c hc => ?_, fun c hc x hx => ?_, fun x y _ _ h => h, fun j k a c x ha hc hx hy => ?_, ?_⟩
  · rcases mem c hc with q | rfl
    · exact T.asc c q
    · exact List.pairwise_append.mpr ⟨T.asc b hb, List.pairwise_singleton _ _, fun y hy z hz => by rw [List.mem_singleton.mp hz]; exact hlt y hy⟩
  · rcases mem c hc with q | rfl
    · exact T.two c q
    · have := T.two b hb
      rw [List.length_append]
      omega
  · rcases mem c hc with q | rfl
    · exact Nat.lt_succ_of_lt (T.lt c q x hx)
    · rcases List.mem_append.mp hx with q | q
      · exact Nat.lt_succ_of_lt (hlt x q)
      · rw [List.mem_singleton.mp q]; exact Nat.lt_succ_self n
  · rcases ownj j a x ha hx with ⟨d, hd, q1⟩ | ⟨q1, q2⟩ <;> rcases ownj k c x hc hy with ⟨d', hd', r1⟩ | ⟨r1, r2⟩
    · exact T.uniq j k d d' x hd hd' q1 r1
    · have := own_lt T (List.mem_of_getElem? hd) q1
      omega
    · have := own_lt T (List.mem_of_getElem? hd') r1
      omega
    · omega
  · obtain ⟨r, hr, ⟨c, hc, hrc⟩, ho⟩ := T.root
    refine ⟨r, Nat.lt_succ_of_lt hr, ?_, fun x hx hne => ?_⟩
    · obtain ⟨j, hj⟩ := List.mem_iff_getElem?.mp hc
      by_cases e : i = j
      · subst e
        rw [hi] at hj
        cases hj
        exact ⟨_, new, List.mem_append_left _ hrc⟩
      · exact ⟨c, List.mem_of_getElem? (by rw [List.getElem?_set_ne e]; exact hj), hrc⟩
    · by_cases e : x = n
      · subst e
        refine ⟨_, new, by simp, ?_⟩
        have h2 := T.two b hb
        obtain ⟨y, hy⟩ : ∃ y, y ∈ b := by
          cases b with
          | nil => simp at h2
          | cons y l => exact ⟨y, by simp⟩
        exact ⟨y, List.mem_append_left _ hy, hlt y hy⟩
      · obtain ⟨d, hd, q⟩ := ho x (by omega) hne
        exact up d hd x q
theorem Tree.hung (T : Tree n bs id) {p : Nat} (hp : p < n) : Tree (n + 1) (bs ++ [[p, n]]) id := by
  have mem : ∀ c ∈ bs ++ [[p, n]], c ∈ bs ∨ c = [p, n] := fun c hc => by
    rcases List.mem_append.mp hc with q | q
    · exact .inl q
    · exact .inr (List.mem_singleton.mp q)
  have own1 : ∀ x, Own id [p, n] x → x = n := fun x ⟨h1, y, hy, h2⟩ => by
    simp at h1 hy h2
    omega
  have ownj : ∀ (j : Nat) c x, (bs ++ [[p, n]])[j]? = some c → Own id c x → (∃ d, bs[j]? = some d ∧ Own id d x) ∨ (j = bs.length ∧ x = n) := fun j c x hj hx => by
    by_cases e : j < bs.length
    · rw [List.getElem?_append_left e] at hj
      exact .inl ⟨c, hj, hx⟩
    · have h1 := (List.getElem?_eq_some_iff.mp hj).1
      rw [List.length_append] at h1
      simp only [List.length_cons, List.length_nil] at h1
      have e2 : j = bs.length := by omega
      subst e2
      rw [List.getElem?_append_right (Nat.le_refl _)] at hj
      simp at hj
      subst hj
      exact .inr ⟨rfl, own1 x hx⟩
  refine ⟨fun c hc => ?_, fun c hc => ?_, fun c hc x hx => ?_, fun x y _ _ h => h, fun j k a c x ha hc hx hy => ?_, ?_⟩
  · rcases mem c hc with q | rfl
    · exact T.asc c q
    · simp [Asc, hp]
  · rcases mem c hc with q | rfl
    · exact T.two c q
    · simp
  · rcases mem c hc with q | rfl
    · exact Nat.lt_succ_of_lt (T.lt c q x hx)
    · simp at hx
      omega
  · rcases ownj j a x ha hx with ⟨d, hd, q1⟩ | ⟨q1, q2⟩ <;> rcases ownj k c x hc hy with ⟨d', hd', r1⟩ | ⟨r1, r2⟩
    · exact T.uniq j k d d' x hd hd' q1 r1
    · have := own_lt T (List.mem_of_getElem? hd) q1
      omega
    · have := own_lt T (List.mem_of_getElem? hd') r1
      omega
    · omega
  · obtain ⟨r, hr, ⟨c, hc, hrc⟩, ho⟩ := T.root
    refine ⟨r, Nat.lt_succ_of_lt hr, ⟨c, List.mem_append_left _ hc, hrc⟩, fun x hx hne => ?_⟩
    by_cases e : x = n
    · subst e
      exact ⟨[p, x], by simp, by simp, p, by simp, hp⟩
    · obtain ⟨d, hd, q⟩ := ho x (by omega) hne
      exact ⟨d, List.mem_append_left _ hd, q⟩
/-- no two bags own one bead -/
def Apart (rk : Nat → Nat) (a b : List Nat) : Prop := ∀ x, Own rk a x → ¬ Own rk b x
theorem apart_iff : (∀ (i j : Nat) (a b : List Nat) (x : Nat), bs[i]? = some a → bs[j]? = some b → Own rk a x → Own rk b x → i = j) ↔ bs.Pairwise (Apart rk) := by
  constructor
  · intro h
    rw [List.pairwise_iff_getElem]
    intro i j hi hj hij x h1 h2
    have := h i j bs[i] bs[j] x (List.getElem?_eq_getElem hi) (List.getElem?_eq_getElem hj) h1 h2
    omega
  · intro h i j a b x ha hb h1 h2
    obtain ⟨hi, ea⟩ := List.getElem?_eq_some_iff.mp ha
    obtain ⟨hj, eb⟩ := List.getElem?_eq_some_iff.mp hb
    rw [List.pairwise_iff_getElem] at h
    rcases Nat.lt_trichotomy i j with q | q | q
    · exact absurd h2 (eb ▸ h i j hi hj q x (ea ▸ h1))
    · exact q
    · exact absurd h1 (ea ▸ h j i hj hi q x (eb ▸ h2))
theorem Tree.perm (T : Tree n bs rk) (p : bs'.Perm bs) : Tree n bs' rk := by
  have m : ∀ b, b ∈ bs' ↔ b ∈ bs := fun b => p.mem_iff
  refine ⟨fun b hb => T.asc b ((m b).mp hb), fun b hb => T.two b ((m b).mp hb), fun b hb => T.lt b ((m b).mp hb), T.inj, apart_iff.mpr ?_, ?_⟩
  · exact (p.pairwise_iff (R := Apart rk) (fun {a b} h x h1 h2 => h x h2 h1)).mpr (apart_iff.mp T.uniq)
  · obtain ⟨r, hr, ⟨c, hc, hrc⟩, ho⟩ := T.root
    refine ⟨r, hr, ⟨c, (m c).mpr hc, hrc⟩, fun x hx hne => ?_⟩
    obtain ⟨b, hb, q⟩ := ho x hx hne
    exact ⟨b, (m b).mpr hb, q⟩
end
end FM
end

section
set_option Elab.async false
set_option linter.all false
set_option maxRecDepth 100000
set_option maxHeartbeats 4000000
/-! Families with other names. -/
namespace K00
open FM
section
variable {n : Nat} {bs bs' : List (List Nat)} {m : List Nat}
/-- names: an order of 0 .. n - 1 -/
structure Names (n : Nat) (m : List Nat) : Prop where
  len : m.length = n
  nd : m.Nodup
  lt : ∀ y ∈ m, y < n
  all : ∀ y, y < n → y ∈ m
theorem names_of (h : m.Perm (List.range n)) : Names n m :=
  ⟨by rw [h.length_eq, List.length_range], h.nodup_iff.mpr List.nodup_range, fun y hy => List.mem_range.mp (h.mem_iff.mp hy), fun y hy => h.mem_iff.mpr (List.mem_range.mpr hy)⟩
theorem Names.get (N : Names n m) {x : Nat} (h : x < n) : ∃ hx : x < m.length, m.getD x 0 = m[x] := by
  have hx : x < m.length := by rw [N.len]; exact h
  exact ⟨hx, by rw [List.getD_eq_getElem?_getD, List.getElem?_eq_getElem hx]; rfl⟩
theorem Names.idx (N : Names n m) {x : Nat} (h : x < n) : m.idxOf (m.getD x 0) = x := by
  obtain ⟨hx, e⟩ := N.get h
  rw [e]
  exact N.nd.idxOf_getElem x hx
theorem Names.back (N : Names n m) {y : Nat} (h : y < n) : m.idxOf y < n ∧ m.getD (m.idxOf y) 0 = y := by
  have h1 := List.idxOf_lt_length_of_mem (N.all y h)
  have h2 : m.idxOf y < n := by rw [← N.len]; exact h1
  obtain ⟨hx, e⟩ := N.get h2
  exact ⟨h2, by rw [e]; exact List.getElem_idxOf h1⟩
theorem mem_nm {b : List Nat} {y : Nat} : y ∈ nm m b ↔ ∃ x ∈ b, m.getD x 0 = y := by
  rw [(nm_perm m b).mem_iff, List.mem_map]
theorem Names.tree (N : Names n m) (T : Tree n bs id) : Tree n (bs.map (nm m)) (fun y => m.idxOf y) := by
  have ltn : ∀ x, x < n → m.getD x 0 < n := fun x hx => by
    obtain ⟨h, e⟩ := N.get hx
    rw [e]
    exact N.lt _ (List.getElem_mem h)
  have inj : ∀ x y, x < n → y < n → m.getD x 0 = m.getD y 0 → x = y := fun x y hx hy e => by
    rw [← N.idx hx, ← N.idx hy, e]
  have own : ∀ b ∈ bs, ∀ y, Own (fun y => m.idxOf y) (nm m b) y → Own id b (m.idxOf y) := fun b hb y ⟨h1, z, hz, hlt⟩ => by
    obtain ⟨x, hx, rfl⟩ := mem_nm.mp h1
    obtain ⟨u, hu, rfl⟩ := mem_nm.mp hz
    have hxn := T.lt b hb x hx
    have hun := T.lt b hb u hu
    simp only [N.idx hxn, N.idx hun] at hlt ⊢
    exact ⟨hx, u, hu, hlt⟩
  have own2 : ∀ b ∈ bs, ∀ x, Own id b x → Own (fun y => m.idxOf y) (nm m b) (m.getD x 0) := fun b hb x ⟨h1, u, hu, hlt⟩ => by
    have hxn := T.lt b hb x h1
    have hun := T.lt b hb u hu
    refine ⟨mem_nm.mpr ⟨x, h1, rfl⟩, m.getD u 0, mem_nm.mpr ⟨u, hu, rfl⟩, ?_⟩
    simp only [N.idx hxn, N.idx hun]
    exact hlt
  refine ⟨fun c hc => ?_, fun c hc => ?_, fun c hc y hy => ?_, fun x y hx hy e => ?_, fun i j a c x ha hc hx hy => ?_, ?_⟩
  · obtain ⟨b, hb, rfl⟩ := List.mem_map.mp hc
    have nd : (nm m b).Nodup := by
      rw [(nm_perm m b).nodup_iff]
      have ab := T.asc b hb
      unfold List.Nodup
      rw [List.pairwise_map]
      refine ab.imp_of_mem fun {x y} hx hy h e => ?_
      have := inj x y (T.lt b hb x hx) (T.lt b hb y hy) e
      omega
    have := (nm_asc m b).and nd
    exact this.imp fun {x y} h => by have h1 := h.1; have h2 := h.2; omega
  · obtain ⟨b, hb, rfl⟩ := List.mem_map.mp hc
    rw [(nm_perm m b).length_eq, List.length_map]
    exact T.two b hb
  · obtain ⟨b, hb, rfl⟩ := List.mem_map.mp hc
    obtain ⟨x, hx, rfl⟩ := mem_nm.mp hy
    exact ltn x (T.lt b hb x hx)
  · rw [← (N.back hx).2, ← (N.back hy).2]
    exact congrArg (fun k => m.getD k 0) e
  · rw [List.getElem?_map] at ha hc
    cases ea : bs[i]? with
    | none => rw [ea] at ha; cases ha
    | some a0 =>
      cases ec : bs[j]? with
      | none => rw [ec] at hc; cases hc
      | some c0 =>
        rw [ea] at ha
        rw [ec] at hc
        have ha := Option.some.inj ha
        have hc := Option.some.inj hc
        rw [← ha] at hx
        rw [← hc] at hy
        exact T.uniq i j a0 c0 _ ea ec (own a0 (List.mem_of_getElem? ea) x hx) (own c0 (List.mem_of_getElem? ec) x hy)
  · obtain ⟨r, hr, ⟨c, hc, hrc⟩, ho⟩ := T.root
    refine ⟨m.getD r 0, ltn r hr, ⟨nm m c, List.mem_map.mpr ⟨c, hc, rfl⟩, mem_nm.mpr ⟨r, hrc, rfl⟩⟩, fun y hy hne => ?_⟩
    obtain ⟨h1, h2⟩ := N.back hy
    have hx : m.idxOf y ≠ r := fun e => hne (by rw [← e]; exact h2.symm)
    obtain ⟨b, hb, q⟩ := ho _ h1 hx
    refine ⟨nm m b, List.mem_map.mpr ⟨b, hb, rfl⟩, ?_⟩
    have := own2 b hb _ q
    rw [h2] at this
    exact this
/-- a bag of a tree owns a bead -/
theorem own_some {rk : Nat → Nat} (T : Tree n bs rk) {b : List Nat} (hb : b ∈ bs) : ∃ x, Own rk b x := by
  have a := T.asc b hb
  have t := T.two b hb
  match b, a, t, T.lt b hb with
  | x :: y :: l, a, _, l1 =>
    have h1 : x < y := (List.pairwise_cons.mp a).1 y (by simp)
    have hxn := l1 x (by simp)
    have hyn := l1 y (by simp)
    have hne : rk x ≠ rk y := fun e => by have := T.inj x y hxn hyn e; omega
    rcases Nat.lt_or_gt_of_ne hne with q | q
    · exact ⟨y, by simp, x, by simp, q⟩
    · exact ⟨x, by simp, y, by simp, q⟩
theorem good_of {rk : Nat → Nat} (T : Tree n bs rk) (hn : n ≤ 60) (hl : bs.length ≤ small) (hs : bs.Pairwise (fun x y => natI x ≤ natI y)) : Good n bs rk := by
  refine ⟨T, hn, hl, fun i a b ha hb => ?_⟩
  obtain ⟨hi, ea⟩ := List.getElem?_eq_some_iff.mp ha
  obtain ⟨hj, eb⟩ := List.getElem?_eq_some_iff.mp hb
  have le := (List.pairwise_iff_getElem.mp hs) i (i + 1) hi hj (Nat.lt_succ_self i)
  rw [ea, eb] at le
  rw [lex_lt, decide_eq_true_eq]
  apply Classical.byContradiction
  intro h
  have e : natI a = natI b := List.le_antisymm le (List.not_lt.mp h)
  have e2 := nat_eq e
  subst e2
  obtain ⟨x, hx⟩ := own_some T (List.mem_of_getElem? ha)
  have := T.uniq i (i + 1) a a x ha hb hx hx
  omega
end
end K00
end

section
set_option Elab.async false
set_option linter.all false
set_option maxRecDepth 100000
set_option maxHeartbeats 4000000
/-! _law_family. -/
namespace K00
open PySem PySem.Spec PyProof.Rows L2 GX GxR PG C8 ST FM
section
variable {P : Program} {w : World} {K : PySem.W.Frag} {mg : Str → Option Value} {base : Heap}
def spFamily (K : PySem.W.Frag) : Sp := fun vs H Q _ => ∃ (r : Addr) (most : Nat) (sc : Addr) (cells : List Int), vs = [.ref r, .int (most : Int)] ∧ 2 ≤ most ∧ most ≤ 60 ∧ Row K H r sc cells ∧ Tabs (tabs K) H ∧
  ∀ H' v n bs rk, ExtR (tabs K) r H H' → Rw H' r sc → IsBs K H' v bs → Good n bs rk → n ≤ most → Q v H'
/-- the bags as lists at ts -/
structure Lists (H0 H : Hp) (B : Addr) (ts : List Addr) (cs : List (List Nat)) : Prop where
  at_ : H B = some (.lst (ts.map V.ref))
  len : ts.length = cs.length
  is : ∀ (j : Nat) t b, ts[j]? = some t → cs[j]? = some b → H t = some (.lst (bagV b))
  nd : ts.Nodup
  nb : B ∉ ts
  new : ∀ t ∈ ts, H0 t = none
  newB : H0 B = none
theorem Lists.ext {T : List Addr} {r : Addr} {H0 H H' : Hp} {B : Addr} {ts : List Addr} {cs : List (List Nat)} (L : Lists H0 H B ts cs) (hr : H0 r ≠ none) (e : ExtR T r H H') : Lists H0 H' B ts cs :=
  ⟨e.lst (fun z => hr (by rw [← z]; exact L.newB)) L.at_, L.len, fun j t b h1 h2 => e.lst (fun z => hr (by rw [← z]; exact L.new t (List.mem_of_getElem? h1))) (L.is j t b h1 h2), L.nd, L.nb, L.new, L.newB⟩
theorem Lists.join {H0 H : Hp} {B : Addr} {ts : List Addr} {cs : List (List Nat)} (L : Lists H0 H B ts cs) {q : Nat} {t : Addr} {b : List Nat} {x : Nat} (h1 : ts[q]? = some t) (h2 : cs[q]? = some b) : Lists H0 (upd H t (.lst (bagV b ++ [V.int (x : Int)]))) B ts (cs.set q (b ++ [x])) := by
  have htm := List.mem_of_getElem? h1
  have hq := (List.getElem?_eq_some_iff.mp h2).1
  refine ⟨by rw [upd_ne (fun z => L.nb (by rw [z]; exact htm))]; exact L.at_, by rw [List.length_set]; exact L.len, fun j t' b' g1 g2 => ?_, L.nd, L.nb, L.new, L.newB⟩
  by_cases e : q = j
  · subst e
    rw [h1] at g1
    cases g1
    rw [List.getElem?_set_self hq] at g2
    cases g2
    rw [upd_same]
    simp [bagV]
  · rw [List.getElem?_set_ne e] at g2
    have hne : t' ≠ t := fun z => by
      subst z
      obtain ⟨i1, e1⟩ := List.getElem?_eq_some_iff.mp h1
      obtain ⟨i2, e2⟩ := List.getElem?_eq_some_iff.mp g1
      have a := L.nd.idxOf_getElem q i1
      have b := L.nd.idxOf_getElem j i2
      rw [e1] at a
      rw [e2] at b
      omega
    rw [upd_ne hne]
    exact L.is j t' b' g1 g2
theorem Lists.hung {H0 H : Hp} {B : Addr} {ts : List Addr} {cs : List (List Nat)} (L : Lists H0 H B ts cs) {t : Addr} {x y : Nat} (ht : H t = none) (ht0 : H0 t = none) : Lists H0 (upd (upd H t (.lst [V.int (x : Int), V.int (y : Int)])) B (.lst (ts.map V.ref ++ [V.ref t]))) B (ts ++ [t]) (cs ++ [[x, y]]) := by
  have hBt : B ≠ t := fun z => by have := L.at_; rw [z, ht] at this; cases this
  have hold : ∀ u ∈ ts, u ≠ t := fun u hu z => by
    obtain ⟨j, hj⟩ := List.mem_iff_getElem?.mp hu
    have hj1 := (List.getElem?_eq_some_iff.mp hj).1
    have hj2 : j < cs.length := by rw [← L.len]; exact hj1
    have := L.is j u cs[j] hj (List.getElem?_eq_getElem hj2)
    rw [z, ht] at this
    cases this
  refine ⟨by rw [upd_same, List.map_append]; rfl, by rw [List.length_append, List.length_append, L.len]; rfl, fun j t' b' g1 g2 => ?_, ?_, ?_, ?_, L.newB⟩
  · by_cases e : j < ts.length
    · rw [List.getElem?_append_left e] at g1
      rw [List.getElem?_append_left (by rw [← L.len]; exact e)] at g2
      have hm := List.mem_of_getElem? g1
      rw [upd_ne (fun z => L.nb (by rw [← z]; exact hm)), upd_ne (hold t' hm)]
      exact L.is j t' b' g1 g2
    · have h1 := (List.getElem?_eq_some_iff.mp g1).1
      rw [List.length_append] at h1
      simp only [List.length_cons, List.length_nil] at h1
      have e2 : j = ts.length := by omega
      subst e2
      rw [List.getElem?_append_right (Nat.le_refl _)] at g1
      rw [List.getElem?_append_right (by rw [← L.len]; exact Nat.le_refl _), L.len] at g2
      simp at g1 g2
      subst g1
      subst g2
      rw [upd_ne (Ne.symm hBt), upd_same]
      rfl
  · exact List.pairwise_append.mpr ⟨L.nd, List.pairwise_singleton _ _, fun a ha b hb => by rw [List.mem_singleton.mp hb]; exact hold a ha⟩
  · intro z
    rcases List.mem_append.mp z with q | q
    · exact L.nb q
    · exact hBt (List.mem_singleton.mp q)
  · intro u hu
    rcases List.mem_append.mp hu with q | q
    · exact L.new u q
    · rw [List.mem_singleton.mp q]; exact ht0
theorem Lists.each {H0 H : Hp} {B : Addr} {ts : List Addr} {cs : List (List Nat)} (L : Lists H0 H B ts cs) : EachL K H (ts.map V.ref) cs := by
  refine ⟨by rw [List.length_map]; exact L.len, fun i v b hv hb => ?_⟩
  rw [List.getElem?_map] at hv
  cases e : ts[i]? with
  | none => rw [e] at hv; cases hv
  | some t =>
    rw [e] at hv
    cases hv
    exact ⟨t, rfl, SqL.of (L.is i t b e hb)⟩
theorem sc_family : FnScope ["row", "most", "size", "often", "bags", "bead"] ["row", "most"] (defScope (top p_law_family)) := fnScope_by (by decide +kernel)
theorem c_family (T : Txt K mg base) : Cal P w K mg base 3 "_law_family" (spFamily K) [] := by
  have C1 := c_taken (P := P) (w := w) T
  have C2 := c_pick (P := P) (w := w) T
  have C3 := c_mixed (P := P) (w := w) T
  have C4 := c_named (P := P) (w := w) T
  refine calC (T.defs f_law_family _ rfl) T.g sc_family (fun _ _ _ _ _ _ us hl => match us, hl with | [_, _], _ => rfl) (fun vs H Q E h => by obtain ⟨a, m, _, _, rfl, _⟩ := h; rfl) fun A outer s H vs Q E hr h => ⟨_, PSs.nox (pss_cons
    (ps_par (i := 2) (j := 3) rfl sc_family.nd rfl rfl (by decide) rfl rfl (pa_cons
      (pe_op op_add pe_int (pe_c C1 hr (by decide) rfl (pa_cons (pv 0) (pa_cons (pe_op op_sub (pv 1) pe_int) pa_nil))))
      (pa_cons (pe_c C2 hr (by decide) rfl (pa_cons (pv 0) (pa_cons (pe_lst (pa_cons pe_int (pa_cons pe_int (pa_cons pe_int (pa_cons pe_int (pa_cons pe_int pa_nil)))))) pa_nil))) pa_nil)) rfl)
    (pss_cons (ps_set (i := 4) sc_family.nd rfl (.inl rfl) (pe_lst (pa_cons (pe_lst (pa_cons pe_int (pa_cons pe_int pa_nil))) pa_nil)))
    (pss_cons (ps_for PassesOwn.never rfl (pi_range2 rfl T.n (pa_cons pe_int (pa_cons (pv 2) pa_nil))) (pg_name (i := 5) sc_family.nd rfl (.inl rfl))
      (pss_one (ps_if (pt_cmpR op_eq (pe_c C1 hr (by decide) rfl (pa_cons (pv 0) (pa_cons (pv 3) pa_nil))) pe_int (nomark _))
        (pss_one (ps_expr (pe_bm PySem.F.plainAttrs_list PySem.F.slot_list_append PySem.F.type_list_append mt_append
          (pe_ix ix_list (pv 4) (pe_c C1 hr (by decide) rfl (pa_cons (pv 0) (pa_cons (pe_callB (lenK (K := K) rfl) rfl T.n PySem.boot_len (pa_cons (pv 4) pa_nil)) pa_nil))) (fun _ _ => rfl)) (pa_cons (pv 5) pa_nil))))
        (pss_one (ps_expr (pe_bm PySem.F.plainAttrs_list PySem.F.slot_list_append PySem.F.type_list_append mt_append (pv 4)
          (pa_cons (pe_lst (pa_cons (pe_c C1 hr (by decide) rfl (pa_cons (pv 0) (pa_cons (pv 5) pa_nil))) (pa_cons (pv 5) pa_nil))) pa_nil)))))))
    (pss_one (ps_ret (pe_c C4 hr (by decide) rfl (pa_cons (pv 4) (pa_cons (pe_c C3 hr (by decide) rfl (pa_cons (pv 0) (pa_cons (pe_listRg rfl rfl T.n (prg_1 rfl T.n (pv 2))) pa_nil))) pa_nil)))))))), ?_⟩
  obtain ⟨r, most, sc, cells, rfl, hm2, hm60, hR, hT, hQ⟩ := h
  have hr0 : H r ≠ none := fun z => by
    obtain ⟨k, c, v, e, _⟩ := hR.rw
    rw [z] at e
    cases e
  have em : (most : Int) - 1 = ((most - 1 : Nat) : Int) := by omega
  refine ⟨_, rfl, _, rfl, _, _, rfl, rfl, r, most - 1, sc, cells, by show [V.ref r, V.int ((most : Int) - 1)] = _; rw [em], by omega, by omega, hR, hT, fun H1 j hj hw1 e1 => ?_⟩
  refine ⟨_, _, rfl, rfl, _, rfl, small_line (n := 5) (by decide), fun pl hpl => ?_⟩
  have n1 := Ext.new (o := .lst [.int 2, .int 3, .int 3, .int 4, .int 9]) e1.tabs hpl
  have R1 := (hR.next e1 hw1).ext n1
  refine ⟨r, pl, sc, cells, [2, 3, 3, 4, 9], rfl, hw1.nep hpl, SqL.of upd_same, by decide, by decide, R1, n1.tabs, fun H2 x hx hw2 e2 => ⟨_, _, rfl, ?_⟩⟩
  have E2 : ExtR (tabs K) r H H2 := (e1.trans (.of n1)).trans e2
  obtain ⟨k, rfl, hk0, hk1⟩ : ∃ k : Nat, x = (k : Int) ∧ 0 < k ∧ k ≤ 1000 := by
    simp at hx
    exact ⟨x.toNat, by omega, by omega, by omega⟩
  refine ⟨small_line (n := 2) (by decide), fun t ht => ⟨small_line (n := 1) (by decide), fun B hB => ?_⟩⟩
  have n2 := Ext.new (o := .lst [.int 0, .int 1]) E2.tabs ht
  have n3 := Ext.new (o := .lst [.ref t]) n2.tabs hB
  have ht0 : H t = none := E2.none ht (hw2.nep ht)
  have hB2 : H2 B = none := n2.none hB
  have hB0 : H B = none := E2.none hB2 (hw2.nep hB2)
  have hBt : B ≠ t := fun z => by rw [z, upd_same] at hB; cases hB
  have jl : (((2 : Int) + (j : Int)) - 2).toNat = j := by omega
  have j62 := small62 (n := 2 + j) (show 2 + j ≤ 1000 by omega)
  refine ⟨_, rfl, 2, 2 + (j : Int), rfl, ⟨by decide, by decide, by omega, by omega⟩, ?_⟩
  refine for_range (lo := 2) (fun i σ H' => ∃ (ts : List Addr) (cs : List (List Nat)) (u : Option V), σ = [some (.ref r), some (.int (most : Int)), some (.int (2 + (j : Int))), some (.int (k : Int)), some (.ref B), u] ∧ ExtR (tabs K) r H H' ∧ Rw H' r sc ∧ Lists H H' B ts cs ∧ Tree (2 + i) cs id ∧ cs.length ≤ 1 + i)
    ⟨[t], [[0, 1]], none, rfl, (E2.trans (.of n2)).trans (.of n3), (hw2.ext n2).ext n3, ⟨upd_same, rfl, fun i t' b h1 h2 => ?_, by simp, by simp [hBt], by simp [ht0], hB0⟩, tree_two, by simp⟩ (fun i σ H' hi q => ?_) (fun σ H' q => ?_)
  · have hi := (List.getElem?_eq_some_iff.mp h1).1
    have : i = 0 := by simpa using hi
    subst this
    simp at h1 h2
    subst h1
    subst h2
    rw [upd_ne (Ne.symm hBt), upd_same]
    rfl
  · obtain ⟨ts, cs, u, rfl, e, hw, L, Tr, hlen⟩ := q
    have hi : i < j := by rw [jl] at hi; exact hi
    have hn60 : 2 + i < 60 := by omega
    refine ⟨_, rfl, _, rfl, r, k, sc, cells, rfl, hk0, hk1, hR.next e hw, e.tabs, fun H5 j5 hj5 hw5 e5 => ⟨rfl, _, rfl, ?_⟩⟩
    have L5 := L.ext hr0 e5
    have E5 := e.trans e5
    have hcs : 0 < cs.length := by
      obtain ⟨b, l, eb⟩ := Tr.ne
      rw [eb]; simp
    refine ite2 (fun _ => ?_) fun _ => ?_
    · refine ⟨_, rfl, _, rfl, _, rfl, _, cs.length, rfl, .inl ⟨_, SqL.of L5.at_, by rw [List.length_map, L5.len]⟩, r, cs.length, sc, cells, rfl, hcs, by omega, hR.next E5 hw5, E5.tabs, fun H6 q hq hw6 e6 => ?_⟩
      have L6 := L5.ext hr0 e6
      have E6 := E5.trans e6
      have hq2 : q < ts.length := by rw [L6.len]; exact hq
      have g1 : ts[q]? = some ts[q] := List.getElem?_eq_getElem hq2
      have g2 : cs[q]? = some cs[q] := List.getElem?_eq_getElem hq
      have ht6 := L6.is q _ _ g1 g2
      have htn := L6.new _ (List.getElem_mem hq2)
      have htr : ts[q] ≠ r := fun z => hr0 (by rw [← z]; exact htn)
      have hasc := asc_len _ (Tr.asc _ (List.getElem_mem hq)) (2 + i) (Tr.lt _ (List.getElem_mem hq))
      refine ⟨B, _, _, _, rfl, rfl, SqL.of L6.at_, atI_nat (show (ts.map V.ref)[q]? = some (.ref ts[q]) by rw [List.getElem?_map, g1]; rfl), .inl ⟨rfl, _, SqL.of ht6⟩, _, rfl, ts[q], _, _, rfl, rfl, ht6, ?_, ?_⟩
      · rw [bagV_len]
        exact small1000 (by omega)
      · exact ⟨ts, cs.set q (cs[q] ++ [2 + i]), some (.int (2 + (i : Int))), rfl, Ext.set E6 (by rw [drop_ne htr]; exact htn) ⟨_, ht6, fun ps z => by cases z⟩, hw6.put htr, L6.join g1 g2, Tr.join g2, by rw [List.length_set]; omega⟩
    · refine ⟨_, rfl, .inl ⟨rfl, _, SqL.of L5.at_⟩, _, rfl, _, rfl, r, 2 + i, sc, cells, rfl, by omega, by omega, hR.next E5 hw5, E5.tabs, fun H6 p hp hw6 e6 => ?_⟩
      have L6 := L5.ext hr0 e6
      have E6 := E5.trans e6
      refine ⟨_, rfl, small_line (n := 2) (by decide), fun t2 ht2 => ?_⟩
      have n6 := Ext.new (o := .lst [.int (p : Int), .int (2 + (i : Int))]) E6.tabs ht2
      have hB6 : upd H6 t2 (.lst [.int (p : Int), .int (2 + (i : Int))]) B = some (.lst (ts.map V.ref)) := n6.lst L6.at_
      have hBr : B ≠ r := fun z => hr0 (by rw [← z]; exact hB0)
      have ht20 := E6.none ht2 (hw6.nep ht2)
      refine ⟨B, _, _, rfl, rfl, hB6, ?_, ?_⟩
      · rw [List.length_map, L6.len]
        exact small1000 (by omega)
      · refine ⟨ts ++ [t2], cs ++ [[p, 2 + i]], some (.int (2 + (i : Int))), rfl, Ext.set (E6.trans (.of n6)) (by rw [drop_ne hBr]; exact hB0) ⟨_, hB6, fun ps z => by cases z⟩, (hw6.ext n6).put hBr, L6.hung ht2 ht20, Tr.hung hp, by rw [List.length_append]; simp; omega⟩
  · obtain ⟨ts, cs, u, rfl, e, hw, L, Tr, hlen⟩ := q
    rw [jl] at Tr hlen
    have en : (2 : Int) + (j : Int) = ((2 + j : Nat) : Int) := by omega
    refine ⟨_, rfl, _, rfl, _, rfl, 2 + (j : Int), rfl, RgOk.of_le (by decide) (by omega) (by decide) (by omega), fun pr hpr => ?_⟩
    have n7 := Ext.new (o := .lst (rgV 0 (2 + (j : Int)))) e.tabs hpr
    have E7 := e.trans (.of n7)
    refine ⟨r, pr, sc, cells, List.range (2 + j), rfl, hw.nep hpr, SqL.of (by rw [upd_same, en, rgV_nats]), by rw [List.length_range]; show 2 + j ≤ 1000; omega, hR.next E7 (hw.ext n7), E7.tabs, fun H8 q m hp hw8 e8 hqr hq0 hq => ?_⟩
    have E8 := E7.trans e8
    have L8 := (L.ext hr0 (.of n7)).ext hr0 e8
    have N := names_of hp
    refine ⟨B, q, _, cs, m, rfl, SqL.of L8.at_, L8.each, SqL.of hq, fun b hb => ⟨fun z => ?_, ?_, fun x hx => ?_⟩, by show cs.length ≤ 1000; omega, E8.tabs, fun H9 v bs' e9 hB9 hp9 hs9 => ?_⟩
    · have := Tr.two b hb
      rw [z] at this
      simp at this
    · have := asc_len _ (Tr.asc b hb) (2 + j) (Tr.lt b hb)
      show b.length ≤ 1000
      omega
    · rw [N.len]
      exact Tr.lt b hb x hx
    · have T2 := (N.tree Tr).perm hp9
      refine hQ H9 v (2 + j) bs' _ (E8.trans (.of e9)) (hw8.ext e9) hB9 (good_of T2 (by omega) ?_ hs9) (by omega)
      rw [hp9.length_eq, List.length_map]
      show cs.length ≤ 1000
      omega
end
end K00
end

section
set_option Elab.async false
set_option linter.all false
set_option maxRecDepth 100000
set_option maxHeartbeats 4000000
/-! _law_alike, _law_size. -/
namespace K00
open PySem PySem.Spec PyProof.Rows L2 GX GxR PG C8 ST FM
section
variable {P : Program} {w : World} {K : PySem.W.Frag} {mg : Str → Option Value} {base : Heap}
/-- alike, n tuples deep -/
def LikeV (K : PySem.W.Frag) (H : Hp) : Nat → V → V → Prop
  | 0, x, y => ∃ i : Int, x = .int i ∧ y = .int i
  | n + 1, x, y => ∃ (a b : Addr) (xs ys : List V), x = .ref a ∧ y = .ref b ∧ SqT K H a xs ∧ SqT K H b ys ∧ xs.length = ys.length ∧ ys.length ≤ small ∧ ∀ (i : Nat) u v, xs[i]? = some u → ys[i]? = some v → LikeV K H n u v
theorem LikeV.ext {T : List Addr} {H H' : Hp} (e : Ext T H H') : ∀ (n : Nat) (x y : V), LikeV K H n x y → LikeV K H' n x y
  | 0, _, _, h => h
  | n + 1, _, _, ⟨a, b, xs, ys, e1, e2, h1, h2, h3, h4, h5⟩ => ⟨a, b, xs, ys, e1, e2, e.seqT h1, e.seqT h2, h3, h4, fun i u v g1 g2 => LikeV.ext e n u v (h5 i u v g1 g2)⟩
def spAlike (n : Nat) (K : PySem.W.Frag) : Sp := fun vs H Q _ => ∃ x y, vs = [x, y] ∧ LikeV K H n x y ∧ Tabs (tabs K) H ∧ ∀ H', Ext (tabs K) H H' → Q (.bl true) H'
theorem sc_alike : FnScope ["found", "due", "k"] ["found", "due"] (defScope (top p_law_alike)) := fnScope_by (by decide +kernel)
theorem kitTL_tup : PySem.W.kitAny K (.type "tuple") [.type "tuple", .type "list"] = some true := kitAny_cons (b := true) isT (fun z => by cases z) (fun _ => rfl)
theorem kitTL_int : PySem.W.kitAny K (.type "int") [.type "tuple", .type "list"] = some false := kitAny_cons (b := false) isT (fun _ => kitAny_cons (b := false) isT (fun _ => kitAny_nil) (fun z => by cases z)) (fun z => by cases z)
theorem cls2 : Paired ClsV [V.ty "tuple", V.ty "list"] [Value.type "tuple", Value.type "list"] := .cons (.ty _) (.cons (.ty _) .nil)
theorem c_alike0 (T : Txt K mg base) : Cal P w K mg base 1 "_law_alike" (spAlike 0 K) [] := by
  refine calC (T.defs f_law_alike _ rfl) T.g sc_alike (fun _ _ _ _ _ _ us hl => match us, hl with | [_, _], _ => rfl) (fun vs H Q E h => by obtain ⟨a, m, rfl, _⟩ := h; rfl) fun A outer s H vs Q E hr h => ⟨_, PSs.nox (pss_cons
    (ps_if (pt_val (pe_callB call_isiT rfl T.n boot_isinstance (pa_cons (pv 1) (pa_cons (pe_tup (pa_cons (pe_bltn (v := .ty "tuple") rfl T.n PyProof.Rows.boot_tuple rfl) (pa_cons (pe_bltn (v := .ty "list") rfl T.n PyProof.Rows.boot_list rfl) pa_nil))) pa_nil)))) pss_never pss_nil)
    (pss_cons (ps_if (PW.pt (pw_or (pt_cmpR op_isN (pv 1) pe_non (nomark _)) (pw_or1 (pt_val (pe_callB call_isi rfl T.n boot_isinstance (pa_cons (pv 1) (pa_cons (pe_bltn (v := .ty "str") rfl T.n PyProof.Rows.boot_str rfl) pa_nil))))))) pss_never pss_nil)
    (pss_one (ps_ret (pe_and (pe_callB call_isi rfl T.n boot_isinstance (pa_cons (pv 0) (pa_cons (pe_bltn (v := .ty "int") rfl T.n PyProof.Rows.boot_int rfl) pa_nil)))
      (pe_and (pe_cmpR op_eq (pe_callB call_isi rfl T.n boot_isinstance (pa_cons (pv 0) (pa_cons (pe_bltn (v := .ty "bool") rfl T.n PyProof.Rows.boot_bool rfl) pa_nil)))
        (pe_callB call_isi rfl T.n boot_isinstance (pa_cons (pv 1) (pa_cons (pe_bltn (v := .ty "bool") rfl T.n PyProof.Rows.boot_bool rfl) pa_nil))) (nomark _))
      (pe_one (pe_cmpR op_eq (pv 0) (pv 1) (nomark _))))))))), ?_⟩
  obtain ⟨x, y, rfl, ⟨i, rfl, rfl⟩, hT, hQ⟩ := h
  refine ⟨_, rfl, small_line (n := 2) (by decide), fun tp htp => ⟨_, tp, _, _, _, false, rfl, upd_same, cls2, .base (.int _), kitTL_int, _, rfl, iteF ?_⟩⟩
  have e1 := Ext.new (o := .tup [.ty "tuple", .ty "list"]) hT htp
  refine ⟨_, rfl, rfl, _, rfl, iteF ⟨_, rfl, _, _, _, _, false, rfl, .ty _, .base (.int _), isT, _, rfl, iteF ?_⟩⟩
  refine ⟨_, rfl, _, _, _, _, true, rfl, .ty _, .base (.int _), isT, _, rfl, iteT ⟨_, rfl, _, _, _, _, false, rfl, .ty _, .base (.int _), isT, _, rfl, _, _, _, _, false, rfl, .ty _, .base (.int _), isT, rfl, _, rfl, iteT ⟨_, rfl, _, rfl, rfl, ?_⟩⟩⟩
  rw [decide_eq_true rfl]
  exact hQ _ e1
theorem c_alike (T : Txt K mg base) : ∀ n, Cal P w K mg base (n + 1) "_law_alike" (spAlike n K) []
  | 0 => c_alike0 T
  | n + 1 => by
    have C1 := c_alike T n
    refine calC (T.defs f_law_alike _ rfl) T.g sc_alike (fun _ _ _ _ _ _ us hl => match us, hl with | [_, _], _ => rfl) (fun vs H Q E h => by obtain ⟨a, m, rfl, _⟩ := h; rfl) fun A outer s H vs Q E hr h => ⟨_, PSs.nox (pss_cons
      (ps_if (pt_val (pe_callB call_isiT rfl T.n boot_isinstance (pa_cons (pv 1) (pa_cons (pe_tup (pa_cons (pe_bltn (v := .ty "tuple") rfl T.n PyProof.Rows.boot_tuple rfl) (pa_cons (pe_bltn (v := .ty "list") rfl T.n PyProof.Rows.boot_list rfl) pa_nil))) pa_nil))))
        (pss_cons (ps_if (PW.pt (pw_or (pt_not (pt_val (pe_callB call_isiT rfl T.n boot_isinstance (pa_cons (pv 0) (pa_cons (pe_tup (pa_cons (pe_bltn (v := .ty "tuple") rfl T.n PyProof.Rows.boot_tuple rfl) (pa_cons (pe_bltn (v := .ty "list") rfl T.n PyProof.Rows.boot_list rfl) pa_nil))) pa_nil)))))
            (pw_or1 (pt_cmpR op_ne (pe_callB call_isi rfl T.n boot_isinstance (pa_cons (pv 0) (pa_cons (pe_bltn (v := .ty "list") rfl T.n PyProof.Rows.boot_list rfl) pa_nil)))
              (pe_callB call_isi rfl T.n boot_isinstance (pa_cons (pv 1) (pa_cons (pe_bltn (v := .ty "list") rfl T.n PyProof.Rows.boot_list rfl) pa_nil))) (nomark _))))) pss_never pss_nil)
        (pss_cons (ps_if (pt_cmpR op_ne (pe_callB (lenK (K := K) rfl) rfl T.n PySem.boot_len (pa_cons (pv 0) pa_nil)) (pe_callB (lenK (K := K) rfl) rfl T.n PySem.boot_len (pa_cons (pv 1) pa_nil)) (nomark _)) pss_never pss_nil)
        (pss_one (ps_ret (pe_cmpR (op_eqD (room64 hr)) (pe_lc (own := [("k", 2)]) (g := gName 2) rfl sc_alike.nd (pi_range1 rfl T.n (pa_cons (pe_callB (lenK (K := K) rfl) rfl T.n PySem.boot_len (pa_cons (pv 1) pa_nil)) pa_nil)) (blkOk_by (N := ["found", "due", "k"]) (sc := defScope (top p_law_alike)) (by decide +kernel)) (fun _ _ _ _ _ => pg_name (i := 2) sc_alike.nd rfl (Or.inl rfl))
          (fun _ _ _ _ _ => pts_one (pt_not (pt_val (pe_c C1 hr (Nat.le_refl _) rfl (pa_cons (pe_ix (ixTK (K := K) rfl) (pv 0) (pv 2) (fun _ _ => rfl)) (pa_cons (pe_ix (ixTK (K := K) rfl) (pv 1) (pv 2) (fun _ _ => rfl)) pa_nil))))))
          (fun _ _ _ _ _ => pv 2)) (pe_lst pa_nil) (nomark _)))))) pss_nil)
      pss_never), ?_⟩
    obtain ⟨x, y, rfl, ⟨a, b, xs, ys, rfl, rfl, h1, h2, h3, h4, h5⟩, hT, hQ⟩ := h
    refine ⟨_, rfl, small_line (n := 2) (by decide), fun tp htp => ⟨_, tp, _, _, _, true, rfl, upd_same, cls2, ty_tup ((Ext.new hT htp).seqT h2), kitTL_tup, _, rfl, iteT ?_⟩⟩
    have e1 := Ext.new (o := .tup [.ty "tuple", .ty "list"]) hT htp
    refine ⟨_, rfl, small_line (n := 2) (by decide), fun tq htq => ⟨_, tq, _, _, _, true, rfl, upd_same, cls2, ty_tup ((e1.trans (Ext.new e1.tabs htq)).seqT h1), kitTL_tup, _, rfl, iteF ?_⟩⟩
    have e2 := e1.trans (Ext.new (o := .tup [.ty "tuple", .ty "list"]) e1.tabs htq)
    refine ⟨_, rfl, _, _, _, _, false, rfl, .ty _, ty_tup (e2.seqT h1), isT, _, rfl, _, _, _, _, false, rfl, .ty _, ty_tup (e2.seqT h2), isT, rfl, _, rfl, iteF ?_⟩
    refine ⟨_, rfl, _, xs.length, rfl, .inr ⟨_, e2.seqT h1, rfl⟩, _, rfl, _, ys.length, rfl, .inr ⟨_, e2.seqT h2, rfl⟩, rfl, _, rfl, ?_⟩
    rw [h3, decide_eq_true rfl]
    refine iteF ?_
    refine ⟨_, rfl, _, ys.length, rfl, .inr ⟨_, e2.seqT h2, rfl⟩, _, rfl, (small62 h4).1, (small62 h4).2, fun D hD => ?_⟩
    have en : ((ys.length : Nat) : Int).toNat = ys.length := Int.toNat_natCast _
    rw [en]
    refine lc_src (T := tabs K) (src_rng (lo := 0) (n := ys.length)) (List.replicate ys.length none) (by rw [List.length_replicate, rngV_length]) (by rw [rngV_length]; exact small_line h4) e2.tabs hD (fun _ _ => trivial) (fun i v gv H' N Y hv hg e hN hY => ?_) (fun H' e eD => ?_)
    · have hi := (List.getElem?_eq_some_iff.mp hv).1
      rw [rngV_length] at hi
      rw [rngV_get hi] at hv
      have ev : v = V.int (i : Int) := by rw [← Option.some.inj hv]; congr 1; omega
      subst ev
      have hgn : gv = none := by
        rw [List.getElem?_replicate, if_pos hi] at hg
        exact (Option.some.inj hg).symm
      have g1 : xs[i]? = some (xs[i]'(by omega)) := List.getElem?_eq_getElem (by omega)
      have g2 : ys[i]? = some ys[i] := List.getElem?_eq_getElem hi
      have e3 := e2.trans e
      refine ⟨rfl, _, rfl, _, rfl, a, _, _, _, rfl, rfl, e3.seqT h1, atI_nat g1, _, rfl, _, rfl, b, _, _, _, rfl, rfl, e3.seqT h2, atI_nat g2, _, _, rfl, LikeV.ext e3 n _ _ (h5 i _ _ g1 g2), e3.tabs, fun H4 e4 => ⟨true, rfl, iteF (hN H4 hgn e4)⟩⟩
    · have ez : (List.replicate ys.length (none : Option V)).filterMap id = [] := by simp
      rw [ez] at eD
      refine ⟨Nat.zero_le _, fun D2 hD2 => ?_⟩
      have e3 := (e2.trans e).trans (Ext.new (o := .lst []) e.tabs hD2)
      have eD3 : upd H' D2 (.lst []) D = some (.lst []) := (Ext.new (T := tabs K) e.tabs hD2).lst eD
      exact ⟨_, _, .lst (SqL.of eD3) .nil, .lst (SqL.of upd_same) .nil, rfl, rfl, hQ _ e3⟩
end
end K00
end

section
set_option Elab.async false
set_option linter.all false
set_option maxRecDepth 100000
set_option maxHeartbeats 4000000
/-! _law_alike, of values of any kinds: whole numbers, truth values, texts, None, tuples of them. -/
namespace K00
open PySem PySem.Spec PyProof.Rows L2 GX GxR PG C8 ST FM
section
variable {P : Program} {w : World} {K : PySem.W.Frag} {mg : Str → Option Value} {base : Heap}
inductive Leaf : V → Prop where
  | int (i : Int) : Leaf (.int i)
  | bl (b : Bool) : Leaf (.bl b)
  | str (x : Str) : Leaf (.str x)
  | non : Leaf .non
def Like (K : PySem.W.Frag) (H : Hp) : Nat → V → V → Prop
  | 0, x, y => x = y ∧ Leaf x
  | n + 1, x, y => (x = y ∧ Leaf x) ∨ ∃ (a b : Addr) (xs ys : List V), x = .ref a ∧ y = .ref b ∧ SqT K H a xs ∧ SqT K H b ys ∧ xs.length = ys.length ∧ ys.length ≤ small ∧ ∀ (i : Nat) u v, xs[i]? = some u → ys[i]? = some v → Like K H n u v
theorem Like.ext {T : List Addr} {H H' : Hp} (e : Ext T H H') : ∀ (n : Nat) (x y : V), Like K H n x y → Like K H' n x y
  | 0, _, _, h => h
  | n + 1, _, _, .inl h => .inl h
  | n + 1, _, _, .inr ⟨a, b, xs, ys, e1, e2, h1, h2, h3, h4, h5⟩ => .inr ⟨a, b, xs, ys, e1, e2, e.seqT h1, e.seqT h2, h3, h4, fun i u v g1 g2 => Like.ext e n u v (h5 i u v g1 g2)⟩
theorem Like.leaf {H : Hp} {x : V} (h : Leaf x) : ∀ n, Like K H n x x
  | 0 => ⟨rfl, h⟩
  | n + 1 => .inl ⟨rfl, h⟩
def spAlikeG (n : Nat) (K : PySem.W.Frag) : Sp := fun vs H Q _ => ∃ x y, vs = [x, y] ∧ Like K H n x y ∧ Tabs (tabs K) H ∧ ∀ H', Ext (tabs K) H H' → Q (.bl true) H'
theorem kitTL_of {s : String} (h1 : kitB s "tuple" = some false) (h2 : kitB s "list" = some false) : PySem.W.kitAny K (.type s) [.type "tuple", .type "list"] = some false := kitAny_cons (b := false) (isT h1) (fun _ => kitAny_cons (b := false) (isT h2) (fun _ => kitAny_nil) (fun z => by cases z)) (fun z => by cases z)
/-- the reading of the rows behind the first if, of a leaf -/
def tIsi (K : PySem.W.Frag) (i : Nat) (s : String) : TE := tCB (rIsi K) (tCons (tVar i) (tCons (tC (.ty s)) tNil))
theorem leaf_tail {H : Hp} {Q : VK} {x : V} {u : Option V} (h : Leaf x) (hQ : Q (.bl true) H) :
    tSeq (tIfS (tOr (tTest (tOp (fun x y H Q => y = .non ∧ Q (.bl (decide (x = .non))) H) (tVar 1) (tC .non))) (tB (tIsi K 1 "str"))) (tRet (tAndV (tOp rEq (tVar 0) (tVar 1)) (tOp rEq (tIsi K 0 "str") (tIsi K 1 "str")))) tNext)
      (tRet (tAndV (tIsi K 0 "int") (tAndV (tOp rEq (tIsi K 0 "bool") (tIsi K 1 "bool")) (tOp rEq (tVar 0) (tVar 1))))) { nx := fun _ H' => Q .non H', rt := Q } [some x, some x, u] H := by
  cases h with
  | int i =>
    refine ⟨_, rfl, rfl, _, rfl, iteF ⟨_, rfl, _, _, _, _, false, rfl, .ty _, .base (.int _), isT, _, rfl, iteF ?_⟩⟩
    refine ⟨_, rfl, _, _, _, _, true, rfl, .ty _, .base (.int _), isT, _, rfl, iteT ⟨_, rfl, _, _, _, _, false, rfl, .ty _, .base (.int _), isT, _, rfl, _, _, _, _, false, rfl, .ty _, .base (.int _), isT, rfl, _, rfl, iteT ⟨_, rfl, _, rfl, rfl, ?_⟩⟩⟩
    rw [decide_eq_true rfl]
    exact hQ
  | bl b =>
    refine ⟨_, rfl, rfl, _, rfl, iteF ⟨_, rfl, _, _, _, _, false, rfl, .ty _, .base (.bl _), isT, _, rfl, iteF ?_⟩⟩
    refine ⟨_, rfl, _, _, _, _, true, rfl, .ty _, .base (.bl _), isT, _, rfl, iteT ⟨_, rfl, _, _, _, _, true, rfl, .ty _, .base (.bl _), isT, _, rfl, _, _, _, _, true, rfl, .ty _, .base (.bl _), isT, rfl, _, rfl, iteT ⟨_, rfl, _, rfl, rfl, ?_⟩⟩⟩
    rw [decide_eq_true rfl]
    exact hQ
  | str y =>
    refine ⟨_, rfl, rfl, _, rfl, iteF ⟨_, rfl, _, _, _, _, true, rfl, .ty _, .base (.str _), isT, _, rfl, iteT ?_⟩⟩
    refine ⟨_, rfl, _, rfl, rfl, true, ?_, iteT ⟨_, rfl, _, _, _, _, true, rfl, .ty _, .base (.str _), isT, _, rfl, _, _, _, _, true, rfl, .ty _, .base (.str _), isT, rfl, ?_⟩⟩
    · rw [decide_eq_true rfl]
    · exact hQ
  | non =>
    refine ⟨_, rfl, rfl, _, rfl, iteT ?_⟩
    exact ⟨_, rfl, _, rfl, rfl, true, rfl, iteT ⟨_, rfl, _, _, _, _, false, rfl, .ty _, .base .non, isT, _, rfl, _, _, _, _, false, rfl, .ty _, .base .non, isT, rfl, hQ⟩⟩
theorem leaf_ty {H : Hp} {x : V} (h : Leaf x) : ∃ t : String, TyX K H x (.type t) ∧ PySem.W.kitAny K (.type t) [.type "tuple", .type "list"] = some false := by
  cases h with
  | int i => exact ⟨_, .base (.int i), kitTL_of rfl rfl⟩
  | bl b => exact ⟨_, .base (.bl b), kitTL_of rfl rfl⟩
  | str y => exact ⟨_, .base (.str y), kitTL_of rfl rfl⟩
  | non => exact ⟨_, .base .non, kitTL_of rfl rfl⟩
theorem c_alikeG0 (T : Txt K mg base) : Cal P w K mg base 1 "_law_alike" (spAlikeG 0 K) [] := by
  refine calC (T.defs f_law_alike _ rfl) T.g sc_alike (fun _ _ _ _ _ _ us hl => match us, hl with | [_, _], _ => rfl) (fun vs H Q E h => by obtain ⟨a, m, rfl, _⟩ := h; rfl) fun A outer s H vs Q E hr h => ⟨_, PSs.nox (pss_cons
    (ps_if (pt_val (pe_callB call_isiT rfl T.n boot_isinstance (pa_cons (pv 1) (pa_cons (pe_tup (pa_cons (pe_bltn (v := .ty "tuple") rfl T.n PyProof.Rows.boot_tuple rfl) (pa_cons (pe_bltn (v := .ty "list") rfl T.n PyProof.Rows.boot_list rfl) pa_nil))) pa_nil)))) pss_never pss_nil)
    (pss_cons (ps_if (PW.pt (pw_or (pt_cmpR op_isN (pv 1) pe_non (nomark _)) (pw_or1 (pt_val (pe_callB call_isi rfl T.n boot_isinstance (pa_cons (pv 1) (pa_cons (pe_bltn (v := .ty "str") rfl T.n PyProof.Rows.boot_str rfl) pa_nil)))))))
      (pss_one (ps_ret (pe_and (pe_cmpR op_eq (pv 0) (pv 1) (nomark _)) (pe_one (pe_cmpR op_eq (pe_callB call_isi rfl T.n boot_isinstance (pa_cons (pv 0) (pa_cons (pe_bltn (v := .ty "str") rfl T.n PyProof.Rows.boot_str rfl) pa_nil))) (pe_callB call_isi rfl T.n boot_isinstance (pa_cons (pv 1) (pa_cons (pe_bltn (v := .ty "str") rfl T.n PyProof.Rows.boot_str rfl) pa_nil))) (nomark _)))))) pss_nil)
    (pss_one (ps_ret (pe_and (pe_callB call_isi rfl T.n boot_isinstance (pa_cons (pv 0) (pa_cons (pe_bltn (v := .ty "int") rfl T.n PyProof.Rows.boot_int rfl) pa_nil)))
      (pe_and (pe_cmpR op_eq (pe_callB call_isi rfl T.n boot_isinstance (pa_cons (pv 0) (pa_cons (pe_bltn (v := .ty "bool") rfl T.n PyProof.Rows.boot_bool rfl) pa_nil)))
        (pe_callB call_isi rfl T.n boot_isinstance (pa_cons (pv 1) (pa_cons (pe_bltn (v := .ty "bool") rfl T.n PyProof.Rows.boot_bool rfl) pa_nil))) (nomark _))
      (pe_one (pe_cmpR op_eq (pv 0) (pv 1) (nomark _))))))))), ?_⟩
  obtain ⟨x, y, rfl, ⟨rfl, hL⟩, hT, hQ⟩ := h
  obtain ⟨t, hty, hkit⟩ := leaf_ty (K := K) (H := H) hL
  refine ⟨_, rfl, small_line (n := 2) (by decide), fun tp htp => ?_⟩
  have e1 := Ext.new (o := .tup [.ty "tuple", .ty "list"]) hT htp
  obtain ⟨t, hty, hkit⟩ := leaf_ty (K := K) (H := upd H tp (.tup [.ty "tuple", .ty "list"])) hL
  exact ⟨_, tp, _, _, _, false, rfl, upd_same, cls2, hty, hkit, _, rfl, iteF (leaf_tail hL (hQ _ e1))⟩
theorem c_alikeG (T : Txt K mg base) : ∀ n, Cal P w K mg base (n + 1) "_law_alike" (spAlikeG n K) []
  | 0 => c_alikeG0 T
  | n + 1 => by
    have C1 := c_alikeG T n
    refine calC (T.defs f_law_alike _ rfl) T.g sc_alike (fun _ _ _ _ _ _ us hl => match us, hl with | [_, _], _ => rfl) (fun vs H Q E h => by obtain ⟨a, m, rfl, _⟩ := h; rfl) fun A outer s H vs Q E hr h => ⟨_, PSs.nox (pss_cons
      (ps_if (pt_val (pe_callB call_isiT rfl T.n boot_isinstance (pa_cons (pv 1) (pa_cons (pe_tup (pa_cons (pe_bltn (v := .ty "tuple") rfl T.n PyProof.Rows.boot_tuple rfl) (pa_cons (pe_bltn (v := .ty "list") rfl T.n PyProof.Rows.boot_list rfl) pa_nil))) pa_nil))))
        (pss_cons (ps_if (PW.pt (pw_or (pt_not (pt_val (pe_callB call_isiT rfl T.n boot_isinstance (pa_cons (pv 0) (pa_cons (pe_tup (pa_cons (pe_bltn (v := .ty "tuple") rfl T.n PyProof.Rows.boot_tuple rfl) (pa_cons (pe_bltn (v := .ty "list") rfl T.n PyProof.Rows.boot_list rfl) pa_nil))) pa_nil)))))
            (pw_or1 (pt_cmpR op_ne (pe_callB call_isi rfl T.n boot_isinstance (pa_cons (pv 0) (pa_cons (pe_bltn (v := .ty "list") rfl T.n PyProof.Rows.boot_list rfl) pa_nil)))
              (pe_callB call_isi rfl T.n boot_isinstance (pa_cons (pv 1) (pa_cons (pe_bltn (v := .ty "list") rfl T.n PyProof.Rows.boot_list rfl) pa_nil))) (nomark _))))) pss_never pss_nil)
        (pss_cons (ps_if (pt_cmpR op_ne (pe_callB (lenK (K := K) rfl) rfl T.n PySem.boot_len (pa_cons (pv 0) pa_nil)) (pe_callB (lenK (K := K) rfl) rfl T.n PySem.boot_len (pa_cons (pv 1) pa_nil)) (nomark _)) pss_never pss_nil)
        (pss_one (ps_ret (pe_cmpR (op_eqD (room64 hr)) (pe_lc (own := [("k", 2)]) (g := gName 2) rfl sc_alike.nd (pi_range1 rfl T.n (pa_cons (pe_callB (lenK (K := K) rfl) rfl T.n PySem.boot_len (pa_cons (pv 1) pa_nil)) pa_nil)) (blkOk_by (N := ["found", "due", "k"]) (sc := defScope (top p_law_alike)) (by decide +kernel)) (fun _ _ _ _ _ => pg_name (i := 2) sc_alike.nd rfl (Or.inl rfl))
          (fun _ _ _ _ _ => pts_one (pt_not (pt_val (pe_c C1 hr (Nat.le_refl _) rfl (pa_cons (pe_ix (ixTK (K := K) rfl) (pv 0) (pv 2) (fun _ _ => rfl)) (pa_cons (pe_ix (ixTK (K := K) rfl) (pv 1) (pv 2) (fun _ _ => rfl)) pa_nil))))))
          (fun _ _ _ _ _ => pv 2)) (pe_lst pa_nil) (nomark _)))))) pss_nil)
      (pss_cons (ps_if (PW.pt (pw_or (pt_cmpR op_isN (pv 1) pe_non (nomark _)) (pw_or1 (pt_val (pe_callB call_isi rfl T.n boot_isinstance (pa_cons (pv 1) (pa_cons (pe_bltn (v := .ty "str") rfl T.n PyProof.Rows.boot_str rfl) pa_nil)))))))
        (pss_one (ps_ret (pe_and (pe_cmpR op_eq (pv 0) (pv 1) (nomark _)) (pe_one (pe_cmpR op_eq (pe_callB call_isi rfl T.n boot_isinstance (pa_cons (pv 0) (pa_cons (pe_bltn (v := .ty "str") rfl T.n PyProof.Rows.boot_str rfl) pa_nil))) (pe_callB call_isi rfl T.n boot_isinstance (pa_cons (pv 1) (pa_cons (pe_bltn (v := .ty "str") rfl T.n PyProof.Rows.boot_str rfl) pa_nil))) (nomark _)))))) pss_nil)
      (pss_one (ps_ret (pe_and (pe_callB call_isi rfl T.n boot_isinstance (pa_cons (pv 0) (pa_cons (pe_bltn (v := .ty "int") rfl T.n PyProof.Rows.boot_int rfl) pa_nil)))
        (pe_and (pe_cmpR op_eq (pe_callB call_isi rfl T.n boot_isinstance (pa_cons (pv 0) (pa_cons (pe_bltn (v := .ty "bool") rfl T.n PyProof.Rows.boot_bool rfl) pa_nil)))
          (pe_callB call_isi rfl T.n boot_isinstance (pa_cons (pv 1) (pa_cons (pe_bltn (v := .ty "bool") rfl T.n PyProof.Rows.boot_bool rfl) pa_nil))) (nomark _))
        (pe_one (pe_cmpR op_eq (pv 0) (pv 1) (nomark _))))))))), ?_⟩
    obtain ⟨x, y, rfl, h, hT, hQ⟩ := h
    rcases h with ⟨rfl, hL⟩ | ⟨a, b, xs, ys, rfl, rfl, h1, h2, h3, h4, h5⟩
    · refine ⟨_, rfl, small_line (n := 2) (by decide), fun tp htp => ?_⟩
      have e1 := Ext.new (o := .tup [.ty "tuple", .ty "list"]) hT htp
      obtain ⟨t, hty, hkit⟩ := leaf_ty (K := K) (H := upd H tp (.tup [.ty "tuple", .ty "list"])) hL
      exact ⟨_, tp, _, _, _, false, rfl, upd_same, cls2, hty, hkit, _, rfl, iteF (leaf_tail hL (hQ _ e1))⟩
    refine ⟨_, rfl, small_line (n := 2) (by decide), fun tp htp => ⟨_, tp, _, _, _, true, rfl, upd_same, cls2, ty_tup ((Ext.new hT htp).seqT h2), kitTL_tup, _, rfl, iteT ?_⟩⟩
    have e1 := Ext.new (o := .tup [.ty "tuple", .ty "list"]) hT htp
    refine ⟨_, rfl, small_line (n := 2) (by decide), fun tq htq => ⟨_, tq, _, _, _, true, rfl, upd_same, cls2, ty_tup ((e1.trans (Ext.new e1.tabs htq)).seqT h1), kitTL_tup, _, rfl, iteF ?_⟩⟩
    have e2 := e1.trans (Ext.new (o := .tup [.ty "tuple", .ty "list"]) e1.tabs htq)
    refine ⟨_, rfl, _, _, _, _, false, rfl, .ty _, ty_tup (e2.seqT h1), isT, _, rfl, _, _, _, _, false, rfl, .ty _, ty_tup (e2.seqT h2), isT, rfl, _, rfl, iteF ?_⟩
    refine ⟨_, rfl, _, xs.length, rfl, .inr ⟨_, e2.seqT h1, rfl⟩, _, rfl, _, ys.length, rfl, .inr ⟨_, e2.seqT h2, rfl⟩, rfl, _, rfl, ?_⟩
    rw [h3, decide_eq_true rfl]
    refine iteF ?_
    refine ⟨_, rfl, _, ys.length, rfl, .inr ⟨_, e2.seqT h2, rfl⟩, _, rfl, (small62 h4).1, (small62 h4).2, fun D hD => ?_⟩
    have en : ((ys.length : Nat) : Int).toNat = ys.length := Int.toNat_natCast _
    rw [en]
    refine lc_src (T := tabs K) (src_rng (lo := 0) (n := ys.length)) (List.replicate ys.length none) (by rw [List.length_replicate, rngV_length]) (by rw [rngV_length]; exact small_line h4) e2.tabs hD (fun _ _ => trivial) (fun i v gv H' N Y hv hg e hN hY => ?_) (fun H' e eD => ?_)
    · have hi := (List.getElem?_eq_some_iff.mp hv).1
      rw [rngV_length] at hi
      rw [rngV_get hi] at hv
      have ev : v = V.int (i : Int) := by rw [← Option.some.inj hv]; congr 1; omega
      subst ev
      have hgn : gv = none := by
        rw [List.getElem?_replicate, if_pos hi] at hg
        exact (Option.some.inj hg).symm
      have g1 : xs[i]? = some (xs[i]'(by omega)) := List.getElem?_eq_getElem (by omega)
      have g2 : ys[i]? = some ys[i] := List.getElem?_eq_getElem hi
      have e3 := e2.trans e
      refine ⟨rfl, _, rfl, _, rfl, a, _, _, _, rfl, rfl, e3.seqT h1, atI_nat g1, _, rfl, _, rfl, b, _, _, _, rfl, rfl, e3.seqT h2, atI_nat g2, _, _, rfl, Like.ext e3 n _ _ (h5 i _ _ g1 g2), e3.tabs, fun H4 e4 => ⟨true, rfl, iteF (hN H4 hgn e4)⟩⟩
    · have ez : (List.replicate ys.length (none : Option V)).filterMap id = [] := by simp
      rw [ez] at eD
      refine ⟨Nat.zero_le _, fun D2 hD2 => ?_⟩
      have e3 := (e2.trans e).trans (Ext.new (o := .lst []) e.tabs hD2)
      have eD3 : upd H' D2 (.lst []) D = some (.lst []) := (Ext.new (T := tabs K) e.tabs hD2).lst eD
      exact ⟨_, _, .lst (SqL.of eD3) .nil, .lst (SqL.of upd_same) .nil, rfl, rfl, hQ _ e3⟩
end
end K00
end

section
set_option Elab.async false
set_option linter.all false
set_option maxRecDepth 100000
set_option maxHeartbeats 4000000
/-! sorted(..) of a set of tuples of whole numbers, of any lengths. -/
namespace ST
open PySem PySem.Spec PyProof.Rows L2 PySem.W
theorem perm_back {α β : Type} {f : α → β} {us ys : List β} (p : us.Perm ys) : ∀ L : List α, ys = L.map f → ∃ L1 : List α, L1.Perm L ∧ us = L1.map f := by
  induction p with
  | nil =>
    intro L e
    cases L with
    | nil => exact ⟨[], List.Perm.nil, rfl⟩
    | cons _ _ => cases e
  | cons x _ ih =>
    intro L e
    cases L with
    | nil => cases e
    | cons l L0 =>
      rw [List.map_cons] at e
      injection e with e1 e2
      obtain ⟨L1, h1, h2⟩ := ih L0 e2
      exact ⟨l :: L1, h1.cons l, by rw [List.map_cons, h2, e1]⟩
  | swap x y l =>
    intro L e
    match L, e with
    | a :: b :: L0, e =>
      rw [List.map_cons, List.map_cons] at e
      injection e with e1 e2
      injection e2 with e2 e3
      exact ⟨b :: a :: L0, .swap a b L0, by rw [List.map_cons, List.map_cons, e1, e2, e3]⟩
    | [a], e => simp at e
    | [], e => simp at e
  | trans _ _ ih1 ih2 =>
    intro L e
    obtain ⟨L2, h1, h2⟩ := ih2 L e
    obtain ⟨L1, h3, h4⟩ := ih1 L2 h2
    exact ⟨L1, h3.trans h1, h4⟩
theorem each_refs {h : Heap} : ∀ (L : List (Addr × List Int)), (∀ p ∈ L, ∃ (o : Obj) (its : Array Value) (n : Nat), h.get? p.1 = some o ∧ o.cls = .type "tuple" ∧ o.data = .seq its n ∧ IntsAre its.toList p.2) →
    EachIs (fun v b => v = Value.ref b.1) (L.map fun q => Value.ref q.1) L ∧ ∀ z : Addr, EachIs (fun v b => ∃ as, Reads h v (encT b) as ∧ z ∉ as) (L.map fun q => Value.ref q.1) L
  | [], _ => ⟨.nil, fun _ => .nil⟩
  | p :: L, hT => by
    obtain ⟨h1, h2⟩ := each_refs L fun q hq => hT q (List.mem_cons_of_mem _ hq)
    obtain ⟨o, its, n, ho, hc, hd, hi⟩ := hT p List.mem_cons_self
    exact ⟨.cons rfl h1, fun z => .cons ⟨[], .tuple ho hc hd (IntsAre.reads _ hi), by simp⟩ (h2 z)⟩
def rSortedU (K : PySem.W.Frag) (P : Program) (w : World) : List V → Hp → VK → Prop := fun vs H Q => ∃ (a : Addr) (L : List (Addr × List Int)), vs = [V.ref a] ∧ H a = some (SetTO P w a L) ∧ (∀ p ∈ L, SqT K H p.1 (p.2.map V.int) ∧ p.2 ≠ []) ∧
  ∀ (L' : List (Addr × List Int)) (p : Addr), L'.Perm L → (L'.map (·.2)).Nodup → L'.length < 64 → L'.Pairwise (fun x y => x.2 ≤ y.2) → H p = none → Q (.ref p) (upd H p (.lst (L'.map fun q => V.ref q.1)))
section
variable {X : Cx}
theorem cr_sortedU (hcm : X.calm = true) (hun : X.A.units + 64 < cLine) : CallR X (.builtin "sorted") (rSortedU X.K X.prog X.w) := by
  intro pins s σ H vs0 us Q I r0 h0
  obtain ⟨a, L, rfl, hset, hT, hq⟩ := h0
  obtain ⟨es, ep, tb, R⟩ := ((I.hok a _ hset).1 : SetT0 X.prog X.w s.heap a L).full fun p hp => I.isT (hT p hp).1
  rw [Vals.ref1 r0]
  obtain ⟨ob, hob, hex, hdat⟩ := R.ob
  have few := R.few
  have arr := R.size
  refine Calls.call_function_entry (id := "sorted") kind_sorted plain_sorted entry_sorted (args_sorted1 _) ?_
  unfold Builtin.«sorted»
  refine wpAny_bind (m := checkCount "sorted" 1 1 _) (wpAny_pure ?_)
  have rows : (es.toList.map fun z => z.2) = L.map fun q => Value.ref q.1 := by
    rw [R.rows]; unfold L2.rowsOf; rw [List.map_map]; rfl
  refine wpAny_bind (collect_set (A := X.A.in1) (I.ok.hd hcm) ⟨ob, hob, hex.1, hdat⟩ R.fits (by unfold scanBound; omega) R.tab.ris R.led fun s1 vs keep1 hlow eg eos pm => ?_)
  obtain ⟨L1, hL1, rfl⟩ := perm_back (f := fun q : Addr × List Int => Value.ref q.1) pm L rows
  have hlenv : (L1.map fun q => Value.ref q.1).length < 64 := by rw [List.length_map, hL1.length_eq]; exact few
  refine wpAny_bind (wpAny_newList ?_ (by rw [sizeLine_eq]; omega))
  have newAt : (s1.heap.push (seqObj "list" (L1.map fun q => Value.ref q.1).toArray 0)).get? s1.heap.objs.size = some (seqObj "list" (L1.map fun q => Value.ref q.1).toArray 0) := Heap.get?_push_size _ rfl
  have kp2 : ∀ b o, s.heap.get? b = some o → (s1.heap.push (seqObj "list" (L1.map fun q => Value.ref q.1).toArray 0)).get? b = some o := fun b o e => Heap.get?_push_of_some _ (keep1 b o e)
  have tups : ∀ p ∈ L1, ∃ (o : Obj) (its : Array Value) (n : Nat), (s1.heap.push (seqObj "list" (L1.map fun q => Value.ref q.1).toArray 0)).get? p.1 = some o ∧ o.cls = .type "tuple" ∧ o.data = .seq its n ∧ IntsAre its.toList p.2 := fun p hp => by
    obtain ⟨o, its, n, e1, e2, e3, e4⟩ := R.tup p (hL1.mem_iff.mp hp)
    exact ⟨o, its, n, kp2 _ _ e1, e2, e3, ints_of_items e4⟩
  obtain ⟨ev, er⟩ := each_refs L1 tups
  refine wpAny_bind (wpAny_holding (list_sort_data (s := { s1 with heap := s1.heap.push (seqObj "list" (L1.map fun q => Value.ref q.1).toArray 0) }) (R := fun v b => v = Value.ref b.1) (enc := encT) newAt ev (er _)
    (AllAlike.of fun b b' => by show alike (.tuple (b.2.map PyData.int)) (.tuple (b'.2.map PyData.int)) = true; rw [alike]; exact alike_ints _ _) (sortable_all fun p hp => (hT p (hL1.mem_iff.mp hp)).2)
    (by have := hL1.length_eq; rw [sizeLine_eq]; omega) (fun b _ => ?_) fun out hout eo => ?_))
  · have hd1 : (encT b).depth ≤ 1 := by
      show (PyData.tuple (b.2.map PyData.int)).depth ≤ 1
      rw [PyData.depth, depth_ints]
      exact Nat.le_refl 1
    show X.A.units + 1 + 1 + (encT b).depth < cLine
    omega
  · have hL2 : (L1.mergeSort (dataLe false encT)).Perm L := (List.mergeSort_perm _ _).trans hL1
    have hP : (L1.mergeSort (dataLe false encT)).Pairwise (fun x y => x.2 ≤ y.2) := by
      have := List.pairwise_mergeSort (le := dataLe false encT) (fun x y z h1 h2 => by
        rw [le_encT, decide_eq_true_eq] at h1 h2 ⊢
        exact List.le_trans h1 h2) (fun x y => by
        rw [le_encT, le_encT, Bool.or_eq_true, decide_eq_true_eq, decide_eq_true_eq]
        exact List.le_total _ _) L1
      exact this.imp fun {x y} h => by rw [le_encT, decide_eq_true_eq] at h; exact h
    obtain ⟨ce, hce⟩ := sortedHeap_at (vs := L1.map fun q => Value.ref q.1) (out := out.toArray) newAt
    refine wpAny_pure ⟨_, rfl, ?_⟩
    have old : ∀ b o, s.heap.get? b = some o → (sortedHeap (s1.heap.push (seqObj "list" (L1.map fun q => Value.ref q.1).toArray 0)) s1.heap.objs.size (L1.map fun q => Value.ref q.1) out.toArray).get? b = some o := fun b o e => by
      have lt := Heap.lt_size (keep1 b o e)
      rw [sortedHeap_old (Nat.ne_of_lt lt) (by rw [size_push']; exact Nat.lt_succ_of_lt lt)]
      exact kp2 b o e
    have hn : H s1.heap.objs.size = none := I.hok.fresh hlow
    have hlen : ((L1.mergeSort (dataLe false encT)).map fun q => V.ref q.1).length ≤ sizeLine := by rw [List.length_map, hL2.length_eq, sizeLine_eq]; omega
    have J : Inv X pins σ (upd H s1.heap.objs.size (.lst ((L1.mergeSort (dataLe false encT)).map fun q => V.ref q.1))) { s with heap := sortedHeap (s1.heap.push (seqObj "list" (L1.map fun q => Value.ref q.1).toArray 0)) s1.heap.objs.size (L1.map fun q => Value.ref q.1) out.toArray, gens := s1.gens, drawn := s1.drawn, toks := s1.toks } :=
      I.call (ch := []) (Un.laid old hlow hn) (I.hok.laid old hlow ⟨hlen, out, ce, vals_of_each eo, hce⟩) (by rw [eg]; exact I.bare) (fun _ z => nomatch z)
    have es1 : ({ s1 with heap := sortedHeap (s1.heap.push (seqObj "list" (L1.map fun q => Value.ref q.1).toArray 0)) s1.heap.objs.size (L1.map fun q => Value.ref q.1) out.toArray } : Shared) = { s with heap := sortedHeap (s1.heap.push (seqObj "list" (L1.map fun q => Value.ref q.1).toArray 0)) s1.heap.objs.size (L1.map fun q => Value.ref q.1) out.toArray, gens := s1.gens, drawn := s1.drawn, toks := s1.toks } := by
      cases s1
      cases s
      cases eos
      rfl
    rw [es1]
    exact ⟨.ref _, _, J, rfl, hq _ _ hL2 ((hL2.map (·.2)).nodup_iff.mpr R.nd) (by rw [hL2.length_eq]; exact few) hP hn⟩
end
end ST
end

section
set_option Elab.async false
set_option linter.all false
set_option maxRecDepth 100000
set_option maxHeartbeats 4000000
/-! min(..) of a list of tuples of whole numbers. -/
namespace ST
open PySem PySem.Spec PyProof.Rows L2 PySem.W
theorem lt_encT (p q : Addr × List Int) : dataLt (encT p) (encT q) = decide (p.2 < q.2) := by
  show dataLt (.tuple (p.2.map PyData.int)) (.tuple (q.2.map PyData.int)) = _
  rw [dataLt_tuple]
  show rowLt (p.2.map PyData.int) (q.2.map PyData.int) = _
  exact dataLt_ints _ _
theorem minD_is : ∀ (L : List (Addr × List Int)) (p : Addr × List Int), ∃ q ∈ p :: L, minD (encT p) (L.map encT) = encT q ∧ ∀ r ∈ p :: L, q.2 ≤ r.2 := by
  have key : ∀ (L : List (Addr × List Int)) (p : Addr × List Int), ∃ q ∈ p :: L, (L.map encT).foldl (fun a y => if dataLt y a = true then y else a) (encT p) = encT q ∧ ∀ r ∈ p :: L, q.2 ≤ r.2 := by
    intro L
    induction L with
    | nil => exact fun p => ⟨p, by simp, rfl, fun r hr => by rw [List.mem_singleton.mp hr]; exact List.le_refl _⟩
    | cons x L ih =>
      intro p
      rw [List.map_cons, List.foldl_cons, lt_encT]
      by_cases h : x.2 < p.2
      · rw [decide_eq_true h, if_pos rfl]
        obtain ⟨q, hq, e, hle⟩ := ih x
        refine ⟨q, List.mem_cons_of_mem _ hq, e, fun r hr => ?_⟩
        rcases List.mem_cons.mp hr with z | z
        · rw [z]
          exact List.le_trans (hle x (by simp)) (List.not_lt.mp fun y => List.lt_irrefl _ (List.lt_trans h y))
        · exact hle r z
      · rw [decide_eq_false h, if_neg (by decide)]
        obtain ⟨q, hq, e, hle⟩ := ih p
        refine ⟨q, ?_, e, fun r hr => ?_⟩
        · rcases List.mem_cons.mp hq with z | z
          · rw [z]; simp
          · exact List.mem_cons_of_mem _ (List.mem_cons_of_mem _ z)
        · rcases List.mem_cons.mp hr with z | z
          · rw [z]; exact hle p (by simp)
          · rcases List.mem_cons.mp z with y | y
            · rw [y]; exact List.le_trans (hle p (by simp)) (List.not_lt.mp h)
            · exact hle r (List.mem_cons_of_mem _ y)
  intro L p
  exact key L p
def rMinTu (K : PySem.W.Frag) : List V → Hp → VK → Prop := fun vs H Q => ∃ (a : Addr) (p : Addr × List Int) (L : List (Addr × List Int)), vs = [V.ref a] ∧ SqL K H a ((p :: L).map fun p => V.ref p.1) ∧ (∀ q ∈ p :: L, SqT K H q.1 (q.2.map V.int)) ∧
  ∀ q ∈ p :: L, (∀ r ∈ p :: L, q.2 ≤ r.2) → Q (.ref q.1) H
section
variable {X : Cx}
theorem ints_fun {vs : List Value} {a b : List Int} (h : IntsAre vs a) (h' : IntsAre vs b) : a = b := by
  rw [← SrtO.iv_ints h, SrtO.iv_ints h']
theorem cr_minTu (hcm : X.calm = true) (hun : X.A.units + 64 < cLine) : CallR X (.builtin "min") (rMinTu X.K) := by
  intro pins s σ H vs us Q I r h
  obtain ⟨a, p, L, rfl, hs, hT, hq⟩ := h
  obtain ⟨its, rv, hl, hz⟩ := I.list hs
  rw [Vals.ref1 r]
  obtain ⟨e1, e2⟩ := each_of I (p :: L) its rv hT
  obtain ⟨as, hr⟩ := each_readsAll encT e2
  have dep : PyData.depthAll ((p :: L).map encT) ≤ 1 := by
    have : ∀ M : List (Addr × List Int), PyData.depthAll (M.map encT) ≤ 1 := fun M => by
      induction M with
      | nil => simp [PyData.depthAll]
      | cons q M ih =>
        rw [List.map_cons, PyData.depthAll]
        have : (encT q).depth ≤ 1 := by
          show (PyData.tuple (q.2.map PyData.int)).depth ≤ 1
          rw [PyData.depth, depth_ints]
          exact Nat.le_refl 1
        omega
    exact this _
  have alk : AlikeAll ((p :: L).map encT) := by
    refine ⟨AllAlike.of fun b b' => ?_, fun d hd z => ?_⟩
    · show alike (.tuple (b.2.map PyData.int)) (.tuple (b'.2.map PyData.int)) = true
      rw [alike]
      exact alike_ints _ _
    · obtain ⟨b, _, rfl⟩ := List.mem_map.mp hd
      cases z
  refine min_list_data (x := encT p) (xs := L.map encT) (I.ok.hd hcm) hl.isList (by simpa using hr) alk (by have := dep; simp only [List.map_cons] at this; omega) fun i v h' tk bs hv hrd kp => ?_
  · obtain ⟨q, hqm, eq, hle⟩ := minD_is L p
    rw [eq] at hrd
    obtain ⟨z, hzm, ez⟩ : ∃ z ∈ p :: L, v = Value.ref z.1 := by
      have hv2 : its[i]? = some v := by simpa using hv
      obtain ⟨hi, ei⟩ := List.getElem?_eq_some_iff.mp hv2
      have hlen : its.length = (p :: L).length := by rw [← rv.length, List.length_map]
      have hi2 : i < (p :: L).length := by omega
      have hx : ((p :: L).map fun p => V.ref p.1)[i]? = some (.ref ((p :: L)[i]).1) := by rw [List.getElem?_map, List.getElem?_eq_getElem hi2]; rfl
      obtain ⟨w', ew, rw'⟩ := rv.get hx
      rw [hv2] at ew
      cases ew
      exact ⟨_, List.getElem_mem hi2, rw'⟩
    subst ez
    have hz2 : z.2 = q.2 := by
      obtain ⟨its2, r2, p2, _⟩ := I.tuple (hT z hzm)
      have i2 : IntsAre its2.toArray.toList z.2 := intsAre_of r2
      obtain ⟨o, ho, hc, n, hd⟩ := p2
      have ho' := kp _ _ ho
      cases hrd with
      | tuple g1 g2 g3 g4 =>
        rw [ho'] at g1
        cases g1
        rw [hd] at g3
        cases g3
        exact ints_fun i2 (readsAll_intsAre g4).1
    have I1 : Inv X pins σ H { s with heap := h', toks := tk } := I.kept kp
    exact ⟨.ref z.1, H, I1, rfl, hq z hzm fun r hr => by rw [hz2]; exact hle r hr⟩
end
end ST
end

section
set_option Elab.async false
set_option linter.all false
set_option maxRecDepth 100000
set_option maxHeartbeats 4000000
/-! More rules in which the written part is named. -/
namespace K00
open PySem PySem.Spec PyProof.Rows L2 GX GxR PG C8 ST
section
variable {X : Cx} {K : PySem.W.Frag}
theorem eqDK (hK : X.K = K) (hu : X.A.units + 64 < cLine) : OpR X (compareOp .Eq) (rEqD K) := by subst hK; exact op_eqD hu
theorem neDK (hK : X.K = K) (hu : X.A.units + 64 < cLine) : OpR X (compareOp .NotEq) (rNeD K) := by subst hK; exact op_neD hu
theorem inK2 (hK : X.K = K) : OpR X (compareOp .In) (rIn K false) := by subst hK; exact op_in_seq
theorem notInK (hK : X.K = K) : OpR X (compareOp .NotIn) (rIn K true) := by subst hK; exact op_notIn_seq
theorem slLK (hK : X.K = K) : SlR X (rSlL K) := by subst hK; exact sl_list
def rLstOf (K : PySem.W.Frag) : List V → Hp → VK → Prop := fun xs H Q => ∃ p ys, xs = [.ref p] ∧ (SqL K H p ys ∨ SqT K H p ys) ∧ ∀ l, H l = none → Q (.ref l) (upd H l (.lst ys))
theorem lstofK (hK : X.K = K) : CallR X (.type "list") (rLstOf K) := by subst hK; exact call_list_of
def noW : WX := fun _ _ _ _ => False
theorem takes_no : Takes X noW := fun _ _ ⟨_, _, _, _, _, _, _, _, _, _, _, _, _, _, _, _, h⟩ => h.elim
end
end K00
end

section
set_option Elab.async false
set_option linter.all false
set_option maxRecDepth 100000
set_option maxHeartbeats 4000000
/-! The law of the bars. -/
namespace K00
open PySem PySem.Spec PyProof.Rows L2 GX GxR PG C8 ST FM
section
variable {P : Program} {w : World} {K : PySem.W.Frag} {mg : Str → Option Value} {base : Heap}
def nLaw : List Str := ["script", "row", "size", "some", "turn", "bags", "bag", "missing", "bead", "two", "other", "one", "group", "at", "left", "ties", "due"]
def spLaw (K : PySem.W.Frag) : Sp := fun vs H Q _ => ∃ (a : Addr) (ns : List Int), vs = [.ref a] ∧ SqL K H a (ns.map V.int) ∧ Tabs (tabs K) H ∧ ∀ H', Q (.bl true) H'
theorem sc_law : FnScope nLaw ["script"] (defScope (top p_law)) := fnScope_by (by decide +kernel)
end
end K00
end

section
set_option Elab.async false
set_option linter.all false
set_option maxRecDepth 100000
set_option maxHeartbeats 4000000
/-! The law of the bars: its last rows, what is due. -/
namespace K00
open PySem PySem.Spec PyProof.Rows L2 GX GxR PG C8 ST FM
theorem eqv_nil_ints (l : List Nat) : PyData.eqv (.list (l.map fun (n : Nat) => PyData.int (n : Int))) (.list []) = decide (l = []) := by
  rw [PyData.eqv]
  exact eqvAll_nats l []
theorem int_lay : ∀ l : List Int, PyData.canLayAll0 (l.map PyData.int) = true
  | [] => by simp [PyData.canLayAll0]
  | x :: r => by
    rw [List.map_cons, PyData.canLayAll0, int_lay r]
    simp [PyData.canLay0]
theorem tup_lay : ∀ l : List (Addr × List Int), PyData.canLayAll0 (l.map fun z => PyData.tuple (z.2.map PyData.int)) = true
  | [] => by simp [PyData.canLayAll0]
  | x :: r => by
    rw [List.map_cons, PyData.canLayAll0, tup_lay r, PyData.canLay0, int_lay]
    rfl
theorem tup_depth : ∀ l : List (Addr × List Int), PyData.depthAll (l.map fun z => PyData.tuple (z.2.map PyData.int)) ≤ 1
  | [] => by simp [PyData.depthAll]
  | x :: r => by
    have h := tup_depth r
    rw [List.map_cons, PyData.depthAll]
    have : (PyData.tuple (x.2.map PyData.int)).depth ≤ 1 := by
      rw [PyData.depth, PySem.W.depth_ints]
      exact Nat.le_refl 1
    omega
theorem shaped_tups (l : List (Addr × List Int)) : SeqAt.shaped (.list (l.map fun z => PyData.tuple (z.2.map PyData.int))) = true := by
  unfold SeqAt.shaped
  have h := tup_depth l
  rw [PyData.canLay0, tup_lay l, PyData.depth]
  simp
  omega
theorem miss_full {ms : List Nat} {k : Nat} (h : Miss ms k) (f : Full ms) : False := by
  have := f k h.1
  rw [h.2.1] at this
  cases this
theorem miss_uniq {ms : List Nat} {k k' : Nat} (h : Miss ms k) (h' : Miss ms k') : k = k' := by
  rcases Nat.lt_trichotomy k k' with q | q | q
  · have := h'.2.2 k q
    rw [h.2.1] at this
    cases this
  · exact q
  · have := h.2.2 k' q
    rw [h'.2.1] at this
    cases this
theorem dbl_no {ms : List Nat} {i j : Nat} (h : Dbl ms i j) (f : NoDbl ms) : False := f i j h.1 h.2.1 h.2.2.1
theorem dbl_uniq {ms : List Nat} {i j i' j' : Nat} (h : Dbl ms i j) (h' : Dbl ms i' j') : i = i' ∧ j = j' := by
  obtain ⟨a1, a2, a3, a4⟩ := h
  obtain ⟨b1, b2, b3, b4⟩ := h'
  have e1 := a4 i' j' b1 b2
  have e2 := b4 i j a1 a2
  rcases Nat.lt_trichotomy j j' with q | q | q
  · exact absurd a3 (e2 (.inl q))
  · subst q
    rcases Nat.lt_trichotomy i i' with z | z | z
    · exact absurd a3 (e2 (.inr ⟨rfl, z⟩))
    · exact ⟨z, rfl⟩
    · exact absurd b3 (e1 (.inr ⟨rfl, z⟩))
  · exact absurd b3 (e1 (.inl q))
theorem bar_uniq {ms : List Nat} {a b : Ans} (ha : Bar ms a) (hb : Bar ms b) : a = b := by
  have ap : ∀ {l : List Nat}, (∃ m0 J, ms[0]? = some m0 ∧ FM.Hung ms m0 J ∧ l = joins ms J ∧ l.length < ms.length) → Joined ms → False := by
    rintro l ⟨m0, J, h1, h2, rfl, h4⟩ ⟨m0', J', g1, g2, g3⟩
    rw [h1] at g1
    cases g1
    have e := h2.uniq g2
    subst e
    exact g3 h4
  cases a with
  | bead k =>
    cases b with
    | bead k' => rw [miss_uniq ha hb]
    | two => exact (miss_full ha hb.1).elim
    | apart => exact (miss_full ha hb.1).elim
    | ring => exact (miss_full ha hb.1).elim
    | fam => exact (miss_full ha hb.1).elim
  | two i j =>
    cases b with
    | bead k' => exact (miss_full hb ha.1).elim
    | two i' j' => obtain ⟨e1, e2⟩ := dbl_uniq ha.2 hb.2; rw [e1, e2]
    | apart => exact (dbl_no ha.2 hb.2.1).elim
    | ring => exact (dbl_no ha.2 hb.2.1).elim
    | fam => exact (dbl_no ha.2 hb.2.1).elim
  | apart l =>
    cases b with
    | bead k' => exact (miss_full hb ha.1).elim
    | two i' j' => exact (dbl_no hb.2 ha.2.1).elim
    | apart l' =>
      obtain ⟨_, _, m0, J, h1, h2, h3, _⟩ := ha
      obtain ⟨_, _, m0', J', g1, g2, g3, _⟩ := hb
      rw [h1] at g1
      cases g1
      have e := h2.uniq g2
      subst e
      rw [h3, g3]
    | ring => exact (ap ha.2.2 hb.2.2.1).elim
    | fam => exact (ap ha.2.2 hb.2.2.1).elim
  | ring l =>
    cases b with
    | bead k' => exact (miss_full hb ha.1).elim
    | two i' j' => exact (dbl_no hb.2 ha.2.1).elim
    | apart l' => exact (ap hb.2.2 ha.2.2.1).elim
    | ring l' => rw [ha.2.2.2.1.uniq hb.2.2.2.1]
    | fam => exact (ha.2.2.2.2 (ha.2.2.2.1.uniq hb.2.2.2)).elim
  | fam =>
    cases b with
    | bead k' => exact (miss_full hb ha.1).elim
    | two i' j' => exact (dbl_no hb.2 ha.2.1).elim
    | apart l' => exact (ap hb.2.2 ha.2.2.1).elim
    | ring l' => exact (hb.2.2.2.2 (hb.2.2.2.1.uniq ha.2.2.2)).elim
    | fam => rfl
section
variable {P : Program} {w : World} {K : PySem.W.Frag} {mg : Str → Option Value} {base : Heap}
theorem like_ints {H : Hp} {a b : Addr} {l : List Nat} (h1 : SqT K H a (bagV l)) (h2 : SqT K H b (bagV l)) (hl : l.length ≤ small) (n : Nat) : Like K H (n + 1) (.ref a) (.ref b) := by
  refine .inr ⟨a, b, _, _, rfl, rfl, h1, h2, rfl, by rw [bagV_len]; exact hl, fun i u v g1 g2 => ?_⟩
  rw [g1] at g2
  cases g2
  obtain ⟨k, _, rfl⟩ := get_bagV g1
  exact Like.leaf (.int _) n
theorem like_pair {H : Hp} {a b : Addr} {xs ys : List V} (h1 : H a = some (.tup xs)) (h2 : H b = some (.tup ys)) (hlen : xs.length = ys.length) (hl : ys.length ≤ 3) {n : Nat} (h : ∀ (i : Nat) u v, xs[i]? = some u → ys[i]? = some v → Like K H n u v) : Like K H (n + 1) (.ref a) (.ref b) :=
  .inr ⟨a, b, xs, ys, rfl, rfl, SqT.of h1, SqT.of h2, hlen, Nat.le_trans hl (by decide), h⟩
/-- what the law counted before -/
structure Counted (H : Hp) (ms ml : List Nat) (tl : List (Addr × List Int)) (gl ll : List Nat) : Prop where
  m0 : ml = [] → Full ms
  m1 : ∀ k l, ml = k :: l → Miss ms k
  t0 : tl = [] → NoDbl ms
  t1 : ∀ z ∈ tl, (∀ y ∈ tl, z.2 ≤ y.2) → ∃ i j : Nat, z.2 = [(j : Int), (i : Int)] ∧ Dbl ms i j
  tt : ∀ z ∈ tl, H z.1 = some (.tup (z.2.map V.int))
  tw : ∀ z ∈ tl, ∃ i j : Int, z.2 = [j, i]
  g : ∃ a J, ms[0]? = some a ∧ FM.Hung ms a J ∧ gl.Perm (joins ms J)
  l : FM.Great ms ll
theorem partC (T : Txt K mg base) {A : Around} {outer : List Env} {s : Shared} {H0 : Hp} {E : XK} (hr : Room 12 (A.deeper (envOfC "law" (dd "law" p_law).scope s.heap.objs.size (He.ga K "law") (.ref (cA K "law"))))) :
    ∃ t, PSs (cxOf C8.CX0 P w K mg base nLaw "law" (dd "law" p_law).scope (He.ga K "law") (.ref (cA K "law")) A outer s H0 E).nox ((dd "law" p_law).body.drop 13) t ∧
      ∀ (Q : VK) (H : Hp) (bs : List (List Nat)) (ml : List Nat) (tl : List (Addr × List Int)) (gl ll : List Nat) (v : V) (pm pt pg pl : Addr) (s0 s1 s2 s3 s4 s6 s8 s10 s11 s13 s15 s16 : Option V),
        IsBs K H v bs → Bags bs → Tabs (tabs K) H → H pm = some (.lst (bagV ml)) → H pt = some (.lst (tl.map fun z => V.ref z.1)) → H pg = some (.lst (bagV gl)) → H pl = some (.lst (bagV ll)) → Counted H (bs.map FM.mask) ml tl gl ll → (∀ H', Q (.bl true) H') →
        t { nx := fun _ H' => Q .non H', rt := Q } [s0, s1, s2, s3, s4, some v, s6, some (.ref pm), s8, some (.ref pt), s10, s11, some (.ref pg), s13, some (.ref pl), s15, s16] H := by
  have Ca := c_alikeG (P := P) (w := w) T 2
  have Cb := c_barfG (P := P) (w := w) T
  have Ci := c_isfamG (P := P) (w := w) T
  refine ⟨_, pss_cons (ps_set (i := 16) sc_law.nd rfl (.inl rfl) pe_non)
    (pss_cons (ps_if (pt_cmpR (op_neD (room64 hr)) (pv 7) (pe_lst pa_nil) (nomark _))
        (pss_one (ps_set (i := 16) sc_law.nd rfl (.inl rfl) (pe_tup (pa_cons pe_str (pa_cons (pe_ix ix_list (pv 7) pe_int (fun _ _ => rfl)) pa_nil)))))
      (pss_one (ps_if (pt_cmpR (op_neD (room64 hr)) (pv 9) (pe_lst pa_nil) (nomark _))
        (pss_one (ps_set (i := 16) sc_law.nd rfl (.inl rfl) (pe_tup (pa_cons pe_str (pa_cons (pe_ix ix_tup (pe_callB (cr_minTu rfl (room64 hr)) rfl T.n PyProof.Rows.boot_min (pa_cons (pv 9) pa_nil)) pe_int (fun _ _ => rfl))
          (pa_cons (pe_ix ix_tup (pe_callB (cr_minTu rfl (room64 hr)) rfl T.n PyProof.Rows.boot_min (pa_cons (pv 9) pa_nil)) pe_int (fun _ _ => rfl)) pa_nil))))))
      (pss_one (ps_if (pt_cmpR op_lt (pe_callB (lenK (K := K) rfl) rfl T.n PySem.boot_len (pa_cons (pv 12) pa_nil)) (pe_callB (lenK (K := K) rfl) rfl T.n PySem.boot_len (pa_cons (pv 5) pa_nil)) (nomark _))
        (pss_one (ps_set (i := 16) sc_law.nd rfl (.inl rfl) (pe_tup (pa_cons pe_str (pa_cons (pe_callTy (tupofK (K := K) rfl) rfl T.n (by decide +kernel) (pa_cons (pe_callB (sortIK (K := K) rfl) rfl T.n PyProof.Rows.boot_sorted (pa_cons (pv 12) pa_nil)) pa_nil)) pa_nil)))))
      (pss_one (ps_if (pt_cmpR (op_neD (room64 hr)) (pv 14) (pe_lst pa_nil) (nomark _))
        (pss_one (ps_set (i := 16) sc_law.nd rfl (.inl rfl) (pe_tup (pa_cons pe_str (pa_cons (pe_callTy (tupofK (K := K) rfl) rfl T.n (by decide +kernel) (pa_cons (pv 14) pa_nil)) pa_nil))))) pss_nil)))))))
    (pss_one (ps_ret (pe_and (pe_c Ca hr (by decide) rfl (pa_cons (pe_c Cb hr (by decide) rfl (pa_cons (pv 5) pa_nil)) (pa_cons (pv 16) pa_nil)))
      (pe_one (pe_c Ca hr (by decide) rfl (pa_cons (pe_c Ci hr (by decide) rfl (pa_cons (pv 5) pa_nil)) (pa_cons (pe_cmpR op_isN (pv 16) pe_non (nomark _)) pa_nil)))))))), ?_⟩
  intro Q H bs ml tl gl ll v pm pt pg pl s0 s1 s2 s3 s4 s6 s8 s10 s11 s13 s15 s16 hB G hT hm ht hg hl C hQ
  -- the last row, once what is due stands
  have fin : ∀ (H1 : Hp) (a : Ans) (u : V), Ext (tabs K) H H1 → Bar (bs.map FM.mask) a → decide (u = V.non) = a.good → (∀ H2 v', Ext (tabs K) H1 H2 → AnsV K H2 v' a → Like K H2 2 v' u) →
      tRet (tAndV (tCall (spAlikeG 2 K) [] C8.E0 (tCons (tCall (spBarG K) [] C8.E0 (tCons (tVar 5) tNil)) (tCons (tVar 16) tNil)))
        (tCall (spAlikeG 2 K) [] C8.E0 (tCons (tCall (spIsG K) [] C8.E0 (tCons (tVar 5) tNil)) (tCons (tOp (fun x y H Q => y = .non ∧ Q (.bl (decide (x = .non))) H) (tVar 16) (tC .non)) tNil))))
        { nx := fun _ H' => Q .non H', rt := Q } [s0, s1, s2, s3, s4, some v, s6, some (.ref pm), s8, some (.ref pt), s10, s11, some (.ref pg), s13, some (.ref pl), s15, some u] H1 := by
    intro H1 a u e1 ha hgood hlike
    refine ⟨_, rfl, v, bs, rfl, hB.ext e1, G, e1.tabs, fun a' H2 v' ha' e2 hv' => ?_⟩
    have ea := bar_uniq ha' ha
    subst ea
    refine ⟨_, rfl, v', u, rfl, hlike H2 v' e2 hv', e2.tabs, fun H3 e3 => ⟨_, rfl, iteT ?_⟩⟩
    refine ⟨_, rfl, v, bs, rfl, hB.ext ((e1.trans e2).trans e3), G, e3.tabs, fun a'' H4 ha'' e4 => ?_⟩
    have ea := bar_uniq ha'' ha
    subst ea
    refine ⟨_, rfl, rfl, _, _, rfl, ?_, e4.tabs, fun H5 _ => hQ H5⟩
    show Like K H4 2 (.bl a''.good) (.bl (decide (u = V.non)))
    rw [hgood]
    exact Like.leaf (.bl _) 2
  -- missing
  have n1 : ∀ q, H q = none → Ext (tabs K) H (upd H q (.lst [])) := fun q hq => Ext.new hT hq
  refine ⟨_, rfl, Nat.zero_le _, fun q1 hq1 => ?_⟩
  have e1 := n1 q1 hq1
  have hm1 := e1.lst hm
  refine ⟨_, _, .lst (SqL.of hm1) (dp_bagV ml), .lst (SqL.of upd_same) .nil, shaped_nats ml, rfl, _, rfl, ?_⟩
  rw [eqv_nil_ints]
  cases eml : ml with
  | cons k l =>
    rw [eml] at hm1
    refine iteT ⟨_, rfl, pm, _, _, _, rfl, rfl, SqL.of hm1, atI_nat (j := 0) rfl, small_line (n := 2) (by decide), fun t ht => ?_⟩
    have e2 := e1.trans (Ext.new (o := .tup [.str "bead", .int (k : Int)]) e1.tabs ht)
    refine fin _ (.bead k) (.ref t) e2 (C.m1 k l eml) rfl fun H2 v' e3 hv => ?_
    obtain ⟨t', rfl, ht'⟩ := hv
    refine like_pair ht' (e3.tup upd_same) rfl (by simp) fun i u u' g1 g2 => ?_
    rw [g1] at g2
    cases g2
    match i, g1 with
    | 0, g1 => cases g1; exact Like.leaf (.str _) 1
    | 1, g1 => cases g1; exact Like.leaf (.int _) 1
  | nil =>
  refine iteF ?_
  have hfull := C.m0 eml
  -- two
  refine ⟨_, rfl, Nat.zero_le _, fun q2 hq2 => ?_⟩
  have e2 := e1.trans (Ext.new (o := .lst []) e1.tabs hq2)
  have ht2 := e2.lst ht
  have hdp : ∀ M : List (Addr × List Int), (∀ z ∈ M, upd (upd H q1 (.lst [])) q2 (.lst []) z.1 = some (.tup (z.2.map V.int))) → DpAll K (upd (upd H q1 (.lst [])) q2 (.lst [])) (M.map fun z => V.ref z.1) (M.map fun z => PyData.tuple (z.2.map PyData.int)) := by
    intro M hM
    induction M with
    | nil => exact .nil
    | cons z M ih =>
      have hz := hM z List.mem_cons_self
      have hin : ∀ l : List Int, DpAll K (upd (upd H q1 (.lst [])) q2 (.lst [])) (l.map V.int) (l.map PyData.int) := fun l => by
        induction l with
        | nil => exact .nil
        | cons x l ih => exact .cons (.int _) ih
      exact .cons (.tup (SqT.of hz) (hin _)) (ih fun y hy => hM y (List.mem_cons_of_mem _ hy))
  have hsh := shaped_tups tl
  refine ⟨_, _, .lst (SqL.of ht2) (hdp tl fun z hz => e2.tup (C.tt z hz)), .lst (SqL.of upd_same) .nil, hsh, rfl, _, rfl, ?_⟩
  cases etl : tl with
  | cons z0 tl0 =>
    have ev : PyData.eqv (.list ((z0 :: tl0).map fun z => PyData.tuple (z.2.map PyData.int))) (.list []) = false := by rw [PyData.eqv, List.map_cons, PyData.eqvAll]
    rw [ev]
    rw [etl] at ht2
    have hTT : ∀ z ∈ z0 :: tl0, SqT K (upd (upd H q1 (.lst [])) q2 (.lst [])) z.1 (z.2.map V.int) := fun z hz => SqT.of (e2.tup (C.tt z (by rw [etl]; exact hz)))
    refine iteT ⟨_, rfl, pt, z0, tl0, rfl, SqL.of ht2, hTT, fun za hza hla => ?_⟩
    obtain ⟨i, j, eza, hd⟩ := C.t1 za (by rw [etl]; exact hza) (by rw [etl]; exact hla)
    have ha := hTT za hza
    rw [eza] at ha
    refine ⟨za.1, _, 1, _, rfl, rfl, ha, atI_nat (j := 1) rfl, _, rfl, pt, z0, tl0, rfl, SqL.of ht2, hTT, fun zb hzb hlb => ?_⟩
    have eab : zb.2 = za.2 := List.le_antisymm (hlb za hza) (hla zb hzb)
    have hb := hTT zb hzb
    rw [eab, eza] at hb
    refine ⟨zb.1, _, 0, _, rfl, rfl, hb, atI_nat (j := 0) rfl, small_line (n := 3) (by decide), fun t ht => ?_⟩
    have e3 := e2.trans (Ext.new (o := .tup [.str "two", .int (i : Int), .int (j : Int)]) e2.tabs ht)
    refine fin _ (.two i j) (.ref t) e3 ⟨hfull, hd⟩ rfl fun H2 v' e4 hv => ?_
    obtain ⟨t', rfl, ht'⟩ := hv
    refine like_pair ht' (e4.tup upd_same) rfl (by simp) fun i u u' g1 g2 => ?_
    rw [g1] at g2
    cases g2
    match i, g1 with
    | 0, g1 => cases g1; exact Like.leaf (.str _) 1
    | 1, g1 => cases g1; exact Like.leaf (.int _) 1
    | 2, g1 => cases g1; exact Like.leaf (.int _) 1
  | nil =>
  have hno := C.t0 etl
  have ev : PyData.eqv (.list (([] : List (Addr × List Int)).map fun z => PyData.tuple (z.2.map PyData.int))) (.list []) = true := by rw [PyData.eqv]; rfl
  rw [ev]
  refine iteF ?_
  -- apart
  obtain ⟨a0, J, ha0, hJ, hgp⟩ := C.g
  have hjl : (joins (bs.map FM.mask) J).length ≤ small := by
    have h1 := List.length_filter_le (fun k => decide ((bs.map FM.mask).getD k 0 &&& J ≠ 0)) (List.range (bs.map FM.mask).length)
    rw [List.length_range] at h1
    have h2 : (joins (bs.map FM.mask) J).length ≤ (bs.map FM.mask).length := h1
    rw [List.length_map] at h2
    exact Nat.le_trans h2 G.few
  obtain ⟨vt, xs, rfl, hSv, hEv⟩ := hB.ext e2
  refine ⟨_, rfl, _, gl.length, rfl, .inl ⟨_, SqL.of (e2.lst hg), bagV_len.symm⟩, _, rfl, _, bs.length, rfl, .inr ⟨_, hSv, hEv.len.symm⟩, _, _, rfl, rfl, _, rfl, ?_⟩
  have hll : ll.length ≤ small := by
    have h1 := C.l.sub.length_le
    rw [List.length_range, List.length_map] at h1
    exact Nat.le_trans h1 G.few
  refine ite2 (fun z => ?_) fun z => ?_
  · have z := of_decide_eq_true z
    refine ⟨_, rfl, pg, natI gl, rfl, by rw [natI_V]; exact SqL.of (e2.lst hg), fun ns p hp1 hp2 hpn => ?_⟩
    have ens : ns = natI (joins (bs.map FM.mask) J) := by
      refine sorted_uniq (hp1.trans (hgp.map fun (k : Nat) => (k : Int))) hp2 ?_
      unfold natI
      rw [List.pairwise_map]
      have pr : (List.range (bs.map FM.mask).length).Pairwise (· < ·) := List.pairwise_lt_range
      exact (List.Pairwise.sublist (List.filter_sublist) pr).imp fun h => by omega
    subst ens
    have e3 := e2.trans (Ext.new (o := .lst ((natI (joins (bs.map FM.mask) J)).map V.int)) e2.tabs hpn)
    refine ⟨p, _, rfl, .inl ⟨SqL.of upd_same, fun l hln => ⟨small_line (n := 2) (by decide), fun t ht => ?_⟩⟩⟩
    have n4 := Ext.new (o := .tup ((natI (joins (bs.map FM.mask) J)).map V.int)) e3.tabs hln
    have n5 := Ext.new (o := .tup [.str "apart", .ref l]) n4.tabs ht
    have hlt := n5.tup (xs := (natI (joins (bs.map FM.mask) J)).map V.int) upd_same
    refine fin _ (.apart (joins (bs.map FM.mask) J)) (.ref t) ((e3.trans n4).trans n5) ⟨hfull, hno, a0, J, ha0, hJ, rfl, by have := hgp.length_eq; rw [List.length_map]; omega⟩ rfl fun H2 v' e6 hv => ?_
    obtain ⟨t', q', rfl, ht', hq'⟩ := hv
    refine like_pair ht' (e6.tup upd_same) rfl (by simp) fun i u u' g1 g2 => ?_
    match i, g1, g2 with
    | 0, g1, g2 => cases g1; cases g2; exact Like.leaf (.str _) 1
    | 1, g1, g2 => cases g1; cases g2; exact like_ints (SqT.of hq') (by rw [← natI_V]; exact SqT.of (e6.tup hlt)) hjl 0
  have hjoin : Joined (bs.map FM.mask) := ⟨a0, J, ha0, hJ, fun y => z (decide_eq_true (by have := hgp.length_eq; rw [List.length_map] at y; omega))⟩
  -- ring
  refine ⟨_, rfl, Nat.zero_le _, fun q3 hq3 => ?_⟩
  have e3 := e2.trans (Ext.new (o := .lst []) e2.tabs hq3)
  have hl3 := e3.lst hl
  refine ⟨_, _, .lst (SqL.of hl3) (dp_bagV ll), .lst (SqL.of upd_same) .nil, shaped_nats ll, rfl, _, rfl, ?_⟩
  rw [eqv_nil_ints]
  cases ell : ll with
  | cons k l =>
    rw [ell] at hl3
    refine iteT ⟨_, rfl, pl, _, rfl, .inl ⟨SqL.of hl3, fun l2 hln => ⟨small_line (n := 2) (by decide), fun t ht => ?_⟩⟩⟩
    have n4 := Ext.new (o := .tup (bagV (k :: l))) e3.tabs hln
    have n5 := Ext.new (o := .tup [.str "ring", .ref l2]) n4.tabs ht
    have hlt := n5.tup (xs := bagV (k :: l)) upd_same
    refine fin _ (.ring (k :: l)) (.ref t) ((e3.trans n4).trans n5) ⟨hfull, hno, hjoin, by rw [← ell]; exact C.l, by simp⟩ rfl fun H2 v' e6 hv => ?_
    obtain ⟨t', q', rfl, ht', hq'⟩ := hv
    refine like_pair ht' (e6.tup upd_same) rfl (by simp) fun i u u' g1 g2 => ?_
    match i, g1, g2 with
    | 0, g1, g2 => cases g1; cases g2; exact Like.leaf (.str _) 1
    | 1, g1, g2 => cases g1; cases g2; exact like_ints (SqT.of hq') (SqT.of (e6.tup hlt)) (by rw [← ell]; exact hll) 0
  | nil =>
    refine iteF ?_
    refine fin _ .fam .non e3 ⟨hfull, hno, hjoin, by rw [← ell]; exact C.l⟩ rfl fun H2 v' e6 hv => ?_
    have hv : v' = V.non := hv
    subst hv
    exact Like.leaf .non 2
end
end K00
end

section
set_option Elab.async false
set_option linter.all false
set_option maxRecDepth 100000
set_option maxHeartbeats 4000000
/-! The law of the bars: the bags that are left. -/
namespace K00
open PySem PySem.Spec PyProof.Rows L2 GX GxR PG C8 ST FM
theorem mask_getD {bs : List (List Nat)} {k : Nat} (h : k < bs.length) : (bs.map FM.mask).getD k 0 = FM.mask (bs.getD k []) := by
  rw [List.getD_eq_getElem?_getD, List.getElem?_map, List.getElem?_eq_getElem h, List.getD_eq_getElem?_getD, List.getElem?_eq_getElem h]
  rfl
theorem getD_mem {bs : List (List Nat)} {k : Nat} (h : k < bs.length) : bs.getD k [] ∈ bs := by
  rw [List.getD_eq_getElem?_getD, List.getElem?_eq_getElem h]
  exact List.getElem_mem h
theorem tied_bag {bs : List (List Nat)} (G : Bags bs) {L : List Nat} (hL : ∀ k ∈ L, k < bs.length) {k x : Nat} (hk : k < bs.length) : FM.Tied (bs.map FM.mask) L k x ↔ x ∈ bs.getD k [] ∧ ∃ j ∈ L, j ≠ k ∧ x ∈ bs.getD j [] := by
  have bit : ∀ j, j < bs.length → (((bs.map FM.mask).getD j 0).testBit x = true ↔ x ∈ bs.getD j []) := fun j hj => by
    rw [mask_getD hj, FM.mask_bit _ (G.asc _ (getD_mem hj)), decide_eq_true_eq]
  unfold FM.Tied
  rw [bit k hk]
  constructor
  · rintro ⟨h1, j, hj, h2, h3⟩
    exact ⟨h1, j, hj, h2, (bit j (hL j hj)).mp h3⟩
  · rintro ⟨h1, j, hj, h2, h3⟩
    exact ⟨h1, j, hj, h2, (bit j (hL j hj)).mpr h3⟩
/-- the beads of bag k that another bag of L holds -/
def ties (bs : List (List Nat)) (L : List Nat) (k : Nat) : List Nat := (bs.getD k []).filter fun x => L.any fun o => decide (o ≠ k) && (bs.getD o []).contains x
theorem ties_mem {bs : List (List Nat)} {L : List Nat} {k x : Nat} : x ∈ ties bs L k ↔ x ∈ bs.getD k [] ∧ ∃ j ∈ L, j ≠ k ∧ x ∈ bs.getD j [] := by
  unfold ties
  rw [List.mem_filter, List.any_eq_true]
  constructor
  · rintro ⟨h1, j, hj, h2⟩
    rw [Bool.and_eq_true, decide_eq_true_eq, List.contains_iff_mem] at h2
    exact ⟨h1, j, hj, h2.1, h2.2⟩
  · rintro ⟨h1, j, hj, h2, h3⟩
    exact ⟨h1, j, hj, by rw [Bool.and_eq_true, decide_eq_true_eq, List.contains_iff_mem]; exact ⟨h2, h3⟩⟩
theorem two_len {l : List Nat} (h : FM.Asc l) : 2 ≤ l.length ↔ ∃ x y, x < y ∧ x ∈ l ∧ y ∈ l := by
  constructor
  · intro h2
    match l, h, h2 with
    | x :: y :: l, h, _ => exact ⟨x, y, (List.pairwise_cons.mp h).1 y (by simp), by simp, by simp⟩
  · rintro ⟨x, y, hxy, hx, hy⟩
    match l, hx, hy with
    | [], hx, _ => cases hx
    | [z], hx, hy =>
      have a := List.mem_singleton.mp hx
      have b := List.mem_singleton.mp hy
      omega
    | _ :: _ :: l, _, _ => simp
theorem ties_two {bs : List (List Nat)} (G : Bags bs) {L : List Nat} (hL : ∀ k ∈ L, k < bs.length) {k : Nat} (hk : k < bs.length) : 2 ≤ (ties bs L k).length ↔ FM.Two (bs.map FM.mask) L k := by
  have asc : FM.Asc (ties bs L k) := List.Pairwise.sublist List.filter_sublist (G.asc _ (getD_mem hk))
  rw [two_len asc]
  unfold FM.Two
  constructor
  · rintro ⟨x, y, hxy, hx, hy⟩
    exact ⟨x, y, hxy, (tied_bag G hL hk).mpr (ties_mem.mp hx), (tied_bag G hL hk).mpr (ties_mem.mp hy)⟩
  · rintro ⟨x, y, hxy, hx, hy⟩
    exact ⟨x, y, hxy, ties_mem.mpr ((tied_bag G hL hk).mp hx), ties_mem.mpr ((tied_bag G hL hk).mp hy)⟩
/-- as far as the passes are: what is left holds every set of bags that stays -/
structure Passing (ms : List Nat) (L : List Nat) : Prop where
  sub : L.Sublist (List.range ms.length)
  all : ∀ L' : List Nat, (∀ k ∈ L', k < ms.length) → (∀ k ∈ L', FM.Two ms L' k) → ∀ k ∈ L', k ∈ L
theorem Passing.lt {ms L : List Nat} (h : Passing ms L) : ∀ k ∈ L, k < ms.length := fun k hk => List.mem_range.mp (h.sub.subset hk)
theorem Passing.nd {ms L : List Nat} (h : Passing ms L) : L.Nodup := List.Nodup.sublist h.sub List.nodup_range
theorem Passing.erase {ms L : List Nat} (h : Passing ms L) {k : Nat} (hk : ¬ FM.Two ms L k) : Passing ms (L.erase k) := by
  refine ⟨(List.erase_sublist).trans h.sub, fun L' h1 h2 j hj => ?_⟩
  have hjL := h.all L' h1 h2 j hj
  have hne : j ≠ k := fun e => hk (by rw [← e]; exact (h2 j hj).mono fun i hi => h.all L' h1 h2 i hi)
  exact (h.nd.mem_erase_iff).mpr ⟨hne, hjL⟩
theorem fm_if {α : Type} (p : α → Bool) (f : α → V) (l : List α) : (l.map fun x => if p x = true then some (f x) else none).filterMap id = (l.filter p).map f := by
  induction l with
  | nil => rfl
  | cons x r ih =>
    by_cases e : p x = true
    · rw [List.map_cons, if_pos e, List.filter_cons_of_pos e, List.map_cons, ← ih]
      rfl
    · rw [List.map_cons, if_neg e, List.filter_cons_of_neg e, ← ih]
      rfl
theorem if_get {α : Type} {p : α → Bool} {f : α → V} {l : List α} {i : Nat} {gv : Option V} (h : (l.map fun x => if p x = true then some (f x) else none)[i]? = some gv) : ∃ x, l[i]? = some x ∧ gv = if p x = true then some (f x) else none := by
  rw [List.getElem?_map] at h
  cases q : l[i]? with
  | none => rw [q] at h; cases h
  | some x => rw [q] at h; exact ⟨x, rfl, (Option.some.inj h).symm⟩
theorem natI_erase (L : List Nat) (k : Nat) : (natI L).erase (k : Int) = natI (L.erase k) := by
  induction L with
  | nil => rfl
  | cons x r ih =>
    show ((x : Int) :: natI r).erase (k : Int) = natI ((x :: r).erase k)
    by_cases e : x = k
    · subst e; rw [List.erase_cons_head, List.erase_cons_head]
    · have e2 : ¬ ((x : Int) = (k : Int)) := by omega
      rw [List.erase_cons_tail (by simpa using e2), List.erase_cons_tail (by simpa using e), ih]
      rfl
theorem in_bag2 (x : Nat) (b : List Nat) : inV (.int (x : Int)) (bagV b) = b.contains x := by
  unfold inV bagV
  induction b with
  | nil => rfl
  | cons y r ih =>
    rw [List.map_cons, List.any_cons, ih, List.contains_cons]
    congr 1
    show decide ((y : Int) = (x : Int)) = _
    by_cases e : x = y
    · subst e; simp
    · have : ¬ ((y : Int) = (x : Int)) := by omega
      simp [e, this]
theorem flat_bag (b : List Nat) : (bagV b).all flatV = true := by
  simp [bagV, flatV]
section
variable {P : Program} {w : World} {K : PySem.W.Frag} {mg : Str → Option Value} {base : Heap}
theorem partL (T : Txt K mg base) {A : Around} {outer : List Env} {s : Shared} {H0 : Hp} {E : XK} (hr : Room 12 (A.deeper (envOfC "law" (dd "law" p_law).scope s.heap.objs.size (He.ga K "law") (.ref (cA K "law"))))) :
    ∃ t, PSs (cxOf C8.CX0 P w K mg base nLaw "law" (dd "law" p_law).scope (He.ga K "law") (.ref (cA K "law")) A outer s H0 E).nox ((dd "law" p_law).body.drop 11) t ∧
      ∀ (Q : VK) (H : Hp) (bs : List (List Nat)) (ml : List Nat) (tl : List (Addr × List Int)) (gl : List Nat) (v : V) (pm pt pg : Addr) (s0 s1 s2 s3 s4 s6 s8 s10 s11 s13 s14 s15 s16 : Option V),
        IsBs K H v bs → Bags bs → Tabs (tabs K) H → H pm = some (.lst (bagV ml)) → H pt = some (.lst (tl.map fun z => V.ref z.1)) → H pg = some (.lst (bagV gl)) →
        (∀ H' ll, Ext (tabs K) H H' → FM.Great (bs.map FM.mask) ll → Counted H' (bs.map FM.mask) ml tl gl ll) → (∀ H', Q (.bl true) H') →
        t { nx := fun _ H' => Q .non H', rt := Q } [s0, s1, s2, s3, s4, some v, s6, some (.ref pm), s8, some (.ref pt), s10, s11, some (.ref pg), s13, s14, s15, s16] H := by
  obtain ⟨t2, hp2, read2⟩ := partC (P := P) (w := w) (A := A) (outer := outer) (s := s) (H0 := H0) (E := E) T hr
  refine ⟨_, pss_cons (ps_set (i := 14) sc_law.nd rfl (.inr rfl) (pe_listRg rfl rfl T.n (prg_1 rfl T.n (pe_callB (lenK (K := K) rfl) rfl T.n PySem.boot_len (pa_cons (pv 5) pa_nil)))))
    (pss_cons (ps_for PassesOwn.never rfl (pi_range1 rfl T.n (pa_cons (pe_callB (lenK (K := K) rfl) rfl T.n PySem.boot_len (pa_cons (pv 5) pa_nil)) pa_nil)) (pg_name (i := 4) sc_law.nd rfl (.inl rfl))
      (pss_one (ps_for PassesOwn.never rfl (pi_list (pe_callTy (lstofK (K := K) rfl) rfl T.n (by decide +kernel) (pa_cons (pv 14) pa_nil))) (pg_name (i := 13) sc_law.nd rfl (.inr rfl))
        (pss_cons (ps_setLc (i := 15) (own := [("bead", 8)]) (g := gName 8) rfl sc_law.nd rfl rfl (sw_true rfl rfl rfl (by decide +kernel)) (pi_tup (pe_ix ix_tup (pv 5) (pv 13) (fun _ _ => rfl))) (blkOk_by (by kernel_rfl)) (fun _ _ _ _ _ => pg_name (i := 8) sc_law.nd rfl (Or.inr rfl))
          (fun _ _ _ _ _ => pts_one (pt_cmpR (neDK (K := K) rfl (room64 hr)) (pe_lc (own := [("other", 10)]) (g := gName 10) rfl sc_law.nd (piLK (K := K) rfl (pv 14)) (blkOk_by (by kernel_rfl)) (fun _ _ _ _ _ => pg_name (i := 10) sc_law.nd rfl (Or.inl rfl))
            (fun _ _ _ _ _ => pts_one (PW.pt (pw_and (pt_cmpR op_ne (pv 10) (pv 13) (nomark _)) (pw_and1 (pt_cmpR (inK2 (K := K) rfl) (pv 8) (pe_ix (ixTK (K := K) rfl) (pv 5) (pv 10) (fun _ _ => rfl)) rfl))))) (fun _ _ _ _ _ => pe_int)) (pe_lst pa_nil) (nomark _)))
          (fun _ _ _ _ _ => pv 8))
        (pss_one (ps_if (pt_cmpR op_lt (pe_callB (lenK (K := K) rfl) rfl T.n PySem.boot_len (pa_cons (pv 15) pa_nil)) pe_int (nomark _))
          (pss_one (ps_expr (pe_remX rfl takes_no (pv 14) (pv 13)))) pss_nil))))))
    hp2), ?_⟩
  intro Q H bs ml tl gl v pm pt pg s0 s1 s2 s3 s4 s6 s8 s10 s11 s13 s14 s15 s16 hB G hT hm ht hg hC hQ
  obtain ⟨vt, xs, rfl, hSv, hEv⟩ := hB
  have hlb : bs.length ≤ small := G.few
  have hlb1 : bs.length ≤ 1000 := hlb
  refine ⟨_, rfl, _, bs.length, rfl, .inr ⟨_, hSv, hEv.len.symm⟩, _, rfl, RgOk.of_le (by decide) (by omega) (by decide) (by omega), fun pl hpl => ?_⟩
  have e1 := Ext.new (o := .lst (rgV 0 (bs.length : Int))) hT hpl
  have hms : (bs.map FM.mask).length = bs.length := List.length_map ..
  refine ⟨_, rfl, _, bs.length, rfl, .inr ⟨_, e1.seqT hSv, hEv.len.symm⟩, _, rfl, (small62 hlb).1, (small62 hlb).2, ?_⟩
  have en : ((bs.length : Nat) : Int).toNat = bs.length := Int.toNat_natCast _
  rw [en]
  refine for_range (lo := 0) (fun i σ H' => ∃ (L : List Nat) (u4 u13 u15 : Option V), σ = [s0, s1, s2, s3, u4, some (.ref vt), s6, some (.ref pm), s8, some (.ref pt), s10, s11, some (.ref pg), u13, some (.ref pl), u15, s16] ∧ Ext (tabs K) H H' ∧ H' pl = some (.lst (bagV L)) ∧ Passing (bs.map FM.mask) L ∧ ((∀ k ∈ L, FM.Two (bs.map FM.mask) L k) ∨ L.length + i ≤ bs.length))
    ⟨List.range bs.length, _, _, _, rfl, e1, by rw [upd_same, rgV_nats], ⟨by rw [hms]; exact List.Sublist.refl _, fun L' h1 _ k hk => List.mem_range.mpr (by rw [← hms]; exact h1 k hk)⟩, .inr (by simp)⟩ (fun i σ H' hi q => ?_) (fun σ H' q => ?_)
  · obtain ⟨L, u4, u13, u15, rfl, e, hL, pass, hst⟩ := q
    have hlt : ∀ k ∈ L, k < bs.length := fun k hk => by rw [← hms]; exact pass.lt k hk
    have hLl : L.length ≤ bs.length := by have := pass.sub.length_le; rw [List.length_range, hms] at this; exact this
    refine ⟨_, rfl, pl, _, rfl, .inl (SqL.of hL), fun pc hpc => ⟨pc, rfl, ⟨_, SqL.of upd_same⟩, ?_⟩⟩
    have ec := Ext.new (o := .lst (bagV L)) e.tabs hpc
    have hpl0 : pc ≠ pl := fun z => by rw [z, hL] at hpc; cases hpc
    have hpc0 : H pc = none := e.none hpc
    refine for_list (xs := bagV L) (fun j σ H'' => ∃ (M : List Nat) (u13 u15 : Option V), σ = [s0, s1, s2, s3, some (.int (0 + (i : Int))), some (.ref vt), s6, some (.ref pm), s8, some (.ref pt), s10, s11, some (.ref pg), u13, some (.ref pl), u15, s16] ∧ Ext (tabs K) H H'' ∧ H'' pl = some (.lst (bagV M)) ∧ H'' pc = some (.lst (bagV L)) ∧ Passing (bs.map FM.mask) M ∧ M.Sublist L ∧ (∀ k ∈ L.drop j, k ∈ M) ∧ ((M = L ∧ ∀ k ∈ L.take j, FM.Two (bs.map FM.mask) L k) ∨ (M.length < L.length ∧ ∃ k ∈ L, ¬ FM.Two (bs.map FM.mask) L k)))
      ⟨L, _, _, rfl, e.trans ec, ec.lst hL, upd_same, pass, List.Sublist.refl _, fun k hk => by simpa using hk, .inl ⟨rfl, fun k hk => by simp at hk⟩⟩ (fun j σ H'' _ q => by obtain ⟨M, _, _, _, _, _, h, _⟩ := q; exact SqL.of h) (fun j x σ H'' hx q => ?_) (fun σ H'' q => ?_)
    · obtain ⟨M, w13, w15, rfl, e2, hM, hcL, pass2, hsub, hdrop, hor⟩ := q
      obtain ⟨k, hk, rfl⟩ := get_bagV hx
      have hkL := List.mem_of_getElem? hk
      have hkn := hlt k hkL
      have hj := (List.getElem?_eq_some_iff.mp hk).1
      have hdr : L.drop j = k :: L.drop (j + 1) := by
        rw [List.drop_eq_getElem_cons hj]
        congr 1
        exact (List.getElem?_eq_some_iff.mp hk).2
      have hkM : k ∈ M := hdrop k (by rw [hdr]; simp)
      have hMlt : ∀ o ∈ M, o < bs.length := fun o ho => hlt o (hsub.subset ho)
      have hMl : M.length ≤ 1000 := by have := hsub.length_le; omega
      have gb : bs[k]? = some (bs.getD k []) := by rw [List.getD_eq_getElem?_getD, List.getElem?_eq_getElem hkn]; rfl
      obtain ⟨bx, hbx⟩ : ∃ bx, xs[k]? = some bx := ⟨xs[k]'(by rw [hEv.len]; exact hkn), List.getElem?_eq_getElem _⟩
      obtain ⟨ta, rfl, hta⟩ := hEv.is k bx _ hbx gb
      have hbk : (bs.getD k []).length ≤ 60 := asc_len _ (G.asc _ (getD_mem hkn)) 60 (G.lt _ (getD_mem hkn))
      refine ⟨_, rfl, _, rfl, vt, _, _, _, rfl, rfl, e2.seqT hSv, atI_nat hbx, ta, rfl, ⟨_, e2.seqT hta⟩, fun D hD => ?_⟩
      refine lc_src (T := tabs K) (src_tup (K := K) (a := ta) (xs := bagV (bs.getD k []))) ((bs.getD k []).map fun x => if (M.any fun o => decide (o ≠ k) && (bs.getD o []).contains x) = true then some (V.int (x : Int)) else none) (by rw [List.length_map, bagV_len]) (by rw [bagV_len]; exact small_line (Nat.le_trans hbk (by decide))) e2.tabs hD (fun H3 e3 => (e2.trans e3).seqT hta) (fun i' y gv H3 N Y hy hg e3 hN hY => ?_) (fun H3 e3 eD => ?_)
      · obtain ⟨x, hxi, hgv⟩ := if_get (p := fun x => M.any fun o => decide (o ≠ k) && (bs.getD o []).contains x) (f := fun x : Nat => V.int (x : Int)) hg
        obtain ⟨x', hx', rfl⟩ := get_bagV hy
        rw [hxi] at hx'
        cases hx'
        have E3 := e2.trans e3
        have hM3 := e3.lst hM
        refine ⟨rfl, _, rfl, pl, rfl, ⟨_, SqL.of hM3⟩, fun D2 hD2 => ?_⟩
        refine lc_src (T := tabs K) (src_list (K := K) (a := pl) (xs := bagV M)) (M.map fun o => if (decide (o ≠ k) && (bs.getD o []).contains x) = true then some (V.int 1) else none) (by rw [List.length_map, bagV_len]) (by rw [bagV_len]; exact small_line hMl) e3.tabs hD2 (fun H4 e4 => e4.seqL (SqL.of hM3)) (fun i2 z gv2 H4 N2 Y2 hz hg2 e4 hN2 hY2 => ?_) (fun H4 e4 eD2 => ?_)
        · obtain ⟨o, hoi, hgv2⟩ := if_get (p := fun o => decide (o ≠ k) && (bs.getD o []).contains x) (f := fun _ : Nat => V.int 1) hg2
          obtain ⟨o', ho', rfl⟩ := get_bagV hz
          rw [hoi] at ho'
          cases ho'
          have hon := hMlt o (List.mem_of_getElem? hoi)
          have gbo : bs[o]? = some (bs.getD o []) := by rw [List.getD_eq_getElem?_getD, List.getElem?_eq_getElem hon]; rfl
          obtain ⟨bo, hbo⟩ : ∃ bo, xs[o]? = some bo := ⟨xs[o]'(by rw [hEv.len]; exact hon), List.getElem?_eq_getElem _⟩
          obtain ⟨to, rfl, hto⟩ := hEv.is o bo _ hbo gbo
          refine ⟨rfl, _, rfl, _, rfl, rfl, _, rfl, ?_⟩
          by_cases eok : o = k
          · have d1 : (!decide (V.int (o : Int) = V.int (k : Int))) = false := by rw [eok]; simp
            rw [d1]
            refine iteF (iteF (hN2 _ ?_ (Ext.refl e4.tabs)))
            rw [hgv2, eok]
            simp
          · have d1 : (!decide (V.int (o : Int) = V.int (k : Int))) = true := by
              have : ¬ (V.int (o : Int) = V.int (k : Int)) := fun q => eok (by injection q with q; omega)
              simp [this]
            rw [d1]
            refine iteT ⟨_, rfl, _, rfl, _, rfl, vt, _, _, _, rfl, rfl, (E3.trans e4).seqT hSv, atI_nat hbo, to, _, rfl, .inr ((E3.trans e4).seqT hto), rfl, flat_bag _, _, rfl, ?_⟩
            show if inV (.int (x : Int)) (bagV (bs.getD o [])) = true then _ else _
            rw [in_bag2]
            refine ite2 (fun c => ?_) fun c => ?_
            · exact hY2 _ _ (by rw [hgv2, c, decide_eq_true eok]; rfl) (Ext.refl e4.tabs)
            · have c2 : (bs.getD o []).contains x = false := by simpa using c
              exact hN2 _ (by rw [hgv2, c2, Bool.and_false]; rfl) (Ext.refl e4.tabs)
        · rw [fm_if (fun o => decide (o ≠ k) && (bs.getD o []).contains x) (fun _ : Nat => V.int 1)] at eD2
          have e1s : (M.filter fun o => decide (o ≠ k) && (bs.getD o []).contains x).map (fun _ : Nat => V.int 1) = bagV ((M.filter fun o => decide (o ≠ k) && (bs.getD o []).contains x).map fun _ => 1) := by simp [bagV]
          rw [e1s] at eD2
          refine ⟨Nat.zero_le _, fun q hq => ?_⟩
          have n5 := Ext.new (o := .lst []) e4.tabs hq
          refine ⟨_, _, .lst (SqL.of (n5.lst eD2)) (dp_bagV _), .lst (SqL.of upd_same) .nil, shaped_nats _, rfl, _, rfl, ?_⟩
          rw [eqv_nil_ints]
          have ea : (!decide (((M.filter fun o => decide (o ≠ k) && (bs.getD o []).contains x).map fun _ => 1) = [])) = M.any fun o => decide (o ≠ k) && (bs.getD o []).contains x := by
            rw [Bool.eq_iff_iff, List.any_eq_true]
            simp
          rw [ea]
          refine ite2 (fun c => ?_) fun c => ?_
          · exact ⟨_, rfl, hY _ _ (by rw [hgv, if_pos c]) (e4.trans n5)⟩
          · exact hN _ (by rw [hgv, if_neg c]) (e4.trans n5)
      · rw [fm_if (fun x => M.any fun o => decide (o ≠ k) && (bs.getD o []).contains x) (fun x : Nat => V.int (x : Int))] at eD
        have eD : H3 D = some (.lst (bagV (ties bs M k))) := eD
        have E3 := e2.trans e3
        have hM3 := e3.lst hM
        have pm2 := ties_two G hMlt hkn
        refine ⟨_, rfl, _, _, rfl, .inl ⟨_, SqL.of eD, bagV_len.symm⟩, _, _, rfl, rfl, _, rfl, ?_⟩
        refine ite2 (fun c => ?_) fun c => ?_
        · have c2 : ¬ 2 ≤ (ties bs M k).length := fun y => by have := of_decide_eq_true c; omega
          have bad : ¬ FM.Two (bs.map FM.mask) M k := fun y => c2 (pm2.mpr y)
          refine ⟨_, rfl, .inl ⟨rfl, _, SqL.of hM3⟩, _, rfl, pl, natI M, (k : Int), rfl, rfl, by rw [natI_V]; exact hM3, fun _ => ?_, fun z => absurd (List.mem_map.mpr ⟨k, hkM, rfl⟩) z⟩
          rw [natI_erase, natI_V]
          have hplne : H pl = none := hpl
          refine ⟨M.erase k, _, _, rfl, Ext.set E3 hplne ⟨_, hM3, fun ps z => by cases z⟩, upd_same, by rw [upd_ne hpl0]; exact e3.lst hcL, pass2.erase bad, (List.erase_sublist).trans hsub, fun o ho => ?_, .inr ⟨?_, ?_⟩⟩
          · have hnd := pass.nd
            have hne : o ≠ k := fun z => by
              subst z
              have := List.Nodup.sublist (List.drop_sublist j L) hnd
              rw [hdr, List.nodup_cons] at this
              exact this.1 ho
            exact (pass2.nd.mem_erase_iff).mpr ⟨hne, hdrop o (by rw [hdr]; exact List.mem_cons_of_mem _ ho)⟩
          · have h1 := List.length_erase_of_mem hkM
            have h2 := hsub.length_le
            have h3 : 0 < M.length := List.length_pos_of_mem hkM
            omega
          · rcases hor with ⟨rfl, _⟩ | ⟨_, h⟩
            · exact ⟨k, hkL, bad⟩
            · exact h
        · refine ⟨M, _, _, rfl, E3, hM3, e3.lst hcL, pass2, hsub, fun o ho => hdrop o (by rw [hdr]; exact List.mem_cons_of_mem _ ho), ?_⟩
          have good2 : FM.Two (bs.map FM.mask) M k := pm2.mp (by
            apply Nat.le_of_not_lt
            intro y
            exact c (decide_eq_true (by omega)))
          rcases hor with ⟨rfl, h⟩ | h
          · refine .inl ⟨rfl, fun o ho => ?_⟩
            rw [List.take_add_one, hk] at ho
            rcases List.mem_append.mp ho with y | y
            · exact h o y
            · have : o = k := by simpa using y
              rw [this]; exact good2
          · exact .inr h
    · obtain ⟨M, w13, w15, rfl, e2, hM, hcL, pass2, hsub, hdrop, hor⟩ := q
      rw [List.take_of_length_le (by rw [bagV_len]; exact Nat.le_refl _)] at hor
      refine ⟨M, _, _, _, rfl, e2, hM, pass2, ?_⟩
      rcases hor with ⟨rfl, h⟩ | ⟨h, k, hk, hbad⟩
      · exact .inl h
      · rcases hst with hst | hst
        · exact absurd (hst k hk) hbad
        · exact .inr (by omega)
  · obtain ⟨L, u4, u13, u15, rfl, e, hL, pass, hst⟩ := q
    have great : FM.Great (bs.map FM.mask) L := by
      refine ⟨pass.sub, ?_, pass.all⟩
      rcases hst with h | h
      · exact h
      · intro k hk
        have : L = [] := List.length_eq_zero_iff.mp (by omega)
        rw [this] at hk
        cases hk
    exact read2 Q H' bs ml tl gl L (.ref vt) pm pt pg pl _ _ _ _ _ _ _ _ _ _ _ _ ⟨vt, xs, rfl, e.seqT hSv, hEv.ext e⟩ G e.tabs (e.lst hm) (e.lst ht) (e.lst hg) hL (hC H' L e great) hQ
end
end K00
end

section
set_option Elab.async false
set_option linter.all false
set_option maxRecDepth 100000
set_option maxHeartbeats 4000000
/-! The law of the bars: the group of the first bag. -/
namespace K00
open PySem PySem.Spec PyProof.Rows L2 GX GxR PG C8 ST FM
/-- two bags share a bead -/
def Share (bs : List (List Nat)) (i j : Nat) : Prop := ∃ x, x ∈ bs.getD i [] ∧ x ∈ bs.getD j []
/-- as far as the group is grown -/
structure Growing (bs : List (List Nat)) (g : List Nat) : Prop where
  nd : g.Nodup
  lt : ∀ k ∈ g, k < bs.length
  zero : 0 ∈ g
  least : ∀ G : Nat, (∀ x, x ∈ bs.getD 0 [] → G.testBit x = true) → (∀ b ∈ bs, (∃ x ∈ b, G.testBit x = true) → ∀ x ∈ b, G.testBit x = true) → ∀ k ∈ g, ∀ x ∈ bs.getD k [], G.testBit x = true
def Shut (bs : List (List Nat)) (g : List Nat) : Prop := ∀ k, k < bs.length → (∃ o ∈ g, Share bs o k) → k ∈ g
theorem Growing.more {bs : List (List Nat)} {g : List Nat} (h : Growing bs g) {k : Nat} (hk : k < bs.length) (hn : k ∉ g) (hs : ∃ o ∈ g, Share bs o k) : Growing bs (g ++ [k]) := by
  refine ⟨List.pairwise_append.mpr ⟨h.nd, List.pairwise_singleton _ _, fun a ha b hb => ?_⟩, fun j hj => ?_, List.mem_append_left _ h.zero, fun G h1 h2 j hj x hx => ?_⟩
  · rw [List.mem_singleton.mp hb]
    exact fun e => hn (by rw [← e]; exact ha)
  · rcases List.mem_append.mp hj with q | q
    · exact h.lt j q
    · rw [List.mem_singleton.mp q]; exact hk
  · rcases List.mem_append.mp hj with q | q
    · exact h.least G h1 h2 j q x hx
    · have e := List.mem_singleton.mp q
      subst e
      obtain ⟨o, ho, y, hy1, hy2⟩ := hs
      exact h2 _ (getD_mem hk) ⟨y, hy2, h.least G h1 h2 o ho y hy1⟩ x hx
theorem Growing.few {bs : List (List Nat)} {g : List Nat} (h : Growing bs g) : g.length ≤ bs.length := by
  have p : g.Nodup := h.nd
  have hs : ∀ k ∈ g, k ∈ List.range bs.length := fun k hk => List.mem_range.mpr (h.lt k hk)
  exact (by
    have key : ∀ (n : Nat) (l : List Nat), l.Nodup → (∀ k ∈ l, k < n) → l.length ≤ n := by
      intro n
      induction n with
      | zero =>
        intro l _ hl
        cases l with
        | nil => exact Nat.le_refl _
        | cons x r => exact absurd (hl x (by simp)) (Nat.not_lt_zero x)
      | succ n ih =>
        intro l nd hl
        have h1 := ih (l.erase n) (nd.erase n) fun k hk => by
          have a := (nd.mem_erase_iff).mp hk
          have b := hl k a.2
          have c := a.1
          omega
        by_cases hm : n ∈ l
        · have := List.length_erase_of_mem hm
          have h3 := List.length_pos_of_mem hm
          omega
        · rw [List.erase_of_not_mem hm] at h1
          omega
    exact key _ _ p h.lt)
/-- the bits of the group's bags -/
def bitsOf (bs : List (List Nat)) (g : List Nat) : Nat := FM.held (g.map fun k => FM.mask (bs.getD k []))
theorem bitsOf_bit {bs : List (List Nat)} (G : Bags bs) {g : List Nat} (hg : ∀ k ∈ g, k < bs.length) (x : Nat) : (bitsOf bs g).testBit x = true ↔ ∃ k ∈ g, x ∈ bs.getD k [] := by
  unfold bitsOf
  rw [FM.held_bit, List.any_eq_true]
  constructor
  · rintro ⟨m, hm, hb⟩
    obtain ⟨k, hk, rfl⟩ := List.mem_map.mp hm
    rw [FM.mask_bit _ (G.asc _ (getD_mem (hg k hk))), decide_eq_true_eq] at hb
    exact ⟨k, hk, hb⟩
  · rintro ⟨k, hk, hx⟩
    exact ⟨_, List.mem_map.mpr ⟨k, hk, rfl⟩, by rw [FM.mask_bit _ (G.asc _ (getD_mem (hg k hk))), decide_eq_true_eq]; exact hx⟩
theorem group_hung {bs : List (List Nat)} (G : Bags bs) {g : List Nat} (h : Growing bs g) (hs : Shut bs g) : ∃ a J, (bs.map FM.mask)[0]? = some a ∧ FM.Hung (bs.map FM.mask) a J ∧ g.Perm (joins (bs.map FM.mask) J) := by
  have h0 : 0 < bs.length := h.lt 0 h.zero
  have g0 : bs[0]? = some (bs.getD 0 []) := by rw [List.getD_eq_getElem?_getD, List.getElem?_eq_getElem h0]; rfl
  have bit : ∀ b ∈ bs, ∀ x, (FM.mask b).testBit x = true ↔ x ∈ b := fun b hb x => by rw [FM.mask_bit b (G.asc b hb), decide_eq_true_eq]
  have Jb := bitsOf_bit G h.lt
  have hung : FM.Hung (bs.map FM.mask) (FM.mask (bs.getD 0 [])) (bitsOf bs g) := by
    refine ⟨fun x hx => ?_, fun m hm hne x hx => ?_, fun G2 h1 h2 x hx => ?_⟩
    · exact (Jb x).mpr ⟨0, h.zero, (bit _ (getD_mem h0) x).mp hx⟩
    · obtain ⟨b, hb, rfl⟩ := List.mem_map.mp hm
      obtain ⟨y, hy1, hy2⟩ := FM.meets_iff.mp hne
      obtain ⟨o, ho, hyo⟩ := (Jb y).mp hy2
      obtain ⟨k, hk⟩ := List.mem_iff_getElem?.mp hb
      have hkl := (List.getElem?_eq_some_iff.mp hk).1
      have ek : bs.getD k [] = b := by rw [List.getD_eq_getElem?_getD, hk]; rfl
      have kg := hs k hkl ⟨o, ho, y, hyo, by rw [ek]; exact (bit b hb y).mp hy1⟩
      exact (Jb x).mpr ⟨k, kg, by rw [ek]; exact (bit b hb x).mp hx⟩
    · obtain ⟨k, hk, hxk⟩ := (Jb x).mp hx
      refine h.least G2 (fun y hy => h1 y ((bit _ (getD_mem h0) y).mpr hy)) (fun b hb hy z hz => ?_) k hk x hxk
      obtain ⟨y, hyb, hyG⟩ := hy
      exact h2 _ (List.mem_map.mpr ⟨b, hb, rfl⟩) (FM.meets_iff.mpr ⟨y, (bit b hb y).mpr hyb, hyG⟩) z ((bit b hb z).mpr hz)
  refine ⟨_, _, by rw [List.getElem?_map, g0]; rfl, hung, ?_⟩
  have nj : (joins (bs.map FM.mask) (bitsOf bs g)).Nodup := List.Nodup.sublist List.filter_sublist List.nodup_range
  refine (List.perm_ext_iff_of_nodup h.nd nj).mpr fun k => ?_
  unfold joins
  rw [List.mem_filter, List.mem_range, List.length_map, decide_eq_true_eq]
  constructor
  · intro hk
    have hkl := h.lt k hk
    refine ⟨hkl, ?_⟩
    rw [mask_getD hkl, FM.meets_iff]
    have h2 := G.two _ (getD_mem hkl)
    obtain ⟨x, hx⟩ : ∃ x, x ∈ bs.getD k [] := by
      cases e : bs.getD k [] with
      | nil => rw [e] at h2; simp at h2
      | cons x r => exact ⟨x, by simp⟩
    exact ⟨x, (bit _ (getD_mem hkl) x).mpr hx, (Jb x).mpr ⟨k, hk, hx⟩⟩
  · rintro ⟨hkl, hne⟩
    rw [mask_getD hkl, FM.meets_iff] at hne
    obtain ⟨x, hx1, hx2⟩ := hne
    obtain ⟨o, ho, hxo⟩ := (Jb x).mp hx2
    exact hs k hkl ⟨o, ho, x, hxo, (bit _ (getD_mem hkl) x).mp hx1⟩
section
variable {P : Program} {w : World} {K : PySem.W.Frag} {mg : Str → Option Value} {base : Heap}
theorem partG (T : Txt K mg base) {A : Around} {outer : List Env} {s : Shared} {H0 : Hp} {E : XK} (hr : Room 12 (A.deeper (envOfC "law" (dd "law" p_law).scope s.heap.objs.size (He.ga K "law") (.ref (cA K "law"))))) :
    ∃ t, PSs (cxOf C8.CX0 P w K mg base nLaw "law" (dd "law" p_law).scope (He.ga K "law") (.ref (cA K "law")) A outer s H0 E).nox ((dd "law" p_law).body.drop 9) t ∧
      ∀ (Q : VK) (H : Hp) (bs : List (List Nat)) (ml : List Nat) (tl : List (Addr × List Int)) (v : V) (pm pt : Addr) (s0 s1 s2 s3 s4 s6 s8 s10 s11 s12 s13 s14 s15 s16 : Option V),
        IsBs K H v bs → Bags bs → Tabs (tabs K) H → H pm = some (.lst (bagV ml)) → H pt = some (.lst (tl.map fun z => V.ref z.1)) →
        (∀ H' gl ll, Ext (tabs K) H H' → (∃ a J, (bs.map FM.mask)[0]? = some a ∧ FM.Hung (bs.map FM.mask) a J ∧ gl.Perm (joins (bs.map FM.mask) J)) → FM.Great (bs.map FM.mask) ll → Counted H' (bs.map FM.mask) ml tl gl ll) → (∀ H', Q (.bl true) H') →
        t { nx := fun _ H' => Q .non H', rt := Q } [s0, s1, s2, s3, s4, some v, s6, some (.ref pm), s8, some (.ref pt), s10, s11, s12, s13, s14, s15, s16] H := by
  obtain ⟨t2, hp2, read2⟩ := partL (P := P) (w := w) (A := A) (outer := outer) (s := s) (H0 := H0) (E := E) T hr
  refine ⟨_, pss_cons (ps_set (i := 12) sc_law.nd rfl (.inl rfl) (pe_lst (pa_cons pe_int pa_nil)))
    (pss_cons (ps_for PassesOwn.never rfl (pi_range1 rfl T.n (pa_cons (pe_callB (lenK (K := K) rfl) rfl T.n PySem.boot_len (pa_cons (pv 5) pa_nil)) pa_nil)) (pg_name (i := 4) sc_law.nd rfl (.inl rfl))
      (pss_one (ps_for PassesOwn.never rfl (pi_range1 rfl T.n (pa_cons (pe_callB (lenK (K := K) rfl) rfl T.n PySem.boot_len (pa_cons (pv 5) pa_nil)) pa_nil)) (pg_name (i := 13) sc_law.nd rfl (.inr rfl))
        (pss_one (ps_if (PW.pt (pw_and (pt_cmpR (notInK (K := K) rfl) (pv 13) (pv 12) rfl)
          (pw_and1 (pt_cmpR (neDK (K := K) rfl (room64 hr)) (pe_lc (own := [("one", 11)]) (g := gName 11) rfl sc_law.nd (pi_list (pv 12)) (blkOk_by (by kernel_rfl)) (fun _ _ _ _ _ => pg_name (i := 11) sc_law.nd rfl (Or.inl rfl))
            (fun _ _ _ _ _ => pts_one (pt_cmpR (neDK (K := K) rfl (room64 hr)) (pe_lc (own := [("bead", 8)]) (g := gName 8) rfl sc_law.nd (piTK (K := K) rfl (pe_ix (ixTK (K := K) rfl) (pv 5) (pv 11) (fun _ _ => rfl))) (blkOk_by (by kernel_rfl)) (fun _ _ _ _ _ => pg_name (i := 8) sc_law.nd rfl (Or.inl rfl))
              (fun _ _ _ _ _ => pts_one (pt_cmpR (inK2 (K := K) rfl) (pv 8) (pe_ix (ixTK (K := K) rfl) (pv 5) (pv 13) (fun _ _ => rfl)) rfl)) (fun _ _ _ _ _ => pv 8)) (pe_lst pa_nil) (nomark _)))
            (fun _ _ _ _ _ => pe_int)) (pe_lst pa_nil) (nomark _)))))
          (pss_one (ps_expr (pe_bm PySem.F.plainAttrs_list PySem.F.slot_list_append PySem.F.type_list_append mt_append (pv 12) (pa_cons (pv 13) pa_nil)))) pss_nil)))))
    hp2), ?_⟩
  intro Q H bs ml tl v pm pt s0 s1 s2 s3 s4 s6 s8 s10 s11 s12 s13 s14 s15 s16 hB G hT hm ht hC hQ
  obtain ⟨vt, xs, rfl, hSv, hEv⟩ := hB
  have hlb : bs.length ≤ small := G.few
  have hlb1 : bs.length ≤ 1000 := hlb
  have hpos : 0 < bs.length := List.length_pos_iff.mpr G.ne
  refine ⟨small_line (n := 1) (by decide), fun pg hpg => ?_⟩
  have e1 := Ext.new (o := .lst [.int 0]) hT hpg
  have en : ((bs.length : Nat) : Int).toNat = bs.length := Int.toNat_natCast _
  refine ⟨_, rfl, _, bs.length, rfl, .inr ⟨_, e1.seqT hSv, hEv.len.symm⟩, _, rfl, (small62 hlb).1, (small62 hlb).2, ?_⟩
  rw [en]
  refine for_range (lo := 0) (fun i σ H' => ∃ (g : List Nat) (u4 u13 : Option V), σ = [s0, s1, s2, s3, u4, some (.ref vt), s6, some (.ref pm), s8, some (.ref pt), s10, s11, some (.ref pg), u13, s14, s15, s16] ∧ Ext (tabs K) H H' ∧ H' pg = some (.lst (bagV g)) ∧ Growing bs g ∧ (Shut bs g ∨ 1 + i ≤ g.length))
    ⟨[0], _, _, rfl, e1, by rw [upd_same]; rfl, ⟨by simp, fun k hk => by rw [List.mem_singleton.mp hk]; exact hpos, by simp, fun G2 h1 _ k hk x hx => by rw [List.mem_singleton.mp hk] at hx; exact h1 x hx⟩, .inr (by simp)⟩ (fun i σ H' hi q => ?_) (fun σ H' q => ?_)
  · obtain ⟨g, u4, u13, rfl, e, hg, grow, hst⟩ := q
    refine ⟨_, rfl, _, bs.length, rfl, .inr ⟨_, e.seqT hSv, hEv.len.symm⟩, _, rfl, (small62 hlb).1, (small62 hlb).2, ?_⟩
    rw [en]
    refine for_range (lo := 0) (fun j σ H'' => ∃ (m : List Nat) (u13 : Option V), σ = [s0, s1, s2, s3, some (.int (0 + (i : Int))), some (.ref vt), s6, some (.ref pm), s8, some (.ref pt), s10, s11, some (.ref pg), u13, s14, s15, s16] ∧ Ext (tabs K) H H'' ∧ H'' pg = some (.lst (bagV m)) ∧ Growing bs m ∧ ((m = g ∧ ∀ k, k < j → (∃ o ∈ g, Share bs o k) → k ∈ g) ∨ (g.length < m.length ∧ ¬ Shut bs g)))
      ⟨g, _, rfl, e, hg, grow, .inl ⟨rfl, fun k hk => absurd hk (Nat.not_lt_zero k)⟩⟩ (fun j σ H'' hj q => ?_) (fun σ H'' q => ?_)
    · obtain ⟨m, w13, rfl, e2, hm2, grow2, hor⟩ := q
      have hml := grow2.few
      have ej : (0 : Int) + (j : Int) = (j : Int) := by omega
      have gb : bs[j]? = some (bs.getD j []) := by rw [List.getD_eq_getElem?_getD, List.getElem?_eq_getElem hj]; rfl
      obtain ⟨bj, hbj⟩ : ∃ bj, xs[j]? = some bj := ⟨xs[j]'(by rw [hEv.len]; exact hj), List.getElem?_eq_getElem _⟩
      obtain ⟨tj, rfl, htj⟩ := hEv.is j bj _ hbj gb
      rw [ej]
      refine ⟨_, rfl, _, rfl, pg, _, rfl, .inl (SqL.of hm2), rfl, flat_bag m, _, rfl, ?_⟩
      show if (!inV (.int (j : Int)) (bagV m)) = true then _ else _
      rw [in_bag2]
      by_cases hjm : m.contains j = true
      · rw [hjm]
        refine iteF (iteF ⟨m, _, rfl, e2, hm2, grow2, ?_⟩)
        rcases hor with ⟨rfl, h⟩ | h
        · refine .inl ⟨rfl, fun k hk hs => ?_⟩
          by_cases ek : k = j
          · rw [ek]; exact List.contains_iff_mem.mp hjm
          · exact h k (by omega) hs
        · exact .inr h
      · have hjm2 : m.contains j = false := by simpa using hjm
        have hjn : j ∉ m := fun z => hjm (List.contains_iff_mem.mpr z)
        rw [hjm2]
        refine iteT ?_
        have hm1000 : m.length ≤ 1000 := by omega
        refine ⟨_, rfl, pg, rfl, ⟨_, SqL.of hm2⟩, fun D hD => ?_⟩
        refine lc_src (T := tabs K) (src_list (K := K) (a := pg) (xs := bagV m)) (m.map fun o => if ((bs.getD o []).any fun x => (bs.getD j []).contains x) = true then some (V.int 1) else none) (by rw [List.length_map, bagV_len]) (by rw [bagV_len]; exact small_line hm1000) e2.tabs hD (fun H3 e3 => e3.seqL (SqL.of hm2)) (fun i' y gv H3 N Y hy hg3 e3 hN hY => ?_) (fun H3 e3 eD => ?_)
        · obtain ⟨o, hoi, hgv⟩ := if_get (p := fun o => (bs.getD o []).any fun x => (bs.getD j []).contains x) (f := fun _ : Nat => V.int 1) hg3
          obtain ⟨o', ho', rfl⟩ := get_bagV hy
          rw [hoi] at ho'
          cases ho'
          have hon := grow2.lt o (List.mem_of_getElem? hoi)
          have gbo : bs[o]? = some (bs.getD o []) := by rw [List.getD_eq_getElem?_getD, List.getElem?_eq_getElem hon]; rfl
          obtain ⟨bo, hbo⟩ : ∃ bo, xs[o]? = some bo := ⟨xs[o]'(by rw [hEv.len]; exact hon), List.getElem?_eq_getElem _⟩
          obtain ⟨to, rfl, hto⟩ := hEv.is o bo _ hbo gbo
          have hbl : (bs.getD o []).length ≤ 60 := asc_len _ (G.asc _ (getD_mem hon)) 60 (G.lt _ (getD_mem hon))
          have E3 := e2.trans e3
          refine ⟨rfl, _, rfl, _, rfl, vt, _, _, _, rfl, rfl, E3.seqT hSv, atI_nat hbo, to, rfl, ⟨_, E3.seqT hto⟩, fun D2 hD2 => ?_⟩
          refine lc_src (T := tabs K) (src_tup (K := K) (a := to) (xs := bagV (bs.getD o []))) ((bs.getD o []).map fun x => if (bs.getD j []).contains x = true then some (V.int (x : Int)) else none) (by rw [List.length_map, bagV_len]) (by rw [bagV_len]; exact small_line (Nat.le_trans hbl (by decide))) e3.tabs hD2 (fun H4 e4 => (E3.trans e4).seqT hto) (fun i2 z gv2 H4 N2 Y2 hz hg2 e4 hN2 hY2 => ?_) (fun H4 e4 eD2 => ?_)
          · obtain ⟨x, hxi, hgv2⟩ := if_get (p := fun x => (bs.getD j []).contains x) (f := fun x : Nat => V.int (x : Int)) hg2
            obtain ⟨x', hx', rfl⟩ := get_bagV hz
            rw [hxi] at hx'
            cases hx'
            refine ⟨rfl, _, rfl, _, rfl, _, rfl, vt, _, _, _, rfl, rfl, (E3.trans e4).seqT hSv, atI_nat hbj, tj, _, rfl, .inr ((E3.trans e4).seqT htj), rfl, flat_bag _, _, rfl, ?_⟩
            show if inV (.int (x : Int)) (bagV (bs.getD j [])) = true then _ else _
            rw [in_bag2]
            refine ite2 (fun c => ?_) fun c => ?_
            · exact ⟨_, rfl, hY2 _ _ (by rw [hgv2, if_pos c]) (Ext.refl e4.tabs)⟩
            · exact hN2 _ (by rw [hgv2, if_neg c]) (Ext.refl e4.tabs)
          · rw [fm_if (fun x => (bs.getD j []).contains x) (fun x : Nat => V.int (x : Int))] at eD2
            have eD2 : H4 D2 = some (.lst (bagV ((bs.getD o []).filter fun x => (bs.getD j []).contains x))) := eD2
            refine ⟨Nat.zero_le _, fun q hq => ?_⟩
            have n5 := Ext.new (o := .lst []) e4.tabs hq
            refine ⟨_, _, .lst (SqL.of (n5.lst eD2)) (dp_bagV _), .lst (SqL.of upd_same) .nil, shaped_nats _, rfl, _, rfl, ?_⟩
            rw [eqv_nil_ints]
            have ea : (!decide (((bs.getD o []).filter fun x => (bs.getD j []).contains x) = [])) = (bs.getD o []).any fun x => (bs.getD j []).contains x := by
              rw [Bool.eq_iff_iff, List.any_eq_true]
              simp
            rw [ea]
            refine ite2 (fun c => ?_) fun c => ?_
            · exact hY _ _ (by rw [hgv, if_pos c]) (e4.trans n5)
            · exact hN _ (by rw [hgv, if_neg c]) (e4.trans n5)
        · rw [fm_if (fun o => (bs.getD o []).any fun x => (bs.getD j []).contains x) (fun _ : Nat => V.int 1)] at eD
          have e1s : (m.filter fun o => (bs.getD o []).any fun x => (bs.getD j []).contains x).map (fun _ : Nat => V.int 1) = bagV ((m.filter fun o => (bs.getD o []).any fun x => (bs.getD j []).contains x).map fun _ => 1) := by simp [bagV]
          rw [e1s] at eD
          refine ⟨Nat.zero_le _, fun q hq => ?_⟩
          have n5 := Ext.new (o := .lst []) e3.tabs hq
          refine ⟨_, _, .lst (SqL.of (n5.lst eD)) (dp_bagV _), .lst (SqL.of upd_same) .nil, shaped_nats _, rfl, _, rfl, ?_⟩
          rw [eqv_nil_ints]
          have ea : (!decide (((m.filter fun o => (bs.getD o []).any fun x => (bs.getD j []).contains x).map fun _ => 1) = [])) = m.any fun o => (bs.getD o []).any fun x => (bs.getD j []).contains x := by
            rw [Bool.eq_iff_iff, List.any_eq_true]
            simp
          rw [ea]
          have share : (m.any fun o => (bs.getD o []).any fun x => (bs.getD j []).contains x) = true ↔ ∃ o ∈ m, Share bs o j := by
            rw [List.any_eq_true]
            constructor
            · rintro ⟨o, ho, h⟩
              obtain ⟨x, hx, hx2⟩ := List.any_eq_true.mp h
              exact ⟨o, ho, x, hx, List.contains_iff_mem.mp hx2⟩
            · rintro ⟨o, ho, x, hx, hx2⟩
              exact ⟨o, ho, List.any_eq_true.mpr ⟨x, hx, List.contains_iff_mem.mpr hx2⟩⟩
          have E5 := (e2.trans e3).trans n5
          have hm5 := n5.lst (e3.lst hm2)
          refine ite2 (fun c => ?_) fun c => ?_
          · have hs := share.mp c
            refine ⟨_, rfl, .inl ⟨rfl, _, SqL.of hm5⟩, _, rfl, pg, _, _, rfl, rfl, hm5, by rw [bagV_len]; exact small1000 hm1000, ?_⟩
            have eb : bagV m ++ [V.int ((j : Nat) : Int)] = bagV (m ++ [j]) := by simp [bagV]
            rw [eb]
            refine ⟨m ++ [j], _, rfl, Ext.set E5 hpg ⟨_, hm5, fun ps z => by cases z⟩, upd_same, grow2.more hj hjn hs, .inr ?_⟩
            rw [List.length_append]
            rcases hor with ⟨rfl, _⟩ | ⟨h1, h2⟩
            · exact ⟨by simp, fun z => hjn (z j hj hs)⟩
            · exact ⟨by simp; omega, h2⟩
          · refine ⟨m, _, rfl, E5, hm5, grow2, ?_⟩
            rcases hor with ⟨rfl, h⟩ | h
            · refine .inl ⟨rfl, fun k hk hs => ?_⟩
              by_cases ek : k = j
              · subst ek
                exact absurd (share.mpr hs) c
              · exact h k (by omega) hs
            · exact .inr h
    · obtain ⟨m, w13, rfl, e2, hm2, grow2, hor⟩ := q
      refine ⟨m, _, _, rfl, e2, hm2, grow2, ?_⟩
      rcases hor with ⟨rfl, h⟩ | ⟨h, hbad⟩
      · exact .inl h
      · rcases hst with hst | hst
        · exact absurd hst hbad
        · exact .inr (by omega)
  · obtain ⟨g, u4, u13, rfl, e, hg, grow, hst⟩ := q
    have shut : Shut bs g := by
      rcases hst with h | h
      · exact h
      · have := grow.few
        omega
    exact read2 Q H' bs ml tl g (.ref vt) pm pt pg _ _ _ _ _ _ _ _ _ _ _ _ _ ⟨vt, xs, rfl, e.seqT hSv, hEv.ext e⟩ G e.tabs (e.lst hm) (e.lst ht) hg (fun H2 ll e2 hll => hC H2 g ll (e.trans e2) (group_hung G grow shut) hll) hQ
end
end K00
end

section
set_option Elab.async false
set_option linter.all false
set_option maxRecDepth 100000
set_option maxHeartbeats 4000000
/-! The law of the bars: the pairs that share two beads. -/
namespace K00
open PySem PySem.Spec PyProof.Rows L2 GX GxR PG C8 ST FM
def common (bs : List (List Nat)) (i j : Nat) : List Nat := (bs.getD i []).filter fun x => (bs.getD j []).contains x
theorem twin_iff {bs : List (List Nat)} (G : Bags bs) {i j : Nat} (hi : i < bs.length) (hj : j < bs.length) : Twin (bs.map FM.mask) i j ↔ 2 ≤ (common bs i j).length := by
  have asc : FM.Asc (common bs i j) := List.Pairwise.sublist List.filter_sublist (G.asc _ (getD_mem hi))
  rw [two_len asc]
  unfold Twin
  rw [mask_getD hi, mask_getD hj, FM.holds_two]
  have bit : ∀ x, (FM.mask (bs.getD i []) &&& FM.mask (bs.getD j [])).testBit x = true ↔ x ∈ common bs i j := fun x => by
    rw [Nat.testBit_and, Bool.and_eq_true, FM.mask_bit _ (G.asc _ (getD_mem hi)), FM.mask_bit _ (G.asc _ (getD_mem hj)), decide_eq_true_eq, decide_eq_true_eq]
    unfold common
    rw [List.mem_filter, List.contains_iff_mem]
  constructor
  · rintro ⟨x, y, hxy, hx, hy⟩
    exact ⟨x, y, hxy, (bit x).mp hx, (bit y).mp hy⟩
  · rintro ⟨x, y, hxy, hx, hy⟩
    exact ⟨x, y, hxy, (bit x).mpr hx, (bit y).mpr hy⟩
/-- the pairs below (j, m): each there, each right -/
structure Pairs (bs : List (List Nat)) (tl : List (Addr × List Int)) (R : Nat → Nat → Prop) : Prop where
  is : ∀ z ∈ tl, ∃ i j : Nat, z.2 = [(j : Int), (i : Int)] ∧ R i j ∧ i < j ∧ j < bs.length ∧ Twin (bs.map FM.mask) i j
  all : ∀ i j : Nat, R i j → i < j → j < bs.length → Twin (bs.map FM.mask) i j → ∃ z ∈ tl, z.2 = [(j : Int), (i : Int)]
theorem lex2 {a b c d : Int} : ([a, b] : List Int) < [c, d] ↔ a < c ∨ (a = c ∧ b < d) := by
  rw [List.cons_lt_cons_iff, List.cons_lt_cons_iff]
  simp
theorem pairs_t1 {bs : List (List Nat)} {tl : List (Addr × List Int)} (p : Pairs bs tl fun _ _ => True) {z : Addr × List Int} (hz : z ∈ tl) (hle : ∀ y ∈ tl, z.2 ≤ y.2) : ∃ i j : Nat, z.2 = [(j : Int), (i : Int)] ∧ Dbl (bs.map FM.mask) i j := by
  obtain ⟨i, j, e, _, hij, hj, ht⟩ := p.is z hz
  refine ⟨i, j, e, hij, by rw [List.length_map]; exact hj, ht, fun i' j' h1 h2 h3 h4 => ?_⟩
  rw [List.length_map] at h2
  obtain ⟨y, hy, ey⟩ := p.all i' j' trivial h1 h2 h4
  have := hle y hy
  rw [e, ey] at this
  exact this (lex2.mpr (by omega))
section
variable {P : Program} {w : World} {K : PySem.W.Frag} {mg : Str → Option Value} {base : Heap}
theorem partT (T : Txt K mg base) {A : Around} {outer : List Env} {s : Shared} {H0 : Hp} {E : XK} (hr : Room 12 (A.deeper (envOfC "law" (dd "law" p_law).scope s.heap.objs.size (He.ga K "law") (.ref (cA K "law"))))) :
    ∃ t, PSs (cxOf C8.CX0 P w K mg base nLaw "law" (dd "law" p_law).scope (He.ga K "law") (.ref (cA K "law")) A outer s H0 E).nox ((dd "law" p_law).body.drop 7) t ∧
      ∀ (Q : VK) (H : Hp) (bs : List (List Nat)) (ml : List Nat) (v : V) (pm : Addr) (s0 s1 s2 s3 s4 s6 s8 s9 s10 s11 s12 s13 s14 s15 s16 : Option V),
        IsBs K H v bs → Bags bs → bs.length ≤ 30 → Tabs (tabs K) H → H pm = some (.lst (bagV ml)) → (ml = [] → Full (bs.map FM.mask)) → (∀ k l, ml = k :: l → Miss (bs.map FM.mask) k) → (∀ H', Q (.bl true) H') →
        t { nx := fun _ H' => Q .non H', rt := Q } [s0, s1, s2, s3, s4, some v, s6, some (.ref pm), s8, s9, s10, s11, s12, s13, s14, s15, s16] H := by
  obtain ⟨t2, hp2, read2⟩ := partG (P := P) (w := w) (A := A) (outer := outer) (s := s) (H0 := H0) (E := E) T hr
  refine ⟨_, pss_cons (ps_set (i := 9) sc_law.nd rfl (.inl rfl) (pe_lst pa_nil))
    (pss_cons (ps_for PassesOwn.never rfl (pi_range1 rfl T.n (pa_cons (pe_callB (lenK (K := K) rfl) rfl T.n PySem.boot_len (pa_cons (pv 5) pa_nil)) pa_nil)) (pg_name (i := 10) sc_law.nd rfl (.inr rfl))
      (pss_one (ps_set (i := 9) sc_law.nd rfl (.inl rfl) (pe_op op_cat (pv 9)
        (pe_lc (own := [("one", 11)]) (g := gName 11) rfl sc_law.nd (pi_range1 rfl T.n (pa_cons (pv 10) pa_nil)) (blkOk_by (by kernel_rfl)) (fun _ _ _ _ _ => pg_name (i := 11) sc_law.nd rfl (Or.inl rfl))
          (fun _ _ _ _ _ => pts_one (pt_cmpR op_gt (pe_callB (lenK (K := K) rfl) rfl T.n PySem.boot_len (pa_cons
            (pe_lc (own := [("bead", 8)]) (g := gName 8) rfl sc_law.nd (piTK (K := K) rfl (pe_ix (ixTK (K := K) rfl) (pv 5) (pv 11) (fun _ _ => rfl))) (blkOk_by (by kernel_rfl)) (fun _ _ _ _ _ => pg_name (i := 8) sc_law.nd rfl (Or.inl rfl))
              (fun _ _ _ _ _ => pts_one (pt_cmpR (inK2 (K := K) rfl) (pv 8) (pe_ix (ixTK (K := K) rfl) (pv 5) (pv 10) (fun _ _ => rfl)) rfl)) (fun _ _ _ _ _ => pe_int)) pa_nil)) pe_int (nomark _)))
          (fun _ _ _ _ _ => pe_tup (pa_cons (pv 10) (pa_cons (pv 11) pa_nil))))))))
    hp2), ?_⟩
  intro Q H bs ml v pm s0 s1 s2 s3 s4 s6 s8 s9 s10 s11 s12 s13 s14 s15 s16 hB G h30 hT hm hm0 hm1 hQ
  obtain ⟨vt, xs, rfl, hSv, hEv⟩ := hB
  have hlb : bs.length ≤ small := G.few
  have en : ((bs.length : Nat) : Int).toNat = bs.length := Int.toNat_natCast _
  refine ⟨Nat.zero_le _, fun p0 hp0 => ?_⟩
  have e1 := Ext.new (o := .lst []) hT hp0
  refine ⟨_, rfl, _, bs.length, rfl, .inr ⟨_, e1.seqT hSv, hEv.len.symm⟩, _, rfl, (small62 hlb).1, (small62 hlb).2, ?_⟩
  rw [en]
  refine for_range (lo := 0) (fun j σ H' => ∃ (tl : List (Addr × List Int)) (pt : Addr) (u10 : Option V), σ = [s0, s1, s2, s3, s4, some (.ref vt), s6, some (.ref pm), s8, some (.ref pt), u10, s11, s12, s13, s14, s15, s16] ∧ Ext (tabs K) H H' ∧ H' pt = some (.lst (tl.map fun z => V.ref z.1)) ∧ (∀ z ∈ tl, H' z.1 = some (.tup (z.2.map V.int))) ∧ Pairs bs tl (fun _ j' => j' < j) ∧ tl.length ≤ j * 30)
    ⟨[], p0, _, rfl, e1, by rw [upd_same]; rfl, fun z hz => (by cases hz), ⟨fun z hz => (by cases hz), fun i j h => absurd h (Nat.not_lt_zero j)⟩, by simp⟩ (fun j σ H' hj q => ?_) (fun σ H' q => ?_)
  · obtain ⟨tl, pt, u10, rfl, e, hpt, htt, hp, hlen⟩ := q
    have ej : (0 : Int) + (j : Int) = (j : Int) := by omega
    rw [ej]
    have hj1 : j ≤ small := Nat.le_trans (Nat.le_of_lt hj) hlb
    have gbj : bs[j]? = some (bs.getD j []) := by rw [List.getD_eq_getElem?_getD, List.getElem?_eq_getElem hj]; rfl
    obtain ⟨bj, hbj⟩ : ∃ bj, xs[j]? = some bj := ⟨xs[j]'(by rw [hEv.len]; exact hj), List.getElem?_eq_getElem _⟩
    obtain ⟨tj, rfl, htj⟩ := hEv.is j bj _ hbj gbj
    have enj : ((j : Nat) : Int).toNat = j := Int.toNat_natCast _
    refine ⟨_, rfl, _, rfl, _, rfl, (small62 hj1).1, (small62 hj1).2, fun D hD => ?_⟩
    rw [enj]
    refine lc_range (lo := 0) (fun i H'' => Ext (tabs K) H' H'' ∧ ∃ zs : List (Addr × List Int), H'' D = some (.lst (zs.map fun z => V.ref z.1)) ∧ (∀ z ∈ zs, H'' z.1 = some (.tup (z.2.map V.int))) ∧ Pairs bs zs (fun i' j' => j' = j ∧ i' < i) ∧ zs.length ≤ i) ⟨Ext.new e.tabs hD, [], by rw [upd_same]; rfl, fun z hz => (by cases hz), ⟨fun z hz => (by cases hz), fun i j h => absurd h.2 (Nat.not_lt_zero i)⟩, Nat.le_refl _⟩ (fun i H'' hi z => ?_) (fun H'' z => ?_)
    · obtain ⟨e2, zs, hD2, hz2, hpz, hzl⟩ := z
      have ei : (0 : Int) + (i : Int) = (i : Int) := by omega
      rw [ei]
      have hin : i < bs.length := by omega
      have gbi : bs[i]? = some (bs.getD i []) := by rw [List.getD_eq_getElem?_getD, List.getElem?_eq_getElem hin]; rfl
      obtain ⟨bi, hbi⟩ : ∃ bi, xs[i]? = some bi := ⟨xs[i]'(by rw [hEv.len]; exact hin), List.getElem?_eq_getElem _⟩
      obtain ⟨ti, rfl, hti⟩ := hEv.is i bi _ hbi gbi
      have hbl : (bs.getD i []).length ≤ 60 := asc_len _ (G.asc _ (getD_mem hin)) 60 (G.lt _ (getD_mem hin))
      have E2 := e.trans e2
      refine ⟨rfl, _, rfl, _, rfl, vt, _, _, _, rfl, rfl, E2.seqT hSv, atI_nat hbi, ti, rfl, ⟨_, E2.seqT hti⟩, fun D2 hD2' => ?_⟩
      refine lc_src (T := tabs K) (src_tup (K := K) (a := ti) (xs := bagV (bs.getD i []))) ((bs.getD i []).map fun x => if (bs.getD j []).contains x = true then some (V.int 1) else none) (by rw [List.length_map, bagV_len]) (by rw [bagV_len]; exact small_line (Nat.le_trans hbl (by decide))) e2.tabs hD2' (fun H4 e4 => (E2.trans e4).seqT hti) (fun i2 z gv2 H4 N2 Y2 hz hg2 e4 hN2 hY2 => ?_) (fun H4 e4 eD2 => ?_)
      · obtain ⟨x, hxi, hgv2⟩ := if_get (p := fun x => (bs.getD j []).contains x) (f := fun _ : Nat => V.int 1) hg2
        obtain ⟨x', hx', rfl⟩ := get_bagV hz
        rw [hxi] at hx'
        cases hx'
        refine ⟨rfl, _, rfl, _, rfl, _, rfl, vt, _, _, _, rfl, rfl, (E2.trans e4).seqT hSv, atI_nat hbj, tj, _, rfl, .inr ((E2.trans e4).seqT htj), rfl, flat_bag _, _, rfl, ?_⟩
        show if inV (.int (x : Int)) (bagV (bs.getD j [])) = true then _ else _
        rw [in_bag2]
        refine ite2 (fun c => ?_) fun c => ?_
        · exact hY2 _ _ (by rw [hgv2, if_pos c]) (Ext.refl e4.tabs)
        · exact hN2 _ (by rw [hgv2, if_neg c]) (Ext.refl e4.tabs)
      · rw [fm_if (fun x => (bs.getD j []).contains x) (fun _ : Nat => V.int 1)] at eD2
        have el : (((bs.getD i []).filter fun x => (bs.getD j []).contains x).map fun _ : Nat => V.int 1).length = (common bs i j).length := by rw [List.length_map]; rfl
        have tw := twin_iff G hin hj
        refine ⟨_, _, rfl, .inl ⟨_, SqL.of eD2, rfl⟩, _, _, rfl, rfl, _, rfl, ?_⟩
        rw [el]
        refine ite2 (fun c => ?_) fun c => ?_
        · have c := of_decide_eq_true c
          have htw := tw.mpr (by omega)
          refine ⟨_, rfl, _, rfl, small_line (n := 2) (by decide), fun z hzn => ?_⟩
          have n5 := Ext.new (o := .tup [.int (j : Int), .int (i : Int)]) e4.tabs hzn
          have E5 := (e2.trans e4).trans n5
          have hD5 := (e4.trans n5).lst hD2
          refine ⟨_, hD5, ?_, E5.set hD ⟨_, hD5, fun ps y => by cases y⟩, zs ++ [(z, [(j : Int), (i : Int)])], ?_, ?_, ?_, ?_⟩
          · rw [List.length_map]; exact small1000 (by omega)
          · rw [upd_same, List.map_append]; rfl
          · intro y hy
            have hzD : z ≠ D := fun h => by rw [h, e4.lst hD2] at hzn; cases hzn
            rcases List.mem_append.mp hy with q | q
            · have h1 := hz2 y q
              rw [upd_ne (fun h => by rw [h, hD2] at h1; cases h1)]
              exact (e4.trans n5).tup h1
            · rw [List.mem_singleton.mp q, upd_ne hzD, upd_same]
              rfl
          · refine ⟨fun y hy => ?_, fun i' j' h1 h2 h3 h4 => ?_⟩
            · rcases List.mem_append.mp hy with q | q
              · obtain ⟨a, b, g1, g2, g3⟩ := hpz.is y q
                exact ⟨a, b, g1, ⟨g2.1, by omega⟩, g3⟩
              · rw [List.mem_singleton.mp q]
                exact ⟨i, j, rfl, ⟨rfl, Nat.lt_succ_self i⟩, hi, hj, htw⟩
            · by_cases ee : i' = i
              · exact ⟨_, List.mem_append_right _ (List.mem_singleton.mpr rfl), by rw [ee, h1.1]⟩
              · obtain ⟨y, hy, ey⟩ := hpz.all i' j' ⟨h1.1, by omega⟩ h2 h3 h4
                exact ⟨y, List.mem_append_left _ hy, ey⟩
          · rw [List.length_append]; simp; omega
        · have c2 : ¬ Twin (bs.map FM.mask) i j := fun y => c (decide_eq_true (by have := tw.mp y; omega))
          refine ⟨e2.trans e4, zs, e4.lst hD2, fun y hy => e4.tup (hz2 y hy), ⟨fun y hy => ?_, fun i' j' h1 h2 h3 h4 => ?_⟩, by omega⟩
          · obtain ⟨a, b, g1, g2, g3⟩ := hpz.is y hy
            exact ⟨a, b, g1, ⟨g2.1, by omega⟩, g3⟩
          · by_cases ee : i' = i
            · rw [ee, h1.1] at h4
              exact absurd h4 c2
            · exact hpz.all i' j' ⟨h1.1, by omega⟩ h2 h3 h4
    · obtain ⟨e2, zs, hD2, hz2, hpz, hzl⟩ := z
      have E2 := e.trans e2
      refine ⟨pt, D, _, _, rfl, rfl, e2.lst hpt, hD2, ?_, fun p2 hp2n => ?_⟩
      · rw [List.length_map, List.length_map]
        exact small_line (show _ ≤ 1000 by
          have : j * 30 ≤ 29 * 30 := Nat.mul_le_mul_right 30 (by omega)
          omega)
      · have n5 := Ext.new (o := .lst ((tl.map fun z => V.ref z.1) ++ zs.map fun z => V.ref z.1)) e2.tabs hp2n
        refine ⟨tl ++ zs, p2, _, rfl, E2.trans n5, by rw [upd_same, List.map_append], fun y hy => ?_, ⟨fun y hy => ?_, fun i' j' h1 h2 h3 h4 => ?_⟩, ?_⟩
        · rcases List.mem_append.mp hy with q | q
          · exact (e2.trans n5).tup (htt y q)
          · exact n5.tup (hz2 y q)
        · rcases List.mem_append.mp hy with q | q
          · obtain ⟨a, b, g1, g2, g3⟩ := hp.is y q
            exact ⟨a, b, g1, by omega, g3⟩
          · obtain ⟨a, b, g1, g2, g3⟩ := hpz.is y q
            exact ⟨a, b, g1, by omega, g3⟩
        · by_cases ee : j' = j
          · obtain ⟨y, hy, ey⟩ := hpz.all i' j' ⟨ee, by omega⟩ h2 h3 h4
            exact ⟨y, List.mem_append_right _ hy, ey⟩
          · obtain ⟨y, hy, ey⟩ := hp.all i' j' (by omega) h2 h3 h4
            exact ⟨y, List.mem_append_left _ hy, ey⟩
        · rw [List.length_append]
          omega
  · obtain ⟨tl, pt, u10, rfl, e, hpt, htt, hp, hlen⟩ := q
    have hp2 : Pairs bs tl fun _ _ => True := ⟨fun z hz => by obtain ⟨a, b, g1, g2, g3⟩ := hp.is z hz; exact ⟨a, b, g1, trivial, g3⟩, fun i' j' _ h2 h3 h4 => hp.all i' j' h3 h2 h3 h4⟩
    refine read2 Q H' bs ml tl (.ref vt) pm pt _ _ _ _ _ _ _ _ _ _ _ _ _ _ ⟨vt, xs, rfl, e.seqT hSv, hEv.ext e⟩ G e.tabs (e.lst hm) hpt (fun H2 gl ll e2 hg hl => ⟨hm0, hm1, fun etl => ?_, fun z hz hle => pairs_t1 hp2 hz hle, fun z hz => e2.tup (htt z hz), fun z hz => ?_, hg, hl⟩) hQ
    · intro i j h1 h2 h3
      rw [List.length_map] at h2
      obtain ⟨z, hz, _⟩ := hp2.all i j trivial h1 h2 h3
      rw [etl] at hz
      cases hz
    · obtain ⟨a, b, g1, _⟩ := hp2.is z hz
      exact ⟨_, _, g1⟩
end
end K00
end

section
set_option Elab.async false
set_option linter.all false
set_option maxRecDepth 100000
set_option maxHeartbeats 4000000
/-! The law of the bars: the missing beads. -/
namespace K00
open PySem PySem.Spec PyProof.Rows L2 GX GxR PG C8 ST FM
theorem filter_first {n : Nat} {p : Nat → Bool} {k : Nat} {l : List Nat} (h : (List.range n).filter p = k :: l) : k < n ∧ p k = true ∧ ∀ j, j < k → p j = false := by
  have hk : k ∈ (List.range n).filter p := by rw [h]; simp
  obtain ⟨h1, h2⟩ := List.mem_filter.mp hk
  refine ⟨List.mem_range.mp h1, h2, fun j hj => ?_⟩
  cases e : p j with
  | false => rfl
  | true =>
    have hm : j ∈ (List.range n).filter p := List.mem_filter.mpr ⟨List.mem_range.mpr (by have := List.mem_range.mp h1; omega), e⟩
    have pw : ((List.range n).filter p).Pairwise (· < ·) := List.Pairwise.sublist List.filter_sublist List.pairwise_lt_range
    rw [h] at hm pw
    rcases List.mem_cons.mp hm with q | q
    · omega
    · have := (List.pairwise_cons.mp pw).1 j q
      omega
theorem last_mem {b : List Nat} (h : b ≠ []) : b.getLastD 0 ∈ b := by
  obtain ⟨l, e⟩ := last_split h
  rw [e]
  simp
theorem last_max {b : List Nat} (h : b ≠ []) (a : FM.Asc b) : ∀ x ∈ b, x ≤ b.getLastD 0 := by
  obtain ⟨l, e⟩ := last_split h
  intro x hx
  rw [e] at hx a
  obtain ⟨_, a2⟩ := FM.asc_snoc a
  rcases List.mem_append.mp hx with q | q
  · exact Nat.le_of_lt (a2 x q)
  · rw [List.mem_singleton.mp q]; exact Nat.le_refl _
theorem Bags.bne {bs : List (List Nat)} (G : Bags bs) {b : List Nat} (h : b ∈ bs) : b ≠ [] := fun z => by
  have := G.two b h
  rw [z] at this
  simp at this
theorem held_in {bs : List (List Nat)} (G : Bags bs) (x : Nat) : (FM.held (bs.map FM.mask)).testBit x = true ↔ ∃ b ∈ bs, x ∈ b := by
  rw [FM.held_bit, List.any_eq_true]
  constructor
  · rintro ⟨m, hm, hb⟩
    obtain ⟨b, hbm, rfl⟩ := List.mem_map.mp hm
    rw [FM.mask_bit b (G.asc b hbm), decide_eq_true_eq] at hb
    exact ⟨b, hbm, hb⟩
  · rintro ⟨b, hb, hx⟩
    exact ⟨_, List.mem_map.mpr ⟨b, hb, rfl⟩, by rw [FM.mask_bit b (G.asc b hb), decide_eq_true_eq]; exact hx⟩
theorem bits_top {h x : Nat} (h1 : h.testBit x = true) (h2 : ∀ k, x < k → h.testBit k = false) : Builtin.Int.intBits ((h : Nat) : Int) = x + 1 := by
  have hne : h ≠ 0 := fun z => by rw [z] at h1; simp at h1
  have e : Builtin.Int.intBits ((h : Nat) : Int) = h.log2 + 1 := by
    unfold Builtin.Int.intBits
    rw [if_neg (by simpa using hne)]
    simp
  have top : h.testBit h.log2 = true := Nat.testBit_log2 hne
  have a : h.log2 ≤ x := by
    apply Nat.le_of_not_lt
    intro z
    rw [h2 _ z] at top
    cases top
  have b : x ≤ h.log2 := by
    apply Nat.le_of_not_lt
    intro z
    have := Nat.lt_of_lt_of_le (Nat.lt_log2_self (n := h)) (Nat.pow_le_pow_right (by decide : 0 < 2) (show h.log2 + 1 ≤ x by omega))
    rw [Nat.testBit_lt_two_pow this] at h1
    cases h1
  omega
section
variable {P : Program} {w : World} {K : PySem.W.Frag} {mg : Str → Option Value} {base : Heap}
theorem partM (T : Txt K mg base) {A : Around} {outer : List Env} {s : Shared} {H0 : Hp} {E : XK} (hr : Room 12 (A.deeper (envOfC "law" (dd "law" p_law).scope s.heap.objs.size (He.ga K "law") (.ref (cA K "law"))))) :
    ∃ t, PSs (cxOf C8.CX0 P w K mg base nLaw "law" (dd "law" p_law).scope (He.ga K "law") (.ref (cA K "law")) A outer s H0 E).nox ((dd "law" p_law).body.drop 5) t ∧
      ∀ (Q : VK) (H : Hp) (bs : List (List Nat)) (v : V) (s0 s1 s2 s3 s4 s6 s7 s8 s9 s10 s11 s12 s13 s14 s15 s16 : Option V),
        IsBs K H v bs → Bags bs → bs.length ≤ 30 → Tabs (tabs K) H → (∀ H', Q (.bl true) H') →
        t { nx := fun _ H' => Q .non H', rt := Q } [s0, s1, s2, s3, s4, some v, s6, s7, s8, s9, s10, s11, s12, s13, s14, s15, s16] H := by
  obtain ⟨t2, hp2, read2⟩ := partT (P := P) (w := w) (A := A) (outer := outer) (s := s) (H0 := H0) (E := E) T hr
  refine ⟨_, pss_cons (ps_set (i := 2) sc_law.nd rfl (.inr rfl) (pe_op op_add pe_int (pe_callB (cr_max rfl) rfl T.n PyProof.Rows.boot_max (pa_cons
      (pe_lc (own := [("bag", 6)]) (g := gName 6) (tt := tYes) rfl sc_law.nd (pi_tup (pv 5)) (blkOk_by (by kernel_rfl)) (fun _ _ _ _ _ => pg_name (i := 6) sc_law.nd rfl (Or.inl rfl)) (fun _ _ _ _ _ => pts_nil)
        (fun _ _ _ _ _ => pe_ix (ixTK (K := K) rfl) (pv 6) (pe_un un_neg pe_int) (fun _ _ => rfl))) pa_nil))))
    (pss_cons (ps_setLc (i := 7) (own := [("bead", 8)]) (g := gName 8) rfl sc_law.nd rfl rfl (sw_true rfl rfl rfl (by decide +kernel)) (pi_range1 rfl T.n (pa_cons (pv 2) pa_nil)) (blkOk_by (by kernel_rfl)) (fun _ _ _ _ _ => pg_name (i := 8) sc_law.nd rfl (Or.inr rfl))
      (fun _ _ _ _ _ => pts_one (pt_cmpR (eqDK (K := K) rfl (room64 hr)) (pe_lc (own := [("bag", 6)]) (g := gName 6) rfl sc_law.nd (piTK (K := K) rfl (pv 5)) (blkOk_by (by kernel_rfl)) (fun _ _ _ _ _ => pg_name (i := 6) sc_law.nd rfl (Or.inl rfl))
        (fun _ _ _ _ _ => pts_one (pt_cmpR (inK2 (K := K) rfl) (pv 8) (pv 6) rfl)) (fun _ _ _ _ _ => pe_int)) (pe_lst pa_nil) (nomark _))) (fun _ _ _ _ _ => pv 8))
    hp2), ?_⟩
  intro Q H bs v s0 s1 s2 s3 s4 s6 s7 s8 s9 s10 s11 s12 s13 s14 s15 s16 hB G h30 hT hQ
  obtain ⟨vt, xs, rfl, hSv, hEv⟩ := hB
  refine ⟨_, rfl, vt, rfl, ⟨_, hSv⟩, fun D hD => ?_⟩
  refine lc_src (T := tabs K) (src_tup (K := K) (a := vt) (xs := xs)) (bs.map fun b => some (V.int (lastI b))) (by rw [List.length_map, hEv.len]) (by rw [hEv.len]; exact small_line G.few) hT hD (fun H' e => e.seqT hSv) (fun i x gv H' N Y hx hg e hN hY => ?_) (fun H' e eD => ?_)
  · obtain ⟨b, hb, rfl⟩ := gs_get hg
    obtain ⟨p, rfl, hSb⟩ := hEv.is i x b hx hb
    exact ⟨rfl, tyes_if ⟨_, rfl, _, rfl, p, _, _, _, rfl, rfl, e.seqT hSb, bag_last (G.bne (List.mem_of_getElem? hb)), hY _ _ rfl (Ext.refl e.tabs)⟩⟩
  · rw [fm_map (fun b : List Nat => V.int (lastI b))] at eD
    have em : (bs.map fun b => V.int (lastI b)) = (bs.map lastI).map V.int := by simp
    rw [em] at eD
    refine ⟨D, bs.map lastI, rfl, SqL.of eD, by rw [List.length_map]; exact List.length_pos_iff.mpr G.ne, fun m h1 h2 => ⟨_, _, rfl, rfl, ?_⟩⟩
    obtain ⟨b0, hb0, rfl⟩ := List.mem_map.mp h1
    generalize ex : b0.getLastD 0 = x
    have hl0 : lastI b0 = (x : Int) := by unfold lastI; rw [ex]
    have hxb : x ∈ b0 := by rw [← ex]; exact last_mem (G.bne hb0)
    have hx60 := G.lt b0 hb0 x hxb
    have hmax : ∀ b ∈ bs, ∀ y ∈ b, y ≤ x := fun b hb y hy => by
      have a := last_max (G.bne hb) (G.asc b hb) y hy
      have c := h2 _ (List.mem_map.mpr ⟨b, hb, rfl⟩)
      rw [hl0] at c
      unfold lastI at c
      omega
    have bits : Builtin.Int.intBits ((FM.held (bs.map FM.mask) : Nat) : Int) = x + 1 := bits_top ((held_in G x).mpr ⟨b0, hb0, hxb⟩) fun k hk => by
      cases e : (FM.held (bs.map FM.mask)).testBit k with
      | false => rfl
      | true =>
        obtain ⟨b, hb, hy⟩ := (held_in G k).mp e
        have := hmax b hb k hy
        omega
    rw [hl0]
    have hn62 := small62 (n := x + 1) (show x + 1 ≤ 1000 by omega)
    have en : ((1 : Int) + (x : Int)).toNat = x + 1 := by omega
    refine ⟨_, rfl, 1 + (x : Int), rfl, by omega, by omega, fun D2 hD2 => ?_⟩
    rw [en]
    refine lc_src (T := tabs K) (src_rng (lo := 0) (n := x + 1)) ((List.range (x + 1)).map fun k => if (!(bs.any fun b => b.contains k)) = true then some (V.int (k : Int)) else none) (by rw [List.length_map, List.length_range, rngV_length]) (by rw [rngV_length]; exact small_line (show x + 1 ≤ 1000 by omega)) e.tabs hD2 (fun _ _ => trivial) (fun i u gv H3 N Y hu hg e3 hN hY => ?_) (fun H3 e3 eD2 => ?_)
    · have hi := (List.getElem?_eq_some_iff.mp hu).1
      rw [rngV_length] at hi
      rw [rngV_get hi] at hu
      have ev : u = V.int (i : Int) := by rw [← Option.some.inj hu]; congr 1; omega
      subst ev
      obtain ⟨k, hk, hgv⟩ := if_get (p := fun k => !(bs.any fun b => b.contains k)) (f := fun k : Nat => V.int (k : Int)) hg
      have hki : k = i := by
        rw [List.getElem?_range hi] at hk
        exact (Option.some.inj hk).symm
      subst hki
      have E3 := e.trans e3
      refine ⟨rfl, _, rfl, vt, rfl, ⟨_, E3.seqT hSv⟩, fun D3 hD3 => ?_⟩
      refine lc_src (T := tabs K) (src_tup (K := K) (a := vt) (xs := xs)) (bs.map fun b => if b.contains k = true then some (V.int 1) else none) (by rw [List.length_map, hEv.len]) (by rw [hEv.len]; exact small_line G.few) e3.tabs hD3 (fun H'' e'' => (E3.trans e'').seqT hSv) (fun j y gv2 H'' N2 Y2 hy hg2 e'' hN2 hY2 => ?_) (fun H'' e'' eD3 => ?_)
      · obtain ⟨b, hb, hgv2⟩ := if_get (p := fun b : List Nat => b.contains k) (f := fun _ : List Nat => V.int 1) hg2
        obtain ⟨p, rfl, hSb⟩ := hEv.is j y b hy hb
        refine ⟨rfl, _, rfl, _, rfl, p, _, rfl, .inr ((E3.trans e'').seqT hSb), rfl, flat_bag b, _, rfl, ?_⟩
        show if inV (.int (k : Int)) (bagV b) = true then _ else _
        rw [in_bag2]
        refine ite2 (fun z => ?_) fun z => ?_
        · exact hY2 _ _ (by rw [hgv2, if_pos z]) (Ext.refl e''.tabs)
        · exact hN2 _ (by rw [hgv2, if_neg z]) (Ext.refl e''.tabs)
      · rw [fm_if (fun b : List Nat => b.contains k) (fun _ : List Nat => V.int 1)] at eD3
        have e1s : (bs.filter fun b => b.contains k).map (fun _ : List Nat => V.int 1) = bagV ((bs.filter fun b => b.contains k).map fun _ => 1) := by simp [bagV]
        rw [e1s] at eD3
        refine ⟨Nat.zero_le _, fun q hq => ?_⟩
        have n5 := Ext.new (o := .lst []) e''.tabs hq
        refine ⟨_, _, .lst (SqL.of (n5.lst eD3)) (dp_bagV _), .lst (SqL.of upd_same) .nil, shaped_nats _, rfl, _, rfl, ?_⟩
        rw [eqv_nil_ints]
        have ea : decide (((bs.filter fun b => b.contains k).map fun _ => 1) = []) = !(bs.any fun b => b.contains k) := by
          rw [Bool.eq_iff_iff]
          simp
        rw [ea]
        refine ite2 (fun c => ?_) fun c => ?_
        · exact ⟨_, rfl, hY _ _ (by rw [hgv, if_pos c]) (e''.trans n5)⟩
        · exact hN _ (by rw [hgv, if_neg c]) (e''.trans n5)
    · rw [fm_if (fun k => !(bs.any fun b => b.contains k)) (fun k : Nat => V.int (k : Int))] at eD2
      have eD2 : H3 D2 = some (.lst (bagV ((List.range (x + 1)).filter fun k => !(bs.any fun b => b.contains k)))) := eD2
      have E3 := e.trans e3
      have bitn : ∀ k, (bs.any fun b => b.contains k) = (FM.held (bs.map FM.mask)).testBit k := fun k => by
        rw [Bool.eq_iff_iff, held_in G, List.any_eq_true]
        constructor
        · rintro ⟨b, hb, h⟩
          exact ⟨b, hb, List.contains_iff_mem.mp h⟩
        · rintro ⟨b, hb, h⟩
          exact ⟨b, hb, List.contains_iff_mem.mpr h⟩
      refine read2 Q H3 bs _ (.ref vt) D2 _ _ _ _ _ _ _ _ _ _ _ _ _ _ _ ⟨vt, xs, rfl, E3.seqT hSv, hEv.ext E3⟩ G h30 E3.tabs eD2 (fun h j hj => ?_) (fun k l h => ?_) hQ
      · rw [bits] at hj
        rw [← bitn j]
        cases e : (bs.any fun b => b.contains j) with
        | true => rfl
        | false =>
          have : j ∈ (List.range (x + 1)).filter fun k => !(bs.any fun b => b.contains k) := List.mem_filter.mpr ⟨List.mem_range.mpr hj, by rw [e]; rfl⟩
          rw [h] at this
          cases this
      · obtain ⟨g1, g2, g3⟩ := filter_first h
        refine ⟨by rw [bits]; exact g1, ?_, fun j hj => ?_⟩
        · rw [← bitn k]
          simpa using g2
        · rw [← bitn j]
          have := g3 j hj
          simpa using this
end
end K00
end

section
set_option Elab.async false
set_option linter.all false
set_option maxRecDepth 100000
set_option maxHeartbeats 4000000
/-! The law of the bars: the bags, from what was drawn. -/
namespace K00
open PySem PySem.Spec PyProof.Rows L2 GX GxR PG C8 ST FM
theorem nodup_sub_len {α : Type} [DecidableEq α] : ∀ (a b : List α), a.Nodup → (∀ x ∈ a, x ∈ b) → a.length ≤ b.length
  | [], _, _, _ => Nat.zero_le _
  | x :: r, b, nd, h => by
    obtain ⟨h1, h2⟩ := List.nodup_cons.mp nd
    have hx := h x (by simp)
    have := nodup_sub_len r (b.erase x) h2 fun y hy => (List.mem_erase_of_ne (fun e => h1 (by rw [← e]; exact hy))).mpr (h y (List.mem_cons_of_mem _ hy))
    have e := List.length_erase_of_mem hx
    have p := List.length_pos_of_mem hx
    rw [List.length_cons]
    omega
def OkB (b : List Nat) : Prop := FM.Asc b ∧ 2 ≤ b.length ∧ ∀ x ∈ b, x < 60
/-- the tuples drawn -/
structure Pool (K : PySem.W.Frag) (H : Hp) (D : Addr) (ts : List (Addr × List Nat)) : Prop where
  at_ : H D = some (.lst (ts.map fun z => V.ref z.1))
  is : ∀ z ∈ ts, SqT K H z.1 (bagV z.2) ∧ OkB z.2
  ne : ts ≠ []
  few : ts.length ≤ 30
section
variable {P : Program} {w : World} {K : PySem.W.Frag} {mg : Str → Option Value} {base : Heap}
theorem partS (T : Txt K mg base) {A : Around} {outer : List Env} {s : Shared} {H0 : Hp} {E : XK} (hr : Room 12 (A.deeper (envOfC "law" (dd "law" p_law).scope s.heap.objs.size (He.ga K "law") (.ref (cA K "law"))))) :
    ∃ t, PSs (cxOf C8.CX0 P w K mg base nLaw "law" (dd "law" p_law).scope (He.ga K "law") (.ref (cA K "law")) A outer s H0 E).nox ((dd "law" p_law).body.drop 4) t ∧
      ∀ (Q : VK) (H : Hp) (D : Addr) (ts : List (Addr × List Nat)) (s0 s1 s2 s4 s5 s6 s7 s8 s9 s10 s11 s12 s13 s14 s15 s16 : Option V),
        Pool K H D ts → Tabs (tabs K) H → (∀ H', Q (.bl true) H') →
        t { nx := fun _ H' => Q .non H', rt := Q } [s0, s1, s2, some (.ref D), s4, s5, s6, s7, s8, s9, s10, s11, s12, s13, s14, s15, s16] H := by
  obtain ⟨t2, hp2, read2⟩ := partM (P := P) (w := w) (A := A) (outer := outer) (s := s) (H0 := H0) (E := E) T hr
  refine ⟨_, pss_cons (ps_set (i := 5) sc_law.nd rfl (.inr rfl) (pe_callTy (tupofK (K := K) rfl) rfl T.n (by decide +kernel) (pa_cons (pe_callB (cr_sortedU rfl (room64 hr)) rfl T.n PyProof.Rows.boot_sorted (pa_cons
      (pe_callTy (cr_setOfT rfl (room64 hr)) rfl T.n (by decide +kernel) (pa_cons (pv 3) pa_nil)) pa_nil)) pa_nil))) hp2, ?_⟩
  intro Q H D ts s0 s1 s2 s4 s5 s6 s7 s8 s9 s10 s11 s12 s13 s14 s15 s16 hP hT hQ
  let f : Addr × List Nat → Addr × List Int := fun z => (z.1, natI z.2)
  let g : Addr × List Int → Addr × List Nat := fun z => (z.1, z.2.map Int.toNat)
  have gf : ∀ z, g (f z) = z := fun z => by
    show (z.1, (natI z.2).map Int.toNat) = z
    have : (natI z.2).map Int.toNat = z.2 := by simp [natI, Function.comp_def]
    rw [this]
  have hfew := hP.few
  refine ⟨_, rfl, D, ts.map f, rfl, ?_, fun p hp => ?_, by rw [List.length_map]; omega, fun a L ha hL1 hL2 => ?_⟩
  · rw [List.map_map]
    exact SqL.of hP.at_
  · obtain ⟨z, hz, rfl⟩ := List.mem_map.mp hp
    show SqT _ _ z.1 ((natI z.2).map V.int)
    rw [natI_V]
    exact (hP.is z hz).1
  have hback : ∀ p ∈ L, ∃ z ∈ ts, p = f z := fun p hp => by
    obtain ⟨z, hz, e⟩ := List.mem_map.mp (hL1 p hp)
    exact ⟨z, hz, e.symm⟩
  have e1 : Ext (tabs K) H (upd H a (SetTO P w a L)) := Ext.new hT ha
  refine ⟨a, L, rfl, upd_same, fun p hp => ?_, fun L' p hperm hnd hlen hpw hpn => ?_⟩
  · obtain ⟨z, hz, rfl⟩ := hback p hp
    refine ⟨?_, fun h => ?_⟩
    · show SqT _ _ z.1 ((natI z.2).map V.int)
      rw [natI_V]
      exact e1.seqT (hP.is z hz).1
    · have h : natI z.2 = [] := h
      have h2 := (hP.is z hz).2.2.1
      have : z.2.length = 0 := by have := congrArg List.length h; simpa [natI] using this
      omega
  have hback2 : ∀ p ∈ L', ∃ z ∈ ts, p = f z := fun p hp => hback p (hperm.mem_iff.mp hp)
  have e2 := e1.trans (Ext.new (o := .lst (L'.map fun q => V.ref q.1)) e1.tabs hpn)
  refine ⟨p, _, rfl, .inl ⟨SqL.of upd_same, fun l hln => ?_⟩⟩
  have e3 := e2.trans (Ext.new (o := .tup (L'.map fun q => V.ref q.1)) e2.tabs hln)
  have hnd2 : L'.Nodup := by
    have := List.pairwise_map.mp hnd
    exact this.imp fun h e => h (by rw [e])
  have hl30 : L'.length ≤ 30 := by
    have := nodup_sub_len L' (ts.map f) hnd2 fun x hx => by
      obtain ⟨z, hz, rfl⟩ := hback2 x hx
      exact List.mem_map.mpr ⟨z, hz, rfl⟩
    rw [List.length_map] at this
    omega
  have hmem : ∀ b ∈ (L'.map fun q => (g q).2), ∃ z ∈ ts, b = z.2 := fun b hb => by
    obtain ⟨q, hq, rfl⟩ := List.mem_map.mp hb
    obtain ⟨z, hz, rfl⟩ := hback2 q hq
    exact ⟨z, hz, by rw [gf]⟩
  have hsnd : ∀ q ∈ L', natI (g q).2 = q.2 := fun q hq => by
    obtain ⟨z, hz, rfl⟩ := hback2 q hq
    rw [gf]
  have hlen2 : (L'.map fun q => (g q).2).length = L'.length := List.length_map ..
  have B : Bags (L'.map fun q => (g q).2) := by
    refine ⟨fun b hb => ?_, fun b hb => ?_, fun b hb => ?_, by rw [hlen2]; show L'.length ≤ 1000; omega, fun h => ?_, fun i b c hb hc => ?_⟩
    · obtain ⟨z, hz, rfl⟩ := hmem b hb
      exact (hP.is z hz).2.1
    · obtain ⟨z, hz, rfl⟩ := hmem b hb
      exact (hP.is z hz).2.2.1
    · obtain ⟨z, hz, rfl⟩ := hmem b hb
      exact (hP.is z hz).2.2.2
    · have hL' : L' = [] := by simpa using h
      obtain ⟨z, r, ez⟩ : ∃ z r, ts = z :: r := by
        cases e : ts with
        | nil => exact absurd e hP.ne
        | cons z r => exact ⟨z, r, rfl⟩
      have := hL2 (f z) (List.mem_map.mpr ⟨z, by rw [ez]; simp, rfl⟩)
      obtain ⟨q, hq, _⟩ := List.mem_map.mp this
      have := hperm.mem_iff.mpr hq
      rw [hL'] at this
      cases this
    · rw [List.getElem?_map] at hb hc
      cases e1' : L'[i]? with
      | none => rw [e1'] at hb; cases hb
      | some q =>
        cases e2' : L'[i + 1]? with
        | none => rw [e2'] at hc; cases hc
        | some r =>
          rw [e1'] at hb
          rw [e2'] at hc
          cases hb
          cases hc
          obtain ⟨hi, eq⟩ := List.getElem?_eq_some_iff.mp e1'
          obtain ⟨hj, er⟩ := List.getElem?_eq_some_iff.mp e2'
          have le := (List.pairwise_iff_getElem.mp hpw) i (i + 1) hi hj (Nat.lt_succ_self i)
          have ne := (List.pairwise_iff_getElem.mp (List.pairwise_map.mp hnd)) i (i + 1) hi hj (Nat.lt_succ_self i)
          rw [eq, er] at le ne
          show HT.lexLt (natI (g q).2) (natI (g r).2) = true
          rw [hsnd q (List.mem_of_getElem? e1'), hsnd r (List.mem_of_getElem? e2'), lex_lt, decide_eq_true_eq]
          apply Classical.byContradiction
          intro h
          exact ne (List.le_antisymm le (List.not_lt.mp h))
  refine read2 Q _ (L'.map fun q => (g q).2) (.ref l) _ _ _ _ _ _ _ _ _ _ _ _ _ _ _ _ ⟨l, _, rfl, SqT.of upd_same, ⟨by rw [hlen2, List.length_map], fun i v b hv hb => ?_⟩⟩ B (by rw [hlen2]; exact hl30) e3.tabs hQ
  rw [List.getElem?_map] at hv hb
  cases e1' : L'[i]? with
  | none => rw [e1'] at hv; cases hv
  | some q =>
    rw [e1'] at hv hb
    cases hv
    cases hb
    obtain ⟨z, hz, rfl⟩ := hback2 q (List.mem_of_getElem? e1')
    show IsB K _ (.ref z.1) (g (f z)).2
    rw [gf]
    exact ⟨z.1, rfl, e3.seqT (hP.is z hz).1⟩
end
end K00
end

section
set_option Elab.async false
set_option linter.all false
set_option maxRecDepth 100000
set_option maxHeartbeats 4000000
/-! The law of the bars, whole. -/
namespace K00
open PySem PySem.Spec PyProof.Rows L2 GX GxR PG C8 ST FM
theorem tree_few {n : Nat} {bs : List (List Nat)} {rk : Nat → Nat} (T : Tree n bs rk) : bs.length ≤ n := by
  have pw := apart_iff.mp T.uniq
  have key : ∀ cs : List (List Nat), (∀ c ∈ cs, c ∈ bs) → cs.Pairwise (Apart rk) → ∃ xs : List Nat, xs.length = cs.length ∧ xs.Nodup ∧ ∀ x ∈ xs, x < n ∧ ∃ c ∈ cs, Own rk c x := by
    intro cs
    induction cs with
    | nil => exact fun _ _ => ⟨[], rfl, by simp, fun x hx => by cases hx⟩
    | cons b r ih =>
      intro hm hp
      obtain ⟨h1, h2⟩ := List.pairwise_cons.mp hp
      obtain ⟨xs, e, nd, hx⟩ := ih (fun c hc => hm c (List.mem_cons_of_mem _ hc)) h2
      obtain ⟨y, hy⟩ := own_some T (hm b (by simp))
      refine ⟨y :: xs, by rw [List.length_cons, List.length_cons, e], List.nodup_cons.mpr ⟨fun hyx => ?_, nd⟩, fun x hxx => ?_⟩
      · obtain ⟨_, c, hc, ho⟩ := hx y hyx
        exact h1 c hc y hy ho
      · rcases List.mem_cons.mp hxx with q | q
        · rw [q]
          exact ⟨T.lt b (hm b (by simp)) y hy.1, b, by simp, hy⟩
        · obtain ⟨g1, c, hc, ho⟩ := hx x q
          exact ⟨g1, c, List.mem_cons_of_mem _ hc, ho⟩
  obtain ⟨xs, e, nd, hx⟩ := key bs (fun _ h => h) pw
  have := nodup_sub_len xs (List.range n) nd fun x hx' => List.mem_range.mpr (hx x hx').1
  rw [List.length_range] at this
  omega
theorem cut_take (m : List Nat) (k : Nat) : cutV (bagV m) none (some (k : Int)) = bagV (m.take k) := by
  unfold cutV
  rw [HT.sIx_none, HT.sIx_nat, List.drop_zero, Nat.sub_zero, bagV_len]
  have : (bagV m).take (min k m.length) = (bagV m).take k := by
    rw [← bagV_len (l := m)]
    by_cases h : k ≤ (bagV m).length
    · rw [Nat.min_eq_left h]
    · rw [Nat.min_eq_right (by omega), List.take_length, List.take_of_length_le (by omega)]
  rw [this]
  simp [bagV, List.map_take]
def srtN (l : List Nat) : List Nat := l.mergeSort (fun x y => decide (x ≤ y))
theorem srtN_perm (l : List Nat) : (srtN l).Perm l := List.mergeSort_perm _ _
theorem srtN_le (l : List Nat) : (srtN l).Pairwise (· ≤ ·) := by
  have := List.pairwise_mergeSort (le := fun x y : Nat => decide (x ≤ y)) (fun x y z h1 h2 => by
    rw [decide_eq_true_eq] at h1 h2 ⊢; omega) (fun x y => by
    rw [Bool.or_eq_true, decide_eq_true_eq, decide_eq_true_eq]; omega) l
  exact this.imp fun h => by simpa using h
theorem srtN_uniq {l : List Nat} {ns : List Int} (h : ns.Perm (natI l)) (hs : ns.Pairwise (· ≤ ·)) : ns = natI (srtN l) := by
  refine sorted_uniq (h.trans ((srtN_perm l).map fun (k : Nat) => (k : Int)).symm) hs ?_
  unfold natI
  rw [List.pairwise_map]
  exact (srtN_le l).imp fun h => by omega
theorem ok_drawn {n k : Nat} {m : List Nat} (N : Names n m) (hn : 3 ≤ n) (hn2 : n ≤ 8) (hk : 2 ≤ k) : OkB (srtN (m.take k)) := by
  have nd : (srtN (m.take k)).Nodup := (srtN_perm _).nodup_iff.mpr (List.Nodup.sublist (List.take_sublist k m) N.nd)
  refine ⟨((srtN_le _).and nd).imp fun {x y} h => by have h1 := h.1; have h2 := h.2; omega, ?_, fun x hx => ?_⟩
  · rw [(srtN_perm _).length_eq, List.length_take, N.len]
    omega
  · have := N.lt x (List.mem_of_mem_take ((srtN_perm _).mem_iff.mp hx))
    omega
theorem each_zip {K : PySem.W.Frag} {H : Hp} : ∀ {xs : List V} {bs : List (List Nat)}, Each K H xs bs → ∃ zs : List (Addr × List Nat), (zs.map fun z => V.ref z.1) = xs ∧ zs.map (·.2) = bs ∧ ∀ z ∈ zs, SqT K H z.1 (bagV z.2)
  | [], [], _ => ⟨[], rfl, rfl, fun z hz => by cases hz⟩
  | [], _ :: _, h => by have := h.len; simp at this
  | _ :: _, [], h => by have := h.len; simp at this
  | x :: xs, b :: bs, h => by
    obtain ⟨t, rfl, ht⟩ := h.is 0 x b rfl rfl
    obtain ⟨zs, e1, e2, e3⟩ := each_zip (xs := xs) (bs := bs) (H := H) (K := K) ⟨by simpa using h.len, fun i v c g1 g2 => h.is (i + 1) v c (by simpa using g1) (by simpa using g2)⟩
    refine ⟨(t, b) :: zs, by rw [List.map_cons, e1], by rw [List.map_cons, e2], fun z hz => ?_⟩
    rcases List.mem_cons.mp hz with q | q
    · rw [q]; exact ht
    · exact e3 z q
theorem ExtR.seqTn {T : List Addr} {H H1 : Hp} {r : Addr} {K : PySem.W.Frag} {a : Addr} {xs : List V} (e : ExtR T r H H1) (hr : ∃ ys, H r = some (.lst ys)) (h : SqT K H a xs) : SqT K H1 a xs := by
  refine Ext.seqT e ?_
  obtain ⟨ys, hy⟩ := hr
  rcases h with (h | ⟨o, h⟩) | h
  · exact .inl (.inl (by rw [drop_ne (fun z => by rw [z, hy] at h; cases h)]; exact h))
  · exact .inl (.inr ⟨o, by rw [drop_ne (fun z => by rw [z, hy] at h; cases h)]; exact h⟩)
  · exact .inr h
theorem Rw.lst {H : Hp} {r sc : Addr} (h : Rw H r sc) : ∃ ys, H r = some (.lst ys) := by
  obtain ⟨_, _, _, h, _⟩ := h
  exact ⟨_, h⟩
section
variable {P : Program} {w : World} {K : PySem.W.Frag} {mg : Str → Option Value} {base : Heap}
theorem ok_bars (T : Txt K mg base) {fd : FuncData} (F : FunD K "law" "law" (dd "law" p_law).params (dd "law" p_law).body (dd "law" p_law).scope [] [] (He.ga K "law") fd) : FnOk P w K mg base C8.CX0 13 (He.ga K "law") fd ["script"] (spLaw K) := by
  have Ct := c_taken (P := P) (w := w) T
  have Cp := c_pick (P := P) (w := w) T
  have Cm := c_mixed (P := P) (w := w) T
  have Cf := c_family (P := P) (w := w) T
  refine okC F sc_law (fun vs H Q E h => by obtain ⟨a, n, rfl, _⟩ := h; rfl) fun A outer s H vs Q E hr h => ?_
  obtain ⟨t2, hp2, read2⟩ := partS (P := P) (w := w) (A := A) (outer := outer) (s := s) (H0 := H) (E := E) T hr
  refine ⟨_, PSs.nox (pss_cons
    (ps_set (i := 1) sc_law.nd rfl (.inr rfl) (pe_lst (pa_cons (pv 0) (pa_cons pe_int (pa_cons pe_int (pa_cons pe_int pa_nil))))))
    (pss_cons (ps_set (i := 2) sc_law.nd rfl (.inr rfl) (pe_op op_add pe_int (pe_c Ct hr (by decide) rfl (pa_cons (pv 1) (pa_cons pe_int pa_nil)))))
    (pss_cons (ps_setLc (i := 3) (own := [("turn", 4)]) (g := gName 4) (tt := tYes) rfl sc_law.nd rfl rfl (sw_true rfl rfl rfl (by decide +kernel)) (pi_range1 rfl T.n (pa_cons (pe_op op_add pe_int (pe_c Ct hr (by decide) rfl (pa_cons (pv 1) (pa_cons pe_int pa_nil)))) pa_nil)) (blkOk_by (by kernel_rfl)) (fun _ _ _ _ _ => pg_name (i := 4) sc_law.nd rfl (Or.inl rfl)) (fun _ _ _ _ _ => pts_nil)
      (fun _ _ _ _ _ => pe_callTy (tupofK (K := K) rfl) rfl T.n (by decide +kernel) (pa_cons (pe_callB (sortIK (K := K) rfl) rfl T.n PyProof.Rows.boot_sorted (pa_cons
        (pe_slice (slLK (K := K) rfl) (pe_c Cm hr (by decide) rfl (pa_cons (pv 1) (pa_cons (pe_listRg rfl rfl T.n (prg_1 rfl T.n (pv 2))) pa_nil))) po_none
          (po_some (pe_c Cp hr (by decide) rfl (pa_cons (pv 1) (pa_cons (pe_lst (pa_cons pe_int (pa_cons pe_int (pa_cons pe_int (pa_cons pe_int pa_nil))))) pa_nil))))) pa_nil)) pa_nil)))
    (pss_cons (ps_if (pt_cmpR op_eq (pe_c Ct hr (by decide) rfl (pa_cons (pv 1) (pa_cons pe_int pa_nil))) pe_int (nomark _))
      (pss_one (ps_set (i := 3) sc_law.nd rfl (.inl rfl) (pe_op op_cat (pv 3) (pe_callTy (lstofK (K := K) rfl) rfl T.n (by decide +kernel) (pa_cons (pe_c Cf hr (by decide) rfl (pa_cons (pv 1) (pa_cons pe_int pa_nil))) pa_nil))))) pss_nil)
    hp2)))), ?_⟩
  obtain ⟨a, ns, rfl, hS, hT, hQ⟩ := h
  refine ⟨_, rfl, small_line (n := 4) (by decide), fun r hr0 => ?_⟩
  have n0 := Ext.new (o := .lst [.ref a, .int 0, .int 5201, .int 0]) hT hr0
  have R0 : Row K (upd H r (.lst [.ref a, .int 0, .int 5201, .int 0])) r a ns := by
    refine ⟨?_, 0, 5201, 0, upd_same, Int.le_refl _⟩
    have k : ∀ b o, H b = some o → drop (upd H r (.lst [.ref a, .int 0, .int 5201, .int 0])) r b = some o := fun b o e => by
      have hb : b ≠ r := fun z => by rw [z, hr0] at e; cases e
      rw [drop_ne hb, upd_ne hb]
      exact e
    rcases hS with (h | ⟨o, h⟩) | h
    · exact .inl (.inl (k _ _ h))
    · exact .inl (.inr ⟨o, k _ _ h⟩)
    · exact .inr h
  refine ⟨_, rfl, r, 6, a, ns, rfl, by decide, by decide, R0, n0.tabs, fun H1 j hj hw1 e1 => ⟨_, _, rfl, rfl, ?_⟩⟩
  have R1 := R0.next e1 hw1
  refine ⟨_, rfl, r, 6, a, ns, rfl, by decide, by decide, R1, e1.tabs, fun H2 j2 hj2 hw2 e2 => ⟨_, _, rfl, rfl, _, rfl, ?_, ?_, fun D hD => ?_⟩⟩
  · have : (-(2 ^ 62) : Int) ≤ 0 := by decide
    omega
  · have : (1000 : Int) < 2 ^ 62 := by decide
    omega
  have R2 := R1.next e2 hw2
  have nD := Ext.new (o := .lst []) e2.tabs hD
  have hDr : D ≠ r := hw2.nep hD
  have hlen : ((1 : Int) + (j2 : Int)).toNat = 1 + j2 := by omega
  rw [hlen]
  refine lc_range (lo := 0) (fun i H' => ExtR (tabs K) r H2 H' ∧ Rw H' r a ∧ ∃ ts : List (Addr × List Nat), H' D = some (.lst (ts.map fun z => V.ref z.1)) ∧ (∀ z ∈ ts, SqT K H' z.1 (bagV z.2) ∧ OkB z.2) ∧ ts.length = i) ⟨.of nD, hw2.ext nD, [], by rw [upd_same]; rfl, fun z hz => (by cases hz), rfl⟩ (fun i H' hi z => ?_) (fun H' z => ?_)
  · obtain ⟨e, hw, ts, hDt, hts, htl⟩ := z
    refine ⟨rfl, tyes_if ?_⟩
    refine ⟨_, rfl, _, rfl, 3 + (j : Int), rfl, RgOk.of_le (by decide) (by omega) (by decide) (by omega), fun pr hpr => ?_⟩
    have n3 := Ext.new (o := .lst (rgV 0 (3 + (j : Int)))) e.tabs hpr
    have E3 := e.trans (.of n3)
    have en : (3 : Int) + (j : Int) = ((3 + j : Nat) : Int) := by omega
    refine ⟨r, pr, a, ns, List.range (3 + j), rfl, hw.nep hpr, SqL.of (by rw [upd_same, en, rgV_nats]), by rw [List.length_range]; show 3 + j ≤ 1000; omega, R2.next E3 (hw.ext n3), E3.tabs, fun H4 q m hp hw4 e4 hqr hq0 hq => ?_⟩
    have E4 := E3.trans e4
    have N := names_of hp
    refine ⟨_, rfl, small_line (n := 4) (by decide), fun pl hpl => ?_⟩
    have n5 := Ext.new (o := .lst [.int 2, .int 2, .int 3, .int 4]) E4.tabs hpl
    have E5 := E4.trans (.of n5)
    refine ⟨r, pl, a, ns, [2, 2, 3, 4], rfl, hw4.nep hpl, SqL.of upd_same, by decide, by decide, R2.next E5 (hw4.ext n5), E5.tabs, fun H6 x hx hw6 e6 => ?_⟩
    obtain ⟨k, rfl, hk2⟩ : ∃ k : Nat, x = (k : Int) ∧ 2 ≤ k := by
      simp at hx
      exact ⟨x.toNat, by omega, by omega⟩
    have E6 := E5.trans e6
    have hq6 : SqL K H6 q (bagV m) := SqL.of (e6.lst hqr (n5.lst hq))
    refine ⟨(k : Int), rfl, q, _, rfl, hq6, fun ps hps => ?_⟩
    rw [cut_take]
    have n7 := Ext.new (o := .lst (bagV (m.take k))) E6.tabs hps
    refine ⟨ps, natI (m.take k), rfl, by rw [natI_V]; exact SqL.of upd_same, fun ns' p2 hp1 hp2' hpn => ?_⟩
    have ens := srtN_uniq hp1 hp2'
    subst ens
    have n8 := n7.trans (Ext.new (o := .lst ((natI (srtN (m.take k))).map V.int)) n7.tabs hpn)
    refine ⟨p2, _, rfl, .inl ⟨SqL.of upd_same, fun l hln => ?_⟩⟩
    have n9 := n8.trans (Ext.new (o := .tup ((natI (srtN (m.take k))).map V.int)) n8.tabs hln)
    have toEnd : ExtR (tabs K) r H' (upd (upd (upd H6 ps (.lst (bagV (m.take k)))) p2 (.lst ((natI (srtN (m.take k))).map V.int))) l (.tup ((natI (srtN (m.take k))).map V.int))) := (((ExtR.of n3).trans e4).trans (.of n5)).trans (e6.trans (.of n9))
    have hDend := toEnd.lst hDr hDt
    have hlD : l ≠ D := fun z => by
      have h1 : ExtR (tabs K) r H' (upd (upd H6 ps (.lst (bagV (m.take k)))) p2 (.lst ((natI (srtN (m.take k))).map V.int))) := (((ExtR.of n3).trans e4).trans (.of n5)).trans (e6.trans (.of n8))
      rw [z, h1.lst hDr hDt] at hln
      cases hln
    refine ⟨_, hDend, ?_, ?_, ?_, ts ++ [(l, srtN (m.take k))], ?_, fun z hz => ?_, ?_⟩
    · rw [List.length_map, htl]
      exact small1000 (by omega)
    · exact Ext.set (e.trans toEnd) (by rw [drop_ne hDr]; exact hD) ⟨_, hDend, fun ps z => by cases z⟩
    · exact (hw6.ext n9).put hDr
    · rw [upd_same, List.map_append]; rfl
    · have keepT : ∀ {u : Addr} {ys : List V}, SqT K (upd (upd (upd H6 ps (.lst (bagV (m.take k)))) p2 (.lst ((natI (srtN (m.take k))).map V.int))) l (.tup ((natI (srtN (m.take k))).map V.int))) u ys → SqT K (upd (upd (upd (upd H6 ps (.lst (bagV (m.take k)))) p2 (.lst ((natI (srtN (m.take k))).map V.int))) l (.tup ((natI (srtN (m.take k))).map V.int))) D (.lst (ts.map (fun z => V.ref z.1) ++ [V.ref l]))) u ys := fun {u ys} h => by
        rcases h with (h | ⟨o, h⟩) | h
        · exact .inl (.inl (by rw [upd_ne (fun z => by rw [z, hDend] at h; cases h)]; exact h))
        · exact .inl (.inr ⟨o, by rw [upd_ne (fun z => by rw [z, hDend] at h; cases h)]; exact h⟩)
        · exact .inr h
      rcases List.mem_append.mp hz with q' | q'
      · exact ⟨keepT (toEnd.seqTn hw.lst (hts z q').1), (hts z q').2⟩
      · rw [List.mem_singleton.mp q']
        refine ⟨keepT ?_, ok_drawn N (by omega) (by omega) hk2⟩
        refine SqT.of ?_
        rw [upd_same, natI_V]
    · rw [List.length_append, htl]; rfl
  · obtain ⟨e, hw, ts, hDt, hts, htl⟩ := z
    have R3 := R2.next e hw
    refine ⟨_, rfl, r, 3, a, ns, rfl, by decide, by decide, R3, e.tabs, fun H6 j6 hj6 hw6 e6 => ⟨rfl, _, rfl, ?_⟩⟩
    have hts6 : ∀ z ∈ ts, SqT K H6 z.1 (bagV z.2) ∧ OkB z.2 := fun z hz => ⟨e6.seqTn hw.lst (hts z hz).1, (hts z hz).2⟩
    have hD6 := e6.lst hDr hDt
    have hne : ts ≠ [] := fun z => by rw [z] at htl; simp at htl; omega
    refine ite2 (fun _ => ?_) fun _ => ?_
    · refine ⟨_, rfl, _, rfl, r, 7, a, ns, rfl, by decide, by decide, R3.next e6 hw6, e6.tabs, fun H7 v n bs rk e7 hw7 hB G hn7 => ?_⟩
      obtain ⟨t, xs, rfl, hSt, hE⟩ := hB
      refine ⟨t, xs, rfl, .inr hSt, fun l hl => ?_⟩
      have n8 := Ext.new (o := .lst xs) e7.tabs hl
      have hD8 := n8.lst (e7.lst hDr hD6)
      obtain ⟨zs, ez1, ez2, ez3⟩ := each_zip hE
      have hzl : zs.length = bs.length := by rw [← ez2, List.length_map]
      have hb7 := tree_few G.tree
      refine ⟨D, l, _, xs, rfl, rfl, hD8, upd_same, ?_, fun p hp => ?_⟩
      · rw [List.length_map, hE.len, htl]
        exact small_line (show _ ≤ 1000 by omega)
      · have n9 := Ext.new (o := .lst (ts.map (fun z => V.ref z.1) ++ xs)) n8.tabs hp
        refine read2 Q _ p (ts ++ zs) _ _ _ _ _ _ _ _ _ _ _ _ _ _ _ _ ⟨by rw [upd_same, List.map_append, ez1], fun z hz => ?_, fun h => hne (List.append_eq_nil_iff.mp h).1, by rw [List.length_append, hzl, htl]; omega⟩ n9.tabs hQ
        rcases List.mem_append.mp hz with q' | q'
        · exact ⟨(n8.trans n9).seqT (e7.seqTn hw6.lst (hts6 z q').1), (hts6 z q').2⟩
        · refine ⟨(n8.trans n9).seqT (ez3 z q'), ?_⟩
          have hzb : z.2 ∈ bs := by rw [← ez2]; exact List.mem_map.mpr ⟨z, q', rfl⟩
          exact ⟨G.tree.asc _ hzb, G.tree.two _ hzb, fun x hx => Nat.lt_of_lt_of_le (G.tree.lt _ hzb x hx) G.most⟩
    · exact read2 Q H6 D ts _ _ _ _ _ _ _ _ _ _ _ _ _ _ _ _ ⟨hD6, hts6, hne, by rw [htl]; omega⟩ e6.tabs hQ
end
end K00
end

set_option Elab.async false
set_option linter.all false
set_option maxRecDepth 100000
set_option maxHeartbeats 4000000
/-! The end: what the head tells, the law. -/
namespace K00
open PySem PySem.Spec PyProof.Rows L2 GX GxR PG C8
theorem lawAt {w : World} {K : PySem.W.Frag} {h : Heap} {mg : Str → Option Value} {fa0 : Addr} (X : K.In h) (G : h.Ns mainGlobals mg) (hfa : mg ("law" : Str) = some (.ref fa0)) (c : He.SaysX fa fn [] tf exK w h K) :
    LamX.LawAtS theRow w K C8.CX0 13 63 "script" mg fa0 h := by
  have hd : ∀ (i : Nat) (d : He.DefD), fn[i]? = some d → ∃ fd, FunD K d.name d.qual d.params d.body d.scope (d.dvs K) (d.kws K) (He.fAd K d.at_) fd := fun i d hi => c.t.d.defs (List.mem_of_getElem? hi)
  obtain ⟨fd, F⟩ := hd f_law _ rfl
  have F : FunD K "law" "law" (dd "law" p_law).params (dd "law" p_law).body (dd "law" p_law).scope [] [] (He.ga K "law") fd := F
  obtain ⟨d0, hd0, e0⟩ := List.mem_map.mp (List.contains_iff_mem.mp (show (fn.map (·.name)).contains ("law" : Str) = true by decide +kernel))
  have e := hfa.symm.trans (He.glo_ok X G (c.t.d.facts (f := .glo "law") (List.mem_append_left _ (List.mem_map.mpr ⟨d0, hd0, by rw [e0]⟩))))
  cases e
  refine ⟨fd, tf.map (He.cT K), spLaw K, ?_, ?_, ?_, ?_, ?_, ?_⟩
  · intro p hp
    obtain ⟨q, hq, rfl⟩ := List.mem_map.mp hp
    exact c.empty q hq
  · intro p hp
    obtain ⟨q, hq, rfl⟩ := List.mem_map.mp hp
    exact c.out q hq
  · intro p hp
    obtain ⟨q, hq, rfl⟩ := List.mem_map.mp hp
    exact PySem.W.codeHd_of_K X (c.hd q hq)
  · intro s u
    have b := FunD.bindsA (ps := ["script"]) F fun _ _ _ _ _ _ us hl => match us, hl with | [_], _ => rfl
    exact b s [u] rfl
  · intro H a ns _ _ hcs hS
    refine ⟨a, ns, rfl, hS, fun P hP => ?_, fun _ => rfl⟩
    obtain ⟨q, hq, rfl⟩ := List.mem_map.mp hP
    exact ⟨#[], hcs _ (List.mem_map.mpr ⟨q, hq, rfl⟩), trivial⟩
  · intro base hK hN hT
    exact ok_bars ⟨hK, hN, hd, fun f hf => c.t.d.facts hf, fun p hp => let t := hT _ (List.mem_map.mpr ⟨p, hp, rfl⟩); ⟨t.code, t.bm, t.gP⟩⟩ F
end K00
open PySem PySem.W PySem.Calls PyProof.Rows
theorem PySem.Challenge.cw_sharebags_k01_whole_bars_holds : PySem.Challenge.rw_sharebags_k01_whole_bars.Holds := by
  w_on; o_law
  refine HandSHeadRun.head_any (r := OpenLaw.row PySem.Challenge.rw_sharebags_k01_whole_bars) (q := view (OpenLaw.row PySem.Challenge.rw_sharebags_k01_whole_bars).prog [35]) (H := K00.hk) (ob := K00.ob) (M := 6000) (loose := K00.loose) (d := HandSHeadRun.topDef (OpenLaw.row PySem.Challenge.rw_sharebags_k01_whole_bars).prog 35) (kwd := []) K00.ob_eq
    (by kernel_rfl) (fun s => by kernel_rfl) K00.run (by kernel_rfl) (by kernel_rfl) (by kernel_rfl) (by rfl) (by first | assumption | decide +kernel) (by decide +kernel) ⟨rfl, rfl, rfl, rfl, rfl, by decide +kernel⟩ ?hw ?hc
  case hw => w_witness2
  case hc =>
    refine LamX.walk_ofTsE (l := PySem.Challenge.rw_sharebags_k01_whole_bars) (n := 63) (k := 13) (x := "script") (CX := fun _ => C8.CX0) rfl (by decide) (by kernel_rfl) ⟨rfl, by decide, by decide⟩ ?F (fun _ _ _ _ _ z => z)
    intro w mg fa h Y G hmg0
    obtain ⟨K, KX, c⟩ := Y
    have hmg : mg ("law" : PySem.Str) = some (.ref fa) := by
      have e : (HandSHeadRun.topDef (OpenLaw.row PySem.Challenge.rw_sharebags_k01_whole_bars).prog 35).name = ("law" : PySem.Str) := by kernel_rfl
      rw [← e]
      exact hmg0
    exact ⟨K, KX, K00.lawAt KX G hmg c⟩
