import PyProof.Rows.All
import HandS.AnyAll
import HandS.Head2
import HandS.HeadHook4
import HandS.HeadWalk
import HandS.ForMost
import HandS.Defaults
import HandS.GenOver
import PyProof.TupleOfGen
import PyProof.SumAny
import PyProof.WalkInts
import HandS.WideBits
import HandS.IsInst
import HandS.SortInts
import HandS.Conv
import HandS.Flow
import HandS.Star
import HandS.TupAny
import HandS.Lambda
import KE.SortData
import HandS.Wide
import HandS.Deep
import HandS.Style
import Wide.All
import HandS.Base
import HandS.Call
import KE.DataMinMax
import HandS.Dict
import HandS.Iter
import HandS.Zip
import KE.GoesMore
import KE.GoesEnum
import HandS.Codes
import HandS.RevRange
import HandS.Rev
import KE.KDflt
import HandS.TryMany
import HandS.ExcOwn
import PyProof.ExcBaseAll.ValueError
import HandS.HeadHook1
import HandS.SetFor
import HandS.SetKeys
import PySem.Challenge.RW_sharebags_k00_whole_families
section
set_option Elab.async false
set_option linter.all false
set_option maxRecDepth 100000
set_option maxHeartbeats 0
/-! The top of the row: where its statements stand, what is known of it behind the run. Written by wip/mkhead.py. -/
namespace K00
open PySem PySem.Spec PyProof.Rows L2
abbrev theRow : PySem.W.OpenLaw := PySem.Challenge.rw_sharebags_k00_whole_families
def top (i : Nat) : Stmt := PySem.Challenge.pw_sharebags_k00_whole_families.main.body.getD i (.Pass ⟨0, 0, 0, 0⟩)
def dd (x : Str) (i : Nat) : He.DefD := ⟨(x, none), x, x, defArgs (top i), defBody (top i), defScope (top i), [], []⟩
/-! the places of the defs: in the top, in the list fn -/
abbrev p_mask_of : Nat := 1
abbrev f_mask_of : Nat := 0
abbrev p_masks_of : Nat := 2
abbrev f_masks_of : Nat := 1
abbrev p_holds_two : Nat := 3
abbrev f_holds_two : Nat := 2
abbrev p_missing_bead : Nat := 5
abbrev f_missing_bead : Nat := 3
abbrev p_first_double : Nat := 6
abbrev f_first_double : Nat := 4
abbrev p_hanging_with_first : Nat := 7
abbrev f_hanging_with_first : Nat := 5
abbrev p_twice_held : Nat := 8
abbrev f_twice_held : Nat := 6
abbrev p_left_in_rings : Nat := 9
abbrev f_left_in_rings : Nat := 7
abbrev p_first_bar : Nat := 10
abbrev f_first_bar : Nat := 8
abbrev p_bead_count : Nat := 17
abbrev f_bead_count : Nat := 9
abbrev p_degrees_of : Nat := 18
abbrev f_degrees_of : Nat := 10
abbrev p_is_integer : Nat := 21
abbrev f_is_integer : Nat := 11
abbrev p_is_between : Nat := 22
abbrev f_is_between : Nat := 12
abbrev p_is_ascending : Nat := 23
abbrev f_is_ascending : Nat := 13
abbrev p_are_integers : Nat := 24
abbrev f_are_integers : Nat := 14
abbrev p_is_bead_tuple : Nat := 25
abbrev f_is_bead_tuple : Nat := 15
abbrev p_is_bag : Nat := 26
abbrev f_is_bag : Nat := 16
abbrev p_are_bags : Nat := 27
abbrev f_are_bags : Nat := 17
abbrev p_makes_family : Nat := 28
abbrev f_makes_family : Nat := 18
abbrev p_check_bags : Nat := 29
abbrev f_check_bags : Nat := 19
abbrev p_check_family : Nat := 30
abbrev f_check_family : Nat := 20
abbrev p_check_number : Nat := 31
abbrev f_check_number : Nat := 21
abbrev p_is_family : Nat := 33
abbrev f_is_family : Nat := 22
abbrev p_bar : Nat := 34
abbrev f_bar : Nat := 23
abbrev p_beads : Nat := 35
abbrev f_beads : Nat := 24
abbrev p_degrees : Nat := 36
abbrev f_degrees : Nat := 25
abbrev p_sizes : Nat := 37
abbrev f_sizes : Nat := 26
abbrev p_one_bag : Nat := 38
abbrev f_one_bag : Nat := 27
abbrev p_rank : Nat := 40
abbrev f_rank : Nat := 28
abbrev p_law_taken : Nat := 42
abbrev f_law_taken : Nat := 29
abbrev p_law_pick : Nat := 43
abbrev f_law_pick : Nat := 30
abbrev p_law_alike : Nat := 44
abbrev f_law_alike : Nat := 31
abbrev p_law_mixed : Nat := 45
abbrev f_law_mixed : Nat := 32
abbrev p_law_named : Nat := 46
abbrev f_law_named : Nat := 33
abbrev p_law_family : Nat := 47
abbrev f_law_family : Nat := 34
abbrev p_law_size : Nat := 48
abbrev f_law_size : Nat := 35
abbrev p_law : Nat := 49
abbrev f_law : Nat := 36
def fn0 : List He.DefD := [dd "mask_of" 1, dd "masks_of" 2, dd "holds_two" 3, dd "missing_bead" 5, dd "first_double" 6, dd "hanging_with_first" 7, dd "twice_held" 8, dd "left_in_rings" 9, dd "first_bar" 10, dd "bead_count" 17, dd "degrees_of" 18, dd "is_integer" 21, dd "is_between" 22, dd "is_ascending" 23, dd "are_integers" 24, dd "is_bead_tuple" 25, dd "is_bag" 26, dd "are_bags" 27, dd "makes_family" 28, dd "check_bags" 29]
def fn1 : List He.DefD := [dd "check_family" 30, dd "check_number" 31, dd "is_family" 33, dd "bar" 34, dd "beads" 35, dd "degrees" 36, dd "sizes" 37, dd "one_bag" 38, dd "rank" 40, dd "_law_taken" 42, dd "_law_pick" 43, dd "_law_alike" 44, dd "_law_mixed" 45, dd "_law_named" 46, dd "_law_family" 47, dd "_law_size" 48, dd "law" 49]
def fn : List He.DefD := fn0 ++ (fn1)
/-- the defs whose tables of code objects grow -/
def tf : List He.Defn := [("mask_of", none), ("hanging_with_first", none), ("bead_count", none), ("is_ascending", none), ("are_integers", none), ("are_bags", none)]
def fr : List Str := ["sum", "range", "len", "tuple", "list", "max", "isinstance", "int", "bool", "all", "sorted", "str", "reversed", "abs", "divmod", "min", "any", "enumerate", "zip", "set", "dict"]
def fi0 : List He.Fa := [.int "MOST_BEADS" 60]
def fi : List He.Fa := fi0
def fa : List He.Fa := (fn.map fun d => He.Fa.glo d.name) ++ (fr.map He.Fa.free ++ fi)
/-- the tables of code objects lie apart -/
def exK (K : PySem.W.Frag) : Bool := decide ((tf.map fun p => (He.cT K p).2).Nodup)
abbrev R : PySem.W.OpenRow := PySem.W.OpenLaw.row theRow
abbrev qv : Program := PySem.W.view R.prog [49]
def loose0 : List Str := ["mask_of", "masks_of", "holds_two", "missing_bead", "first_double", "hanging_with_first", "twice_held", "left_in_rings", "first_bar", "BagError", "BadBags", "BadFamily", "BadNumber", "bead_count"]
def loose1 : List Str := ["degrees_of", "MOST_BEADS", "is_integer", "is_between", "is_ascending", "are_integers", "is_bead_tuple", "is_bag", "are_bags", "makes_family", "check_bags", "check_family", "check_number", "is_family"]
def loose2 : List Str := ["bar", "beads", "degrees", "sizes", "one_bag", "rank", "_law_taken", "_law_pick", "_law_alike", "_law_mixed", "_law_named", "_law_family", "_law_size"]
def loose : List Str := loose0 ++ (loose1 ++ (loose2))
abbrev hk : PySem.W.Hook := He.hookX 2 fa fn [] tf exK
def ob (s : PySem.W.SharedT) : He.AlX := He.obsX 2 fa fn [] tf exK (HandSHeadRun.getT s)
theorem ob_eq (s : PySem.W.SharedT) : ob s = hk.obs s.abs := He.obsX_eq (HandSHeadRun.getT_eq s)
theorem run (w : World) : HandSHeadRun.RunEq R qv hk ob 6000 loose w := by
  intro os
  kernel_rfl
end K00
end

section
set_option Elab.async false
set_option linter.all false
set_option maxRecDepth 100000
set_option maxHeartbeats 4000000
/-! A generator expression over anything that PI serves, its element and its tests told by PE and PTs in the context of its own frame. -/
namespace GX
open PySem PySem.Spec PyProof.Rows L2 GxR

abbrev gEx (elt : Expr) (x : Str) (px : Pos) (iter : Expr) (ifs : List Expr) (scope : Scope) (pos : Pos) : Expr :=
  .GeneratorExp elt [⟨.Name x px, iter, ifs, 0⟩] scope pos

/-- the names of the expression's own scope: the walked one, the captured ones with their slots in the def -/
structure CapOk (N : List Str) (sc scope : Scope) (x : Str) (cap : List (Str × Nat)) : Prop where
  kind : scope.kind = .function
  co : scope.isCoroutine = false
  nocell : ∀ y ∈ scope.names, y.2 ≠ .cell
  dot : scope.names.lookup (".0" : Str) = some NameKind.local
  loc : scope.names.lookup x = some .local
  free : ∀ y ∈ scope.names, y.2 = .free → sc.names.lookup y.1 = some .cell ∨ sc.names.lookup y.1 = some .free
  caps : ∀ p ∈ cap, N[p.2]? = some p.1 ∧ scope.names.lookup p.1 = some .free
  nd : (x :: cap.map (·.1)).Nodup

def capB (N : List Str) (sc scope : Scope) (x : Str) (cap : List (Str × Nat)) : Bool :=
  scope.kind == .function && !scope.isCoroutine && scope.names.all (fun y => y.2 != .cell) && scope.names.lookup (".0" : Str) == some NameKind.local &&
  scope.names.lookup x == some .local && scope.names.all (fun y => y.2 != .free || (sc.names.lookup y.1 == some .cell || sc.names.lookup y.1 == some .free)) &&
  cap.all (fun p => N[p.2]? == some p.1 && scope.names.lookup p.1 == some .free) && decide (x :: cap.map (·.1)).Nodup

theorem capOk_by {N : List Str} {sc scope : Scope} {x : Str} {cap : List (Str × Nat)} (h : capB N sc scope x cap = true) : CapOk N sc scope x cap := by
  unfold capB at h
  simp only [Bool.and_eq_true, List.all_eq_true, beq_iff_eq, bne_iff_ne, Bool.or_eq_true, decide_eq_true_eq, Bool.not_eq_true'] at h
  obtain ⟨⟨⟨⟨⟨⟨⟨h1, h2⟩, h3⟩, h4⟩, h5⟩, h6⟩, h7⟩, h8⟩ := h
  refine ⟨h1, h2, h3, h4, h5, fun y hy e => ?_, h7, h8⟩
  rcases h6 y hy with z | z
  · exact absurd e z
  · exact z

/-- the values of the captured names -/
def capV (cap : List (Str × Nat)) (σ : L2.St) : L2.St := cap.map fun p => (σ[p.2]?).getD none
theorem capV_length (cap : List (Str × Nat)) (σ : L2.St) : (capV cap σ).length = cap.length := List.length_map ..

/-- the frame's environment -/
abbrev gEnv (X : Cx) (scope : Scope) (C : Addr) (code : Value) : Env := genEnv scope (cloFrom X.env.cells scope.names []) C code builtinsNs X.env
/-- the context of the expression's frame -/
abbrev gcx (X : Cx) (s : Shared) (H : Hp) (x : Str) (cap : List (Str × Nat)) (scope : Scope) (C : Addr) (code : Value) (fp : List Addr) : Cx :=
  { X with A := X.A.in4.in1.deeper (gEnv X scope C code), N := x :: cap.map (·.1), s_0 := s, H_0 := H, env := gEnv X scope C code, outer := X.stack, stack := gEnv X scope C code :: X.stack, ex := fp, fn := fun _ => false, pn := [], xe := fun _ _ => False }

theorem room_g {X : Cx} {s : Shared} {H : Hp} {x : Str} {cap : List (Str × Nat)} {scope : Scope} {C : Addr} {code : Value} {fp : List Addr} {k : Nat} (hr : Room (k + 1) X.A) : Room k (gcx X s H x cap scope C code fp).A :=
  ⟨hr.hd, by have := hr.dp; show X.A.depth + 1 + 3 * k + 5 < _; omega, by have := hr.un; show X.A.units + 1 + 1 + 1 + 1 + 1 + 3 + 16 * k + 200 < _; omega⟩

theorem over_loop {A : Around} {elt : Expr} {x : Str} {px : Pos} {iter : Expr} {ifs : List Expr} {scope : Scope} {pos : Pos} {it : Addr} {env : Env} :
    A.over (.compLoop (gEx elt x px iter ifs scope pos) 0 (.ref it) .none env) [] = A.deeper env := by
  first
    | rfl
    | (obtain ⟨hd, d, fr, gs, u⟩ := A; simp [Around.over, Around.deeper, marksOver, frameCount, unitsOf, envsOf, guardsOf, pushEnvs, pushGuards, Code.envs, Code.env?, Code.isFrame, Code.guards, Code.isGuard, Code.weight, Code.frames, Code.isCreation, Code.isCaller, Code.cUnits])
theorem over_start {A : Around} {elt : Expr} {x : Str} {px : Pos} {iter : Expr} {ifs : List Expr} {scope : Scope} {pos : Pos} {it : Addr} {env : Env} :
    A.over (.compStart (gEx elt x px iter ifs scope pos) 0 (.ref it) .none env) [] = A.deeper env := by
  first
    | rfl
    | (obtain ⟨hd, d, fr, gs, u⟩ := A; simp [Around.over, Around.deeper, marksOver, frameCount, unitsOf, envsOf, guardsOf, pushEnvs, pushGuards, Code.envs, Code.env?, Code.isFrame, Code.guards, Code.isGuard, Code.weight, Code.frames, Code.isCreation, Code.isCaller, Code.cUnits])

section
variable {X : Cx} {pins : List (Addr × Obj)} {σ : L2.St} {H : Hp} {s : Shared}
/-- the frame has been laid: the context's invariant -/
theorem g_start {x : Str} {cap : List (Str × Nat)} {scope : Scope} {code : Value} {fp : List Addr} {m5 : Str → Option Value} {h5 : Heap} {g5 : Array GenState} {t5 : Nat}
    (I : Inv X pins σ H s) (ok : CapOk X.N X.env.scope scope x cap) (hfp : ∀ b ∈ fp, FpOk X pins H b ∧ b < s.heap.objs.size)
    (k : ∀ b o, s.heap.get? b = some o → h5.get? b = some o) (hn : h5.Ns s.heap.objs.size m5) (hg : AllBare g5) :
    Inv (gcx X s H x cap scope s.heap.objs.size code fp) [] (none :: capV cap σ) H { s with heap := h5, gens := g5, toks := t5 } := by
  have frees : ∀ y ∈ scope.names, y.2 = .free → ∃ c, X.env.cells.lookup y.1 = some c := fun y hy e => by
    rcases ok.free y hy e with q | q
    · exact I.ok.has _ (.inl q)
    · exact I.ok.has _ (.inr q)
  have down : ∀ {y : Str} {c : Addr}, (cloFrom X.env.cells scope.names []).lookup y = some c → X.env.cells.lookup y = some c := fun {y c} e => by
    rcases cloFrom_mem (PySem.mem_of_lookup e) with q | ⟨q1, q2⟩
    · cases q
    · obtain ⟨c', e'⟩ := frees _ q1 rfl
      rw [q2, show X.env.cells.lookup y = some c' from e']
      rfl
  have up : ∀ {y : Str}, scope.names.lookup y = some .free → ∃ c, (cloFrom X.env.cells scope.names []).lookup y = some c ∧ X.env.cells.lookup y = some c := fun {y} e => by
    obtain ⟨c, hc⟩ := mem_lookup (cloFrom_has (cells := X.env.cells) (acc := []) (PySem.mem_of_lookup e))
    exact ⟨c, hc, down hc⟩
  have okG : (gcx X s H x cap scope s.heap.objs.size code fp).Ok := by
    refine ⟨I.ok.mod, ok.kind, I.ok.glob, rfl, Nat.le_refl _, fun y z c e1 e2 => I.ok.inj y z c (down e1) (down e2), fun y hy => ?_, fun y c e => ?_, fun z => I.ok.hd z, ?_, .inr ⟨rfl, rfl⟩, fun b hb => ⟨Nat.ne_of_lt (hfp b hb).2, fun y c e => (hfp b hb).1.2.2.2.2.1 y c (down e)⟩,
      I.bs, Nat.le_trans I.ok.bsz I.sz, fun b o e hb => ?_, fun b hb z => ?_, I.stack, I.stkFree⟩
    · rcases hy with hy | hy
      · exact absurd rfl (ok.nocell _ (PySem.mem_of_lookup hy))
      · obtain ⟨c, h1, _⟩ := up hy
        exact ⟨c, h1⟩
    · cases e
    · have e : X.A.frames = some X.stack := I.ok.frames
      show (X.A.in4.in1.deeper _).frames = _
      simp [Around.deeper, Around.in4, e]
    · rcases (hfp b hb).1.2.2.2.1 with z | z
      · exact I.ok.noex b o e z
      · exact absurd (Nat.lt_of_lt_of_le (Heap.lt_size e) (Nat.le_trans I.ok.bsz z)) (Nat.lt_irrefl _)
    · rcases List.mem_cons.mp (I.stkSub b z) with z | z
      · exact (hfp b hb).1.2.1 z
      · exact (hfp b hb).1.2.2.1 z
  refine ⟨okG, rfl, hg, Un.kept k, ⟨m5, hn, fun i y v e1 e2 _ => ?_⟩, fun y c e => ?_, I.hok.fresh (Nat.le_refl _), fun y c e => I.freeC y c (down e), fun p hp => absurd (show p ∈ ([] : List (Addr × Obj)) ++ [] from hp) (by simp), I.hok.kept k, ?_⟩
  · obtain ⟨m, _, hl⟩ := I.loc
    cases i with
    | zero => cases e2
    | succ i =>
      have e1 : (cap.map (·.1))[i]? = some y := e1
      have e2 : (capV cap σ)[i]? = some (some v) := e2
      rw [List.getElem?_map] at e1
      unfold capV at e2
      rw [List.getElem?_map] at e2
      cases q : cap[i]? with
      | none => rw [q] at e1; cases e1
      | some p =>
        rw [q] at e1 e2
        have e1 : p.1 = y := Option.some.inj e1
        have e2 : (σ[p.2]?).getD none = some v := Option.some.inj e2
        obtain ⟨c1, c2⟩ := ok.caps p (List.mem_of_getElem? q)
        rw [e1] at c1 c2
        have e3 : σ[p.2]? = some (some v) := by
          cases q2 : σ[p.2]? with
          | none => rw [q2] at e2; cases e2
          | some w => rw [q2] at e2; exact congrArg some e2
        have hk := ok.free (y, .free) (PySem.mem_of_lookup c2) rfl
        obtain ⟨u, r, l⟩ := hl p.2 y v c1 e3 (hk.elim (fun z => .inr (.inl z)) fun z => .inr (.inr z))
        refine ⟨u, r, .inr ⟨.inr c2, ?_⟩⟩
        obtain ⟨c, h1, h2⟩ := up c2
        rcases l with ⟨l1, _⟩ | ⟨_, c', l2, l3⟩
        · have l1 : X.env.scope.names.lookup y = some .local := l1
          rcases hk with z | z <;> rw [show X.env.scope.names.lookup y = _ from z] at l1 <;> cases l1
        · rw [h2] at l2
          cases l2
          exact ⟨c, h1, l3.keeps k⟩
  · obtain ⟨v, z⟩ := I.cell y c (down e)
    exact ⟨v, z.keeps k⟩
  · show (none :: capV cap σ).length = (x :: cap.map (·.1)).length
    simp [capV_length]
end
end GX
end

section
set_option Elab.async false
set_option linter.all false
set_option maxRecDepth 100000
set_option maxHeartbeats 4000000
/-! A generator expression: its turns, its sleep, one step of it. -/
namespace GX
open PySem PySem.Spec PyProof.Rows L2 GxR

/-- what a walk over the expression is told by: Own, what the consumer keeps at the addresses Ss; W ahead of a turn; Yd at a yield; Zd at the end -/
structure Tell where
  Ss : List Addr
  Own : List V → Heap → Prop
  W : List V → Nat → Nat → Hp → Prop
  Yd : List V → V → Nat → Nat → Hp → Prop
  Zd : List V → Hp → Prop

/-- one turn keeps what is told -/
def Turns (D : Tell) (J : It) (tt : TT) (te : TE) (cv : L2.St) : Prop :=
  ∀ ys i m H, D.W ys i m H → (J.stop i H ∧ D.Zd ys H) ∨ (J.go i H ∧ ∃ (Nx : Hp → Prop) (Ny : VK), (∀ H', Nx H' → ∃ m', m' < m ∧ D.W ys (i + 1) m' H') ∧ (∀ y H', Ny y H' → D.Yd ys y i m H') ∧
    ∀ v H', J.yld i H v H' → tt (some v :: cv) H' fun b H3 => if b = true then te (some v :: cv) H3 Ny else Nx H3)

/-- the frame as it stands at place i, the consumer's objects as in h -/
structure At (Y : Cx) (D : Tell) (cv : L2.St) (fp : List Addr) (tn : Nat → Heap → Prop) (i : Nat) (H : Hp) (h : Heap) (s : Shared) : Prop where
  inv : Inv Y (pinsAt D.Ss h) (none :: cv) H s
  tn : tn i s.heap
  fpn : ∀ b ∈ fp, H b = none

def gR (Y : Cx) (D : Tell) (cv : L2.St) : GenEnd := fun _ s0 r s1 => r = .ok .next ∧ ∃ ys H, D.Own ys s0.heap ∧ D.Zd ys H ∧ Inv Y (pinsAt D.Ss s0.heap) (none :: cv) H s1
def gY (Y : Cx) (D : Tell) (cv : L2.St) (fp : List Addr) (tn : Nat → Heap → Prop) : Protocol := fun n s0 v s kap =>
  ∃ ys y i m H, RelV y v ∧ m ≤ n ∧ D.Own ys s0.heap ∧ D.Yd ys y i m H ∧ At Y D cv fp tn (i + 1) H s0.heap s ∧
    ∀ s2 m2 H2, m2 < m → D.W (ys ++ [y]) (i + 1) m2 H2 → D.Own (ys ++ [y]) s2.heap → At Y D cv fp tn (i + 1) H2 s2.heap s2 → kap (.send .none) s2

/-- the context that stands behind an expression's frame -/
structure Fr0 (Y : Cx) (B : Around) (x : Str) (cv : L2.St) (fp : List Addr) : Prop where
  A : B.deeper Y.env = Y.A
  xe : Y.xe = fun _ _ => False
  pn : Y.pn = []
  ex : Y.ex = fp
  calm : Y.calm = true
  nd : Y.N.Nodup
  at0 : Y.N[0]? = some x
  loc : Y.env.scope.names.lookup x = some .local
  co : Y.env.scope.isCoroutine = false
  kind : Y.env.scope.kind = .function
  len : Y.N.length = cv.length + 1

section
variable {Y : Cx} {B : Around} {x : Str} {cv : L2.St} {fp : List Addr} {tn : Nat → Heap → Prop} {D : Tell} {J : It} {it : Addr} {tt : TT} {te : TE}
variable {elt : Expr} {px : Pos} {iter : Expr} {ifs : List Expr} {scope : Scope} {pos : Pos}

/-- no exception leaves the frame -/
theorem no_xe {Al : Type} {t : Sem Al} {Q Q' : Al → Shared → Prop} {M : Model} {A : Around} {E : Value → Shared → Prop} {s : Shared} (e : Y.xe = fun _ _ => False) (h : wpAny M A t Q Y.xe s) (hQ : ∀ a s, Q a s → Q' a s) : wpAny M A t Q' E s :=
  wpAny_mono h hQ fun a b z => by rw [e] at z; exact z.elim

theorem g_loop (F : Fr0 Y B x cv fp) (T : Turn Y.prog Y.w Y.K (.Name x px) J fp it tn) (hS : ∀ b ∈ D.Ss, b ∉ fp) (pt : PTs Y ifs tt) (pe : PE Y elt te) (turn : Turns D J tt te cv) :
    ∀ (m n : Nat) (ys : List V) (i : Nat) (H : Hp) (s0 s : Shared), m < n → D.W ys i m H → D.Own ys s0.heap → At Y D cv fp tn i H s0.heap s →
      Seg (model Y.prog Y.w) B (gR Y D cv) (gY Y D cv fp tn) n s0 (.compLoop (gEx elt x px iter ifs scope pos) 0 (.ref it) .none Y.env)
        ((model Y.prog Y.w).den (.compLoop (gEx elt x px iter ifs scope pos) 0 (.ref it) .none Y.env)) [] s := by
  intro m
  induction m using Nat.strongRecOn with
  | ind m ih =>
    intro n ys i H s0 s hmn hW hO hA
    have hAr : B.over (.compLoop (gEx elt x px iter ifs scope pos) 0 (.ref it) .none Y.env) [] = Y.A := over_loop.trans F.A
    obtain ⟨I, st, fn⟩ := hA
    have good : ∀ {H' : Hp}, (∀ b ∈ fp, H' b = none) → ∀ b ∈ fp, FpOk Y (pinsAt D.Ss s0.heap) H' b := fun {H'} hn b hb => by
      have hbx : b ∈ Y.ex := by rw [F.ex]; exact hb
      refine ⟨hn b hb, (I.ok.exf b hbx).1, I.ok.exfs b hbx, .inl hbx, fun y c e => (I.ok.exf b hbx).2 y c e, fun p hp z => ?_⟩
      rw [F.pn, List.nil_append] at hp
      exact hS p.1 (of_pinsAt hp).1 (by rw [z]; exact hb)
    show Seg _ B _ _ n s0 _ ((compTurn (gEx elt x px iter ifs scope pos) 0 (.ref it) .none Y.env).onRaise (leaving Y.env)) [] s
    rw [compTurn_gen, Sem.onRaise_eq_wrap]
    refine seg_bind_wrap (wpAny_standAt ?_)
    rcases turn ys i m H hW with ⟨stop, hz⟩ | ⟨go, Nx, Ny, hNx, hNy, step⟩
    · refine seg_bind_wrap ?_
      rw [hAr]
      refine thnF (T.done Y rfl rfl rfl F.calm i _ s _ H (fun _ _ => False) I (good fn) st stop) fun r s6 ⟨hr, I6⟩ => ?_
      subst hr
      exact seg_end (.ok .next) ⟨rfl, ys, H, hO, hz, I6⟩
    · refine seg_bind_wrap ?_
      rw [hAr]
      refine thnF (T.item Y rfl rfl rfl F.calm i _ s _ H (fun _ _ => False) I (good fn) st go) fun r s6 ⟨u, hr, h6⟩ => ?_
      subst hr
      refine seg_bind_wrap ?_
      rw [hAr]
      refine thnF h6 fun _ s7 ⟨xv, H7, I7, r7, y7, st7, n7⟩ => ?_
      have I7' := I7.pinned (good n7) (T.obj _ _ st7)
      refine seg_bind_wrap ?_
      rw [hAr]
      have pg : PG Y (.Name x px) (gName 0) := pg_name F.nd F.at0 (.inl F.loc) (.inr F.loc)
      have hset : ((none :: cv : L2.St).set 0 (some xv)) = some xv :: cv := rfl
      refine no_xe F.xe (pg.run _ s7 _ H7 xv u (fun σ' H' => σ' = some xv :: cv ∧ H' = H7) I7' r7 ⟨hset, rfl⟩) fun _ s8 ⟨σ8, H8, I8, e1, e2⟩ => ?_
      subst e1 e2
      refine seg_bind_wrap ?_
      rw [hAr]
      refine no_xe F.xe (pt.run _ s8 _ H8 _ I8 (step xv H8 y7)) fun b s9 ⟨H9, I9, q9⟩ => ?_
      have back : ∀ {σ' : L2.St} {H' : Hp} {s' : Shared}, σ' = some xv :: cv → Inv Y (pinsAt D.Ss s0.heap ++ pinsAt fp s7.heap) σ' H' s' → At Y D cv fp tn (i + 1) H' s0.heap s' := fun {σ' H' s'} e I' => by
        subst e
        have pin' : ∀ b ∈ fp, ∀ o, s7.heap.get? b = some o → s'.heap.get? b = some o ∧ H' b = none := fun b hb o e =>
          let z := I'.pin (b, o) (List.mem_append_right _ (List.mem_append_right _ (mem_pinsAt hb e)))
          ⟨z.1, z.2.1⟩
        refine ⟨I'.unpinned.weak rfl fun j v e => ?_, T.keep _ _ _ st7 fun b hb o e => (pin' b hb o e).1, fun b hb => ?_⟩
        · cases j with
          | zero => cases e
          | succ j => exact e
        · obtain ⟨o, e, _⟩ := T.obj _ _ st7 b hb
          exact (pin' b hb o e).2
      cases b with
      | false =>
        simp only [Bool.false_eq_true, if_false] at q9 ⊢
        obtain ⟨m2, hm2, w2⟩ := hNx H9 q9
        exact seg_again rfl (ih m2 hm2 n ys (i + 1) H9 s0 s9 (by omega) w2 hO (back rfl I9))
      | true =>
        simp only [if_true] at q9 ⊢
        have hy : ∀ v, yieldOut Y.env v = yieldValue v := fun v => by simp only [yieldOut, F.co, Bool.false_eq_true, if_false]
        simp only [hy]
        rw [Sem.bind_eq_wrap', Sem.bind_eq_wrap', Sem.wrap_wrap, Sem.wrap_wrap]
        refine seg_wrap ?_
        rw [hAr]
        refine no_xe F.xe (pe.run _ s9 _ H9 _ I9 q9) fun yv s10 ⟨y, H10, I10, r10, hyd⟩ => ?_
        have A10 := back rfl I10
        cases n with
        | zero => exact absurd hmn (Nat.not_lt_zero _)
        | succ n =>
          refine seg_at (seg_yield rfl rfl rfl ?_)
          refine ⟨ys, y, i, m, H10, r10, Nat.le_of_lt_succ hmn, hO, hNy _ _ hyd, A10, fun s2 m2 H2 hm2 w2 o2 a2 => ?_⟩
          exact seg_again rfl (ih m2 hm2 n (ys ++ [y]) (i + 1) H2 s2 s2 (by omega) w2 o2 a2)

/-- the first turn -/
theorem g_first (F : Fr0 Y B x cv fp) (T : Turn Y.prog Y.w Y.K (.Name x px) J fp it tn) (hS : ∀ b ∈ D.Ss, b ∉ fp) (pt : PTs Y ifs tt) (pe : PE Y elt te) (turn : Turns D J tt te cv)
    (m n : Nat) (ys : List V) (i : Nat) (H : Hp) (s0 s : Shared) (hmn : m < n) (hW : D.W ys i m H) (hO : D.Own ys s0.heap) (hA : At Y D cv fp tn i H s0.heap s) :
      Seg (model Y.prog Y.w) B (gR Y D cv) (gY Y D cv fp tn) n s0 (.compStart (gEx elt x px iter ifs scope pos) 0 (.ref it) .none Y.env)
        ((model Y.prog Y.w).den (.compStart (gEx elt x px iter ifs scope pos) 0 (.ref it) .none Y.env)) [] s := by
  have loop := g_loop (iter := iter) (scope := scope) (pos := pos) F T hS pt pe turn m n ys i H s0 s hmn hW hO hA
  show Seg _ B _ _ n s0 _ ((compStart (gEx elt x px iter ifs scope pos) 0 (.ref it) .none Y.env).onRaise (leaving Y.env)) [] s
  unfold compStart
  rw [Sem.onRaise_eq_wrap]
  show Seg _ B _ _ n s0 _ ((ask >>= _).wrap _ _ _ _) [] s
  refine seg_bind_wrap (wpAny_askSetting ?_)
  split
  · exact seg_again rfl loop
  · refine seg_bind_wrap (wpAny_rule ?_)
    show Seg _ B _ _ n s0 _ ((standAt iter.pos >>= _).wrap _ _ _ _) [] s
    exact seg_bind_wrap (wpAny_standAt (seg_bind_wrap (T.self _ i s _ _ hA.tn (seg_again rfl loop))))

/-- the generator a (number g) sleeps, n more turns at most -/
def Asleep (Y : Cx) (B : Around) (D : Tell) (cv : L2.St) (fp : List Addr) (tn : Nat → Heap → Prop) (a : Addr) (g n : Nat) (s : Shared) : Prop :=
  ∃ ys i m H gs, m < n ∧ D.W ys i m H ∧ D.Own ys s.heap ∧ At Y D cv fp tn i H s.heap s ∧ s.heap.IsGen a g ∧ s.gens[g]? = some gs ∧
    ∀ s2 m2 H2, m2 ≤ m → D.W ys i m2 H2 → D.Own ys s2.heap → At Y D cv fp tn i H2 s2.heap s2 → gs.Goes (model Y.prog Y.w) B (gR Y D cv) (gY Y D cv fp tn) n (.send .none) s2

/-- behind a yield of y -/
def Given (Y : Cx) (B : Around) (D : Tell) (cv : L2.St) (fp : List Addr) (tn : Nat → Heap → Prop) (a : Addr) (g n : Nat) (ys : List V) (y : V) (i m : Nat) (H : Hp) (s : Shared) : Prop :=
  m ≤ n ∧ D.Own ys s.heap ∧ D.Yd ys y i m H ∧ At Y D cv fp tn (i + 1) H s.heap s ∧ s.heap.IsGen a g ∧ ∃ gs, s.gens[g]? = some gs ∧
    ∀ s2 m2 H2, m2 < m → D.W (ys ++ [y]) (i + 1) m2 H2 → D.Own (ys ++ [y]) s2.heap → At Y D cv fp tn (i + 1) H2 s2.heap s2 → gs.Goes (model Y.prog Y.w) B (gR Y D cv) (gY Y D cv fp tn) n (.send .none) s2
/-- behind the end -/
def Over (Y : Cx) (D : Tell) (cv : L2.St) (ys : List V) (H : Hp) (s : Shared) : Prop := D.Own ys s.heap ∧ D.Zd ys H ∧ Inv Y (pinsAt D.Ss s.heap) (none :: cv) H s

/-- what Own says is read off the consumer's objects, which are there -/
structure Owns (D : Tell) (a : Addr) : Prop where
  keep : ∀ ys h h', D.Own ys h → (∀ b ∈ D.Ss, ∀ o, h.get? b = some o → h'.get? b = some o) → D.Own ys h'
  has : ∀ ys h, D.Own ys h → ∀ b ∈ D.Ss, b ≠ a → ∃ o, h.get? b = some o
  mem : a ∈ D.Ss

theorem inv_gens {pins : List (Addr × Obj)} {σ : L2.St} {H : Hp} {s : Shared} {g' : Array GenState} (I : Inv Y pins σ H s) (hg : AllBare g') : Inv Y pins σ H { s with gens := g' } := by
  refine ⟨I.ok, I.os, hg, I.base, I.loc, I.cell, I.free, I.freeC, I.pin, I.hok, I.len⟩
theorem bare_set {s : Shared} {g : Nat} {z : GenState} (h : AllBare s.gens) (hz : z.bare = true) : AllBare (s.setGen g z).gens := by
  intro y hy
  rcases Array.mem_or_eq_of_mem_setIfInBounds (show y ∈ s.gens.setIfInBounds g z from hy) with q | q
  · exact h y q
  · rw [q]; exact hz
theorem repin {h0 : Heap} {l : List Addr} {σ : L2.St} {H : Hp} {s : Shared} (I : Inv Y (pinsAt l h0) σ H s) (hl : ∀ b ∈ l, ∃ o, h0.get? b = some o) : Inv Y (pinsAt l s.heap) σ H s := by
  refine I.pins_of fun p hp => ?_
  obtain ⟨hb, e⟩ := of_pinsAt hp
  obtain ⟨o, e0⟩ := hl p.1 hb
  obtain ⟨e1, q⟩ := I.pin (p.1, o) (List.mem_append_right _ (mem_pinsAt hb e0))
  rw [e] at e1
  cases e1
  exact ⟨e, q⟩
theorem pin_keep {h0 : Heap} {l : List Addr} {σ : L2.St} {H : Hp} {s : Shared} (I : Inv Y (pinsAt l h0) σ H s) : ∀ b ∈ l, ∀ o, h0.get? b = some o → s.heap.get? b = some o := fun b hb o e =>
  (I.pin (b, o) (List.mem_append_right _ (mem_pinsAt hb e))).1

theorem g_next {A : Around} {a : Addr} {g : Nat} (hAB : B = A.in1) (hroom : A.depth < recursionLimit) (hh : A.handled = none) (O : Owns D a) {n : Nat} {s : Shared} {Q : Option Value → Shared → Prop} {E : Value → Shared → Prop} (h : Asleep Y B D cv fp tn a g (n + 1) s)
    (hY : ∀ ys y v i m H s', RelV y v → (∀ b ∈ D.Ss, ∀ o, s.heap.get? b = some o → s'.heap.get? b = some o) → Given Y B D cv fp tn a g n ys y i m H s' → Q (some v) s')
    (hZ : ∀ ys H s', (∀ b ∈ D.Ss, ∀ o, s.heap.get? b = some o → s'.heap.get? b = some o) → Over Y D cv ys H s' → Q none s') : wpAny (model Y.prog Y.w) A (pyNext (.ref a)) Q E s := by
  obtain ⟨ys, i, m, H, gs, hmn, hW, hO, hA, hg, hgs, kap⟩ := h
  subst hAB
  have has : ∀ b ∈ D.Ss, ∃ o, s.heap.get? b = some o := fun b hb => by
    by_cases e : b = a
    · obtain ⟨o, _, _, ho, _⟩ := hg
      exact ⟨o, by rw [e]; exact ho⟩
    · exact O.has ys _ hO b hb e
  have hA1 : At Y D cv fp tn i H s.heap (s.setGen g .running) := ⟨inv_gens hA.inv (bare_set hA.inv.bare rfl), hA.tn, hA.fpn⟩
  have hgo := kap (s.setGen g .running) m H (Nat.le_refl _) hW hO hA1
  have sz : g < s.gens.size := by
    rcases Nat.lt_or_ge g s.gens.size with z | z
    · exact z
    · rw [Array.getElem?_eq_none z] at hgs; cases hgs
  have gen_at : ∀ h' : Heap, (∀ b ∈ D.Ss, ∀ o, s.heap.get? b = some o → h'.get? b = some o) → h'.IsGen a g := fun h' k => by
    obtain ⟨o, nm, qn, ho, r⟩ := hg
    exact ⟨o, nm, qn, k a O.mem o ho, r⟩
  refine GenW.wpAny_gsz (n := s.gens.size) (Nat.le_refl _) (wpAny_pyNext_genexpQ (P := fun _ s0 s1 => ∃ ys H, D.Own ys s0.heap ∧ D.Zd ys H ∧ Inv Y (pinsAt D.Ss s0.heap) (none :: cv) H s1) (Y := gY Y D cv fp tn) hh hA.inv.nolimit hroom hg hgs hgo (fun v s1 gs2 hb hv hsz => ?_) (fun s1 hp h2 hk hsz => ?_))
  · obtain ⟨ys2, y, i2, m2, H2, rv, hm2, hO2, hyd, hA2, kap2⟩ := hv
    have kp : ∀ b ∈ D.Ss, ∀ o, s.heap.get? b = some o → s1.heap.get? b = some o := pin_keep hA2.inv
    refine hY ys2 y v i2 m2 H2 _ rv kp ⟨hm2, O.keep ys2 _ _ hO2 kp, hyd, ⟨inv_gens (repin hA2.inv has) (bare_set hA2.inv.bare hb), hA2.tn, hA2.fpn⟩, gen_at _ kp, gs2, ?_, kap2⟩
    have hz : g < s1.gens.size := by
      have hsz : s.gens.size ≤ (s1.gens.setIfInBounds g gs2).size := hsz
      rw [Array.size_setIfInBounds] at hsz
      omega
    show (s1.gens.setIfInBounds g gs2)[g]? = some gs2
    simp [hz]
  · obtain ⟨ys2, H2, hO2, hz2, I2⟩ := hp
    have kp : ∀ b ∈ D.Ss, ∀ o, s.heap.get? b = some o → s1.heap.get? b = some o := pin_keep I2
    refine hZ ys2 H2 _ (fun b hb o e => hk b o (kp b hb o e)) ⟨O.keep ys2 _ _ hO2 fun b hb o e => hk b o (kp b hb o e), hz2, ?_⟩
    have I3 : Inv Y (pinsAt D.Ss s.heap) (none :: cv) H2 { s1.setGen g .finished with heap := h2 } := (inv_gens I2 (bare_set (g := g) (z := .finished) I2.bare rfl)).kept (t' := s1.toks) hk
    exact repin I3 has
/-- .. a few arounds further out -/
theorem g_next1 {X : Cx} {a : Addr} {g : Nat} (hB : B = X.A.in4.in1) (hroom : X.A.depth < recursionLimit) (hh : X.A.handled = none) (O : Owns D a) {n : Nat} {s : Shared} {Q : Option Value → Shared → Prop} {E : Value → Shared → Prop} (h : Asleep Y B D cv fp tn a g (n + 1) s)
    (hY : ∀ ys y v i m H s', RelV y v → (∀ b ∈ D.Ss, ∀ o, s.heap.get? b = some o → s'.heap.get? b = some o) → Given Y B D cv fp tn a g n ys y i m H s' → Q (some v) s')
    (hZ : ∀ ys H s', (∀ b ∈ D.Ss, ∀ o, s.heap.get? b = some o → s'.heap.get? b = some o) → Over Y D cv ys H s' → Q none s') : wpAny (model Y.prog Y.w) X.A.in1 (pyNext (.ref a)) Q E s :=
  wpAny_of_in1 (A := X.A.in1) (wpAny_of_in1 (A := X.A.in1.in1) (wpAny_of_in1 (A := X.A.in1.in1.in1) (g_next (A := X.A.in4) hB hroom hh O h hY hZ)))
theorem g_next3 {X : Cx} {a : Addr} {g : Nat} (hB : B = X.A.in4.in1) (hroom : X.A.depth < recursionLimit) (hh : X.A.handled = none) (O : Owns D a) {n : Nat} {s : Shared} {Q : Option Value → Shared → Prop} {E : Value → Shared → Prop} (h : Asleep Y B D cv fp tn a g (n + 1) s)
    (hY : ∀ ys y v i m H s', RelV y v → (∀ b ∈ D.Ss, ∀ o, s.heap.get? b = some o → s'.heap.get? b = some o) → Given Y B D cv fp tn a g n ys y i m H s' → Q (some v) s')
    (hZ : ∀ ys H s', (∀ b ∈ D.Ss, ∀ o, s.heap.get? b = some o → s'.heap.get? b = some o) → Over Y D cv ys H s' → Q none s') : wpAny (model Y.prog Y.w) X.A.in1.in1.in1 (pyNext (.ref a)) Q E s :=
  wpAny_of_in1 (A := X.A.in1.in1.in1) (g_next (A := X.A.in4) hB hroom hh O h hY hZ)
/-- the consumer goes on -/
theorem again {a : Addr} {g n : Nat} {ys : List V} {y : V} {i m m2 : Nat} {H : Hp} {s : Shared} (G : Given Y B D cv fp tn a g n ys y i m H s) (hm : m2 < m) (hW : D.W (ys ++ [y]) (i + 1) m2 H) (hO : D.Own (ys ++ [y]) s.heap) : ∃ n', n = n' + 1 ∧ Asleep Y B D cv fp tn a g (n' + 1) s := by
  obtain ⟨h1, _, _, h4, h5, gs, h6, h7⟩ := G
  obtain ⟨n', rfl⟩ : ∃ n', n = n' + 1 := ⟨n - 1, by omega⟩
  exact ⟨n', rfl, ys ++ [y], i + 1, m2, H, gs, by omega, hW, hO, h4, h5, h6, fun s2 m3 H2 hm3 w3 o3 a3 => h7 s2 m3 H2 (by omega) w3 o3 a3⟩
end
end GX
end

section
set_option Elab.async false
set_option linter.all false
set_option maxRecDepth 100000
set_option maxHeartbeats 4000000
/-! A generator expression made; all and any of it. -/
namespace GX
open PySem PySem.Spec PyProof.Rows L2 GxR
section
variable {X : Cx} {pins : List (Addr × Obj)} {σ : L2.St} {H : Hp} {s : Shared}
variable {x : Str} {cap : List (Str × Nat)} {elt : Expr} {px : Pos} {iter : Expr} {ifs : List Expr} {scope : Scope} {pos : Pos} {c P : Addr} {k : Nat} {wi : TI} {tt : TT} {te : TE}

/-- the generator at a as it has been made -/
structure Made (X : Cx) (pins : List (Addr × Obj)) (σ : L2.St) (x : Str) (cap : List (Str × Nat)) (elt : Expr) (px : Pos) (iter : Expr) (ifs : List Expr) (scope : Scope) (pos : Pos)
    (a g : Addr) (s4 : Shared) (H2 : Hp) (code : Value) (it : Addr) (fp : List Addr) (tn : Nat → Heap → Prop) (J : It) (s5 : Shared) : Prop where
  out : Inv X pins σ H2 s4
  T : Turn X.prog X.w X.K (.Name x px) J fp it tn
  ok : ∀ b ∈ fp, FpOk X pins H2 b ∧ b < s4.heap.objs.size
  inn : Inv (gcx X s4 H2 x cap scope s4.heap.objs.size code fp) [] (none :: capV cap σ) H2 s5
  st : tn 0 s5.heap
  gen : s5.heap.IsGen a g
  gs : s5.gens[g]? = some (.fresh (.compStart (gEx elt x px iter ifs scope pos) 0 (.ref it) .none (gEnv X scope s4.heap.objs.size code)))
  new : s4.heap.objs.size < a
  lt : a < s5.heap.objs.size
  keep : ∀ b o, s4.heap.get? b = some o → s5.heap.get? b = some o

theorem g_make {Q : Value → Shared → Prop} {R : It → Hp → Prop} (hr : Room k X.A) (TB : TabB X.base X.mg c P) (hcode : X.env.code = .ref c) (ok : CapOk X.N X.env.scope scope x cap) (hi : PI X (.Name x px) iter wi)
    (hs : ∀ v, genFold iter X.env v = pure v) (I : Inv X pins σ H s) (h : wi σ H fun J H1 => TabG H1 P ∧ R J H1)
    (hQ : ∀ a g s4 H1 H2 code it fp tn J s5, Made X pins σ x cap elt px iter ifs scope pos a g s4 H2 code it fp tn J s5 → Tabbed P H1 H2 → R J H1 → Q (.ref a) s5) :
    wpAny (model X.prog X.w) X.A (eval (gEx elt x px iter ifs scope pos) X.env) Q X.xe s := by
  have frees : ∀ y ∈ scope.names, y.2 = .free → ∃ c, X.env.cells.lookup y.1 = some c := fun y hy e => by
    rcases ok.free y hy e with q | q
    · exact I.ok.has _ (.inl q)
    · exact I.ok.has _ (.inr q)
  refine wpAny_GeneratorExp_make ok.co (closure_ok frees) ok.nocell ok.dot ok.kind hr.depth ?_ hs
  refine thn (hi.run pins s σ H _ I h) fun xv s1 hx => thn hx fun itv s2 h2 => ?_
  obtain ⟨it, fp, tn, J, H1, e, I2, T, st2, f2, ⟨ps, hP, htr⟩, hR⟩ := h2
  subst e
  have hPs : s2.heap.get? P = some { cls := .none, data := .fields ps } := I2.hok P _ hP
  have cd : PySem.W.CodeHd s2.heap c P := TB.code.keeps fun b u e => I2.bk b u e
  -- what follows from the code on
  have go : ∀ (code : Value) (h3 : Heap) (tk : Nat) (more : Array Value), Heap.ExtBut P s2.heap h3 → h3.get? P = some { cls := .none, data := .fields (ps ++ more) } → TriplesOk (ps ++ more).toList →
      wpAny (model X.prog X.w) X.A (builtinsFor X.env.globals X.env.builtins) (fun bi s4 => ∀ h', h'.Ns s4.heap.objs.size (fun y => if y = ".0" then some (.ref it) else none) →
        Heap.SameBut s4.heap.objs.size (s4.heap.push { cls := .type "frame", data := .dict #[] }) h' →
          Q (.ref h'.objs.size) { s4 with
            gens := s4.gens.push (.fresh (.compStart (gEx elt x px iter ifs scope pos) 0 (.ref it) .none (genEnv scope (cloFrom X.env.cells scope.names []) s4.heap.objs.size code bi X.env))),
            toks := s4.toks + 1 + 1 + 1,
            heap := h'.push { cls := .type "generator", data := .fields #[.int s4.gens.size 0, .str "<genexpr>" (s4.toks + 1), .str (X.env.qual ++ "<genexpr>") (s4.toks + 1 + 1)] } }) X.xe { s2 with heap := h3, toks := tk } := by
    intro code h3 tk more hx hP3 ht3
    obtain ⟨bm, ob, e1, e2, e3, e4, e5, e6, e7, e8⟩ := TB.bm
    have keep3 : ∀ b u, b ≠ P → s2.heap.get? b = some u → h3.get? b = some u := fun b u hb e => hx b u hb e
    refine wpAny_builtinsFor (m := X.mg) (by rw [I2.ok.glob]; exact (I2.mod.glob.keeps I2.bk).extBut hx TB.gP) e1 e2 (keep3 _ _ e4 (I2.bk _ _ e5)) e6 e7 e8 ?_
    intro h' hn' hs'
    have J4 : Inv X pins σ (upd H1 P (.tbl (ps ++ more))) { s2 with heap := h3, toks := tk } := inv_tab (g' := s2.gens) (d' := s2.drawn) (t' := tk) I2 hP (fun b u hb e => keep3 b u hb e) hP3 I2.bare
    have nP : ∀ b ∈ fp, b ≠ P := fun b hb z => by
      have q := (f2 b hb).1
      rw [z, hP] at q
      cases q
    have fpOk : ∀ b ∈ fp, FpOk X pins (upd H1 P (.tbl (ps ++ more))) b ∧ b < h3.objs.size := fun b hb => by
      obtain ⟨o, e, _⟩ := T.obj _ _ st2 b hb
      refine ⟨⟨?_, (f2 b hb).2⟩, Heap.lt_size (keep3 b o (nP b hb) e)⟩
      rw [upd_ne (nP b hb)]
      exact (f2 b hb).1
    have hsz : h'.objs.size = h3.objs.size + 1 := by rw [hs'.1, Heap.size_push]
    have keep' : ∀ b o, h3.get? b = some o → h'.get? b = some o := fun b o e => hs'.extBut b o (Nat.ne_of_lt (Heap.lt_size e)) (Heap.get?_push_of_some _ e)
    have keep5 : ∀ (o5 : Obj) b o, h3.get? b = some o → (h'.push o5).get? b = some o := fun o5 b o e => Heap.get?_push_of_some _ (keep' b o e)
    refine hQ _ s2.gens.size { s2 with heap := h3, toks := tk } H1 (upd H1 P (.tbl (ps ++ more))) code it fp tn J _ ⟨J4, T, fpOk, ?_, ?_, ?_, ?_, ?_, ?_, fun b o e => keep5 _ b o e⟩ ⟨⟨ps ++ more, upd_same, ht3⟩, fun b hb => upd_ne hb⟩ hR
    · exact g_start (s := { s2 with heap := h3, toks := tk }) J4 ok fpOk (fun b o e => keep5 _ b o e) (hn'.push _) (J4.bare.push rfl)
    · exact T.keep _ _ _ st2 fun b hb o e => keep5 _ b o (keep3 b o (nP b hb) e)
    · exact ⟨_, _, _, Heap.get?_push_size _ rfl, rfl, rfl, rfl⟩
    · exact Array.getElem?_push_size ..
    · show h3.objs.size < h'.objs.size
      omega
    · show h'.objs.size < (h'.push _).objs.size
      rw [Heap.size_push]
      exact Nat.lt_succ_self _
  refine ⟨I2.nolimit, ?_⟩
  cases hf : codeAmong pos ps.toList with
  | none =>
    refine wpAny_genexprCodeX hcode (cd.code hPs htr) (cd.tab hPs) hf fun c' h' tk hx hge hlt hco' _ htab' _ => ?_
    obtain ⟨o1, vs, f1, tf, fl, tg, inF, tx, tt, op, _, _, _, _, _, _, _, _, _, htr', _⟩ := hco'
    exact go _ h' tk _ hx htab'.2 htr'
  | some cv =>
    refine wpAny_genexprCode_hit hcode (cd.code hPs htr) hf ?_
    exact go cv s2.heap s2.toks #[] (Heap.ExtBut.refl _ _) (by simpa using hPs) (by simpa using htr)

/-- back in the def's context -/
theorem Made.back {a g : Addr} {s4 : Shared} {H2 : Hp} {code : Value} {it : Addr} {fp : List Addr} {tn : Nat → Heap → Prop} {J : It} {s5 s' : Shared} {pl : List (Addr × Obj)} {H' : Hp}
    (M : Made X pins σ x cap elt px iter ifs scope pos a g s4 H2 code it fp tn J s5) (I : Inv (gcx X s4 H2 x cap scope s4.heap.objs.size code fp) pl (none :: capV cap σ) H' s') : Inv X pins σ H' s' :=
  M.out.call' (ch := fp) I.os I.base I.hok I.bare fun b hb => ⟨(M.ok b hb).1.2.2.2.1, (M.ok b hb).1.2.1, (M.ok b hb).1.2.2.2.2.1, (M.ok b hb).1.2.2.2.2.2⟩
theorem Made.fr0 {a g : Addr} {s4 : Shared} {H2 : Hp} {code : Value} {it : Addr} {fp : List Addr} {tn : Nat → Heap → Prop} {J : It} {s5 : Shared} (ok : CapOk X.N X.env.scope scope x cap) (hc : X.calm = true)
    (M : Made X pins σ x cap elt px iter ifs scope pos a g s4 H2 code it fp tn J s5) : Fr0 (gcx X s4 H2 x cap scope s4.heap.objs.size code fp) X.A.in4.in1 x (capV cap σ) fp :=
  ⟨rfl, rfl, rfl, rfl, hc, ok.nd, rfl, ok.loc, ok.co, ok.kind, by show (x :: cap.map (·.1)).length = _; simp [capV_length]⟩
end
end GX
end

section
set_option Elab.async false
set_option linter.all false
set_option maxRecDepth 100000
set_option maxHeartbeats 4000000
/-! all and any of a generator expression. -/
namespace GX
open PySem PySem.Spec PyProof.Rows L2 GxR
section
variable {X : Cx} {pins : List (Addr × Obj)} {σ : L2.St} {H : Hp} {s : Shared}
variable {x : Str} {cap : List (Str × Nat)} {elt : Expr} {px : Pos} {iter : Expr} {ifs : List Expr} {scope : Scope} {pos : Pos} {c P : Addr} {k : Nat} {wi : TI} {tt : TT} {te : TE}
variable {a g : Addr} {s4 : Shared} {H2 : Hp} {code : Value} {it : Addr} {fp : List Addr} {tn : Nat → Heap → Prop} {J : It} {s5 : Shared}

/-- what may be pinned: laid behind the frame -/
theorem Made.pinOk (M : Made X pins σ x cap elt px iter ifs scope pos a g s4 H2 code it fp tn J s5) {l : List Addr} {H' : Hp} {s' : Shared} {σ' : L2.St} {pl : List (Addr × Obj)}
    (I : Inv (gcx X s4 H2 x cap scope s4.heap.objs.size code fp) pl σ' H' s') (hl : ∀ b ∈ l, s4.heap.objs.size < b ∧ H' b = none ∧ ∀ o, s'.heap.get? b = some o → ∀ v, o.data ≠ .cell v) :
    Inv (gcx X s4 H2 x cap scope s4.heap.objs.size code fp) (pinsAt l s'.heap) σ' H' s' := by
  refine I.pins_of fun p hp => ?_
  obtain ⟨hb, e⟩ := of_pinsAt hp
  obtain ⟨h1, h2, h3⟩ := hl p.1 hb
  refine ⟨e, h2, Nat.ne_of_gt h1, fun z => ?_, h3 _ e⟩
  have z : p.1 ∈ frs X.stack := z
  rcases List.mem_cons.mp (M.out.stkSub _ z) with q | q
  · have h4 := M.out.lt
    rw [← q] at h4
    exact absurd (Nat.lt_trans h4 h1) (Nat.lt_irrefl _)
  · exact M.out.nofs (Nat.le_of_lt h1) q

/-- the start of a walk -/
theorem Made.asleep (M : Made X pins σ x cap elt px iter ifs scope pos a g s4 H2 code it fp tn J s5) (ok : CapOk X.N X.env.scope scope x cap) (hc : X.calm = true) {D : Tell}
    (hl : ∀ b ∈ D.Ss, s4.heap.objs.size < b) (pt : PTs (gcx X s4 H2 x cap scope s4.heap.objs.size code fp) ifs tt) (pe : PE (gcx X s4 H2 x cap scope s4.heap.objs.size code fp) elt te) (turn : Turns D J tt te (capV cap σ))
    {m : Nat} {s : Shared} (hW : D.W [] 0 m H2) (hO : D.Own [] s.heap) (hA : At (gcx X s4 H2 x cap scope s4.heap.objs.size code fp) D (capV cap σ) fp tn 0 H2 s.heap s) (hg : s.heap.IsGen a g) (hgs : s.gens = s5.gens) :
    Asleep (gcx X s4 H2 x cap scope s4.heap.objs.size code fp) X.A.in4.in1 D (capV cap σ) fp tn a g (m + 1) s := by
  refine ⟨[], 0, m, H2, .fresh (.compStart (gEx elt x px iter ifs scope pos) 0 (.ref it) .none (gEnv X scope s4.heap.objs.size code)), Nat.lt_succ_self _, hW, hO, hA, hg, by rw [hgs]; exact M.gs, fun s2 m2 H3 hm hW2 hO2 hA2 => ⟨rfl, ?_⟩⟩
  exact g_first (M.fr0 ok hc) M.T (fun b hb z => absurd (Nat.lt_trans (hl b hb) (M.ok b z).2) (Nat.lt_irrefl _)) pt pe turn m2 (m + 1) [] 0 H3 s2 s2 (Nat.lt_succ_of_le hm) hW2 hO2 hA2

/-- the consumer keeps nothing -/
abbrev tellA (a : Addr) (W : List V → Nat → Nat → Hp → Prop) (Yd : List V → V → Nat → Nat → Hp → Prop) (Zd : List V → Hp → Prop) : Tell := ⟨[a], fun _ _ => True, W, Yd, Zd⟩
theorem owns_a {W Yd Zd} : Owns (tellA a W Yd Zd) a := ⟨fun _ _ _ _ _ => trivial, fun _ _ _ b hb ne => absurd (List.mem_singleton.mp hb) ne, List.mem_singleton.mpr rfl⟩

theorem Made.a_ok (M : Made X pins σ x cap elt px iter ifs scope pos a g s4 H2 code it fp tn J s5) : s4.heap.objs.size < a ∧ H2 a = none ∧ ∀ o, s5.heap.get? a = some o → ∀ v, o.data ≠ .cell v := by
  refine ⟨M.new, M.out.hok.fresh (Nat.le_of_lt M.new), fun o e v z => ?_⟩
  obtain ⟨o', _, _, e', _, d, _⟩ := M.gen
  rw [e] at e'
  cases e'
  rw [d] at z
  cases z

section loops
variable {Y : Cx} {B : Around} {cv : L2.St} {W : List V → Nat → Nat → Hp → Prop} {Yd : List V → V → Nat → Nat → Hp → Prop} {Zd : List V → Hp → Prop} {R : Result → Shared → Prop}
theorem all_loop (hP : Y.prog = X.prog) (hw : Y.w = X.w) (hB : B = X.A.in4.in1) (hroom : X.A.depth < recursionLimit) (hh : X.A.handled = none)
    (hY : ∀ ys y i m H s', Yd ys y i m H → Inv Y (pinsAt [a] s'.heap) (none :: cv) H s' → ∃ b, y = .bl b ∧ (b = true → ∃ m2, m2 < m ∧ W (ys ++ [y]) (i + 1) m2 H) ∧ (b = false → R (.ok (.ret (.bool false))) s'))
    (hZ : ∀ ys H s', Zd ys H → Inv Y (pinsAt [a] s'.heap) (none :: cv) H s' → R (.ok (.ret (.bool true))) s') :
    ∀ (n : Nat) (s : Shared), Asleep Y B (tellA a W Yd Zd) cv fp tn a g (n + 1) s → codeAny (model X.prog X.w) X.A (.builtin "all.loop" ⟨[.ref a], []⟩) R s := by
  intro n
  induction n with
  | zero =>
    intro s h
    refine codeAny_builtin F.entry_all_loop ?_
    rw [Around.under_plainId F.plain_all_loop _, ← hP, ← hw]
    refine wpAny_bind (g_next1 (X := X) hB hroom hh owns_a h (fun ys y v i m H s' rv _ G => ?_) fun ys H s' _ O => ?_)
    · obtain ⟨b, rfl, h1, h2⟩ := hY ys y i m H s' G.2.2.1 G.2.2.2.1.inv
      obtain rfl : v = Value.bool b := rv
      refine wpAny_bind (wpAny_holding (wpAny_truthy_bool (wpAny_bind (wpAny_letGo ?_))))
      cases b with
      | true =>
        obtain ⟨m2, hm, w2⟩ := h1 rfl
        obtain ⟨n', e, _⟩ := GX.again G hm w2 trivial
        cases e
      | false =>
        simp only [Bool.false_eq_true, if_false]
        exact wpAny_bind (wpAny_rule (wpAny_pure (h2 rfl)))
    · exact wpAny_bind (wpAny_rule (wpAny_pure (hZ ys H s' O.2.1 O.2.2)))
  | succ n ih =>
    intro s h
    refine codeAny_builtin F.entry_all_loop ?_
    rw [Around.under_plainId F.plain_all_loop _, ← hP, ← hw]
    refine wpAny_bind (g_next1 (X := X) hB hroom hh owns_a h (fun ys y v i m H s' rv _ G => ?_) fun ys H s' _ O => ?_)
    · obtain ⟨b, rfl, h1, h2⟩ := hY ys y i m H s' G.2.2.1 G.2.2.2.1.inv
      obtain rfl : v = Value.bool b := rv
      refine wpAny_bind (wpAny_holding (wpAny_truthy_bool (wpAny_bind (wpAny_letGo ?_))))
      cases b with
      | true =>
        obtain ⟨m2, hm, w2⟩ := h1 rfl
        obtain ⟨n', e, S⟩ := GX.again G hm w2 trivial
        cases e
        simp only [if_true]
        rw [hP, hw]
        exact wpAny_pure ⟨plainId_quiet F.plain_all_loop _, ih _ S⟩
      | false =>
        simp only [Bool.false_eq_true, if_false]
        exact wpAny_bind (wpAny_rule (wpAny_pure (h2 rfl)))
    · exact wpAny_bind (wpAny_rule (wpAny_pure (hZ ys H s' O.2.1 O.2.2)))
theorem any_loop (hP : Y.prog = X.prog) (hw : Y.w = X.w) (hB : B = X.A.in4.in1) (hroom : X.A.depth < recursionLimit) (hh : X.A.handled = none)
    (hY : ∀ ys y i m H s', Yd ys y i m H → Inv Y (pinsAt [a] s'.heap) (none :: cv) H s' → ∃ b, y = .bl b ∧ (b = false → ∃ m2, m2 < m ∧ W (ys ++ [y]) (i + 1) m2 H) ∧ (b = true → R (.ok (.ret (.bool true))) s'))
    (hZ : ∀ ys H s', Zd ys H → Inv Y (pinsAt [a] s'.heap) (none :: cv) H s' → R (.ok (.ret (.bool false))) s') :
    ∀ (n : Nat) (s : Shared), Asleep Y B (tellA a W Yd Zd) cv fp tn a g (n + 1) s → codeAny (model X.prog X.w) X.A (.builtin "any.loop" ⟨[.ref a], []⟩) R s := by
  intro n
  induction n with
  | zero =>
    intro s h
    refine codeAny_builtin F.entry_any_loop ?_
    rw [Around.under_plainId F.plain_any_loop _, ← hP, ← hw]
    refine wpAny_bind (g_next1 (X := X) hB hroom hh owns_a h (fun ys y v i m H s' rv _ G => ?_) fun ys H s' _ O => ?_)
    · obtain ⟨b, rfl, h1, h2⟩ := hY ys y i m H s' G.2.2.1 G.2.2.2.1.inv
      obtain rfl : v = Value.bool b := rv
      refine wpAny_bind (wpAny_holding (wpAny_truthy_bool (wpAny_bind (wpAny_letGo ?_))))
      cases b with
      | false =>
        obtain ⟨m2, hm, w2⟩ := h1 rfl
        obtain ⟨n', e, _⟩ := GX.again G hm w2 trivial
        cases e
      | true =>
        simp only [if_true]
        exact wpAny_bind (wpAny_rule (wpAny_pure (h2 rfl)))
    · exact wpAny_bind (wpAny_rule (wpAny_pure (hZ ys H s' O.2.1 O.2.2)))
  | succ n ih =>
    intro s h
    refine codeAny_builtin F.entry_any_loop ?_
    rw [Around.under_plainId F.plain_any_loop _, ← hP, ← hw]
    refine wpAny_bind (g_next1 (X := X) hB hroom hh owns_a h (fun ys y v i m H s' rv _ G => ?_) fun ys H s' _ O => ?_)
    · obtain ⟨b, rfl, h1, h2⟩ := hY ys y i m H s' G.2.2.1 G.2.2.2.1.inv
      obtain rfl : v = Value.bool b := rv
      refine wpAny_bind (wpAny_holding (wpAny_truthy_bool (wpAny_bind (wpAny_letGo ?_))))
      cases b with
      | false =>
        obtain ⟨m2, hm, w2⟩ := h1 rfl
        obtain ⟨n', e, S⟩ := GX.again G hm w2 trivial
        cases e
        simp only [Bool.false_eq_true, if_false]
        rw [hP, hw]
        exact wpAny_pure ⟨plainId_quiet F.plain_any_loop _, ih _ S⟩
      | true =>
        simp only [if_true]
        exact wpAny_bind (wpAny_rule (wpAny_pure (h2 rfl)))
    · exact wpAny_bind (wpAny_rule (wpAny_pure (hZ ys H s' O.2.1 O.2.2)))
end loops

/-- all(elt for x in iter if ..): P the table of the running def's code -/
def tAllG (P : Addr) (cap : List (Str × Nat)) (wi : TI) (tt : TT) (te : TE) : TE := fun σ H Q => wi σ H fun J H1 => TabG H1 P ∧ ∀ H2, Tabbed P H1 H2 → ∃ W : Nat → Nat → Hp → Prop, (∃ m, W 0 m H2) ∧ ∀ i m H, W i m H →
  (J.stop i H ∧ Q (.bl true) H) ∨ (J.go i H ∧ ∃ Nx : Hp → Prop, (∀ H', Nx H' → ∃ m', m' < m ∧ W (i + 1) m' H') ∧
    ∀ v H', J.yld i H v H' → tt (some v :: capV cap σ) H' fun b H3 => if b = true then te (some v :: capV cap σ) H3 fun y H4 => ∃ z, y = .bl z ∧ (z = true → Nx H4) ∧ (z = false → Q (.bl false) H4) else Nx H3)
def tAnyG (P : Addr) (cap : List (Str × Nat)) (wi : TI) (tt : TT) (te : TE) : TE := fun σ H Q => wi σ H fun J H1 => TabG H1 P ∧ ∀ H2, Tabbed P H1 H2 → ∃ W : Nat → Nat → Hp → Prop, (∃ m, W 0 m H2) ∧ ∀ i m H, W i m H →
  (J.stop i H ∧ Q (.bl false) H) ∨ (J.go i H ∧ ∃ Nx : Hp → Prop, (∀ H', Nx H' → ∃ m', m' < m ∧ W (i + 1) m' H') ∧
    ∀ v H', J.yld i H v H' → tt (some v :: capV cap σ) H' fun b H3 => if b = true then te (some v :: capV cap σ) H3 fun y H4 => ∃ z, y = .bl z ∧ (z = false → Nx H4) ∧ (z = true → Q (.bl true) H4) else Nx H3)

variable {p cpos : Pos}
theorem pe_allG (hr : Room k X.A) (hc : X.calm = true) (hg : Gl X "all") (hm : X.mg "all" = none) (TB : TabB X.base X.mg c P) (hcode : X.env.code = .ref c) (ok : CapOk X.N X.env.scope scope x cap) (hi : PI X (.Name x px) iter wi)
    (ht : ∀ (s : Shared) (H : Hp) (C : Addr) (code : Value) (fp : List Addr), PTs (gcx X s H x cap scope C code fp) ifs tt) (he : ∀ (s : Shared) (H : Hp) (C : Addr) (code : Value) (fp : List Addr), PE (gcx X s H x cap scope C code fp) elt te)
    (hs : ∀ v, genFold iter X.env v = pure v := by intro _; rfl)
    (hst : starEach [gEx elt x px iter ifs scope pos] X.env = (false, eval (gEx elt x px iter ifs scope pos) X.env) :: starEach [] X.env := by rfl) :
    PE X (.Call (.Name "all" p) [gEx elt x px iter ifs scope pos] [] cpos) (tAllG P cap wi tt te) := by
  refine ⟨fun pins s σ H Q I h => ?_⟩
  refine wpAny_Call_Name_kw (ld_blt I hg hm (show bootBuiltins "all" = some (.builtin "all") by decide +kernel) ?_)
  refine PyProof.Rows.callWith_builtin1 ?_ hst (by rfl)
  rw [hst]
  show wpAny _ _ (spliced ((false, eval (gEx elt x px iter ifs scope pos) X.env) :: backTo cpos (starEach [] X.env))) _ _ s
  refine Calls.spliced_cons (g_make hr TB hcode ok hi hs I h fun a g s4 H1 H2 code it fp tn J s5 M hT hR => ?_)
  refine Calls.spliced_nil ?_
  obtain ⟨W, ⟨m0, w0⟩, turn⟩ := hR H2 hT
  refine call_function_tree F.kind_all F.plain_all F.entry_all (F.args_all1 _) ?_
  unfold Builtin.«all»
  refine wpAny_bind (m := oneArg "all" _) (wpAny_pure ?_)
  refine wpAny_bind (wpAny_pyIter_gen M.gen ?_)
  have S : Asleep (gcx X s4 H2 x cap scope s4.heap.objs.size code fp) X.A.in4.in1 (tellA a (fun _ => W) (fun _ y i m H => ∃ z, y = .bl z ∧ (z = true → ∃ m', m' < m ∧ W (i + 1) m' H) ∧ (z = false → Q (.bl false) H)) (fun _ H => Q (.bl true) H)) (capV cap σ) fp tn a g (m0 + 1) s5 := by
    refine M.asleep ok hc (fun b hb => by rw [List.mem_singleton.mp hb]; exact M.new) (ht ..) (he ..) (fun ys i m H w => ?_) w0 trivial ⟨M.pinOk M.inn fun b hb => by rw [List.mem_singleton.mp hb]; exact M.a_ok, M.st, fun b hb => (M.ok b hb).1.1⟩ M.gen rfl
    rcases turn i m H w with ⟨st, q⟩ | ⟨gg, Nx, hN, q⟩
    · exact .inl ⟨st, q⟩
    · exact .inr ⟨gg, Nx, _, hN, fun y H' ⟨z, e, h1, h2⟩ => ⟨z, e, fun q => hN H' (h1 q), h2⟩, q⟩
  refine wpAny_pure ⟨plainId_quiet F.plain_all_loop _, all_loop (X := X) (Y := gcx X s4 H2 x cap scope s4.heap.objs.size code fp) rfl rfl rfl hr.depth hr.hd (fun ys y i m H s' hyd I' => ?_) (fun ys H s' q I' => ?_) m0 s5 S⟩
  · obtain ⟨z, e, h1, h2⟩ := hyd
    exact ⟨z, e, h1, fun q => ⟨.bl false, H, M.back I', rfl, h2 q⟩⟩
  · exact ⟨.bl true, H, M.back I', rfl, q⟩
theorem pe_anyG (hr : Room k X.A) (hc : X.calm = true) (hg : Gl X "any") (hm : X.mg "any" = none) (TB : TabB X.base X.mg c P) (hcode : X.env.code = .ref c) (ok : CapOk X.N X.env.scope scope x cap) (hi : PI X (.Name x px) iter wi)
    (ht : ∀ (s : Shared) (H : Hp) (C : Addr) (code : Value) (fp : List Addr), PTs (gcx X s H x cap scope C code fp) ifs tt) (he : ∀ (s : Shared) (H : Hp) (C : Addr) (code : Value) (fp : List Addr), PE (gcx X s H x cap scope C code fp) elt te)
    (hs : ∀ v, genFold iter X.env v = pure v := by intro _; rfl)
    (hst : starEach [gEx elt x px iter ifs scope pos] X.env = (false, eval (gEx elt x px iter ifs scope pos) X.env) :: starEach [] X.env := by rfl) :
    PE X (.Call (.Name "any" p) [gEx elt x px iter ifs scope pos] [] cpos) (tAnyG P cap wi tt te) := by
  refine ⟨fun pins s σ H Q I h => ?_⟩
  refine wpAny_Call_Name_kw (ld_blt I hg hm (show bootBuiltins "any" = some (.builtin "any") by decide +kernel) ?_)
  refine PyProof.Rows.callWith_builtin1 ?_ hst (by rfl)
  rw [hst]
  show wpAny _ _ (spliced ((false, eval (gEx elt x px iter ifs scope pos) X.env) :: backTo cpos (starEach [] X.env))) _ _ s
  refine Calls.spliced_cons (g_make hr TB hcode ok hi hs I h fun a g s4 H1 H2 code it fp tn J s5 M hT hR => ?_)
  refine Calls.spliced_nil ?_
  obtain ⟨W, ⟨m0, w0⟩, turn⟩ := hR H2 hT
  refine call_function_tree F.kind_any F.plain_any F.entry_any (F.args_any1 _) ?_
  unfold Builtin.«any»
  refine wpAny_bind (m := oneArg "any" _) (wpAny_pure ?_)
  refine wpAny_bind (wpAny_pyIter_gen M.gen ?_)
  have S : Asleep (gcx X s4 H2 x cap scope s4.heap.objs.size code fp) X.A.in4.in1 (tellA a (fun _ => W) (fun _ y i m H => ∃ z, y = .bl z ∧ (z = false → ∃ m', m' < m ∧ W (i + 1) m' H) ∧ (z = true → Q (.bl true) H)) (fun _ H => Q (.bl false) H)) (capV cap σ) fp tn a g (m0 + 1) s5 := by
    refine M.asleep ok hc (fun b hb => by rw [List.mem_singleton.mp hb]; exact M.new) (ht ..) (he ..) (fun ys i m H w => ?_) w0 trivial ⟨M.pinOk M.inn fun b hb => by rw [List.mem_singleton.mp hb]; exact M.a_ok, M.st, fun b hb => (M.ok b hb).1.1⟩ M.gen rfl
    rcases turn i m H w with ⟨st, q⟩ | ⟨gg, Nx, hN, q⟩
    · exact .inl ⟨st, q⟩
    · exact .inr ⟨gg, Nx, _, hN, fun y H' ⟨z, e, h1, h2⟩ => ⟨z, e, fun q => hN H' (h1 q), h2⟩, q⟩
  refine wpAny_pure ⟨plainId_quiet F.plain_any_loop _, any_loop (X := X) (Y := gcx X s4 H2 x cap scope s4.heap.objs.size code fp) rfl rfl rfl hr.depth hr.hd (fun ys y i m H s' hyd I' => ?_) (fun ys H s' q I' => ?_) m0 s5 S⟩
  · obtain ⟨z, e, h1, h2⟩ := hyd
    exact ⟨z, e, h1, fun q => ⟨.bl true, H, M.back I', rfl, h2 q⟩⟩
  · exact ⟨.bl false, H, M.back I', rfl, q⟩
end
end GX
end

section
set_option Elab.async false
set_option linter.all false
set_option maxRecDepth 100000
set_option maxHeartbeats 4000000
/-! Consumers that keep a list: sum, max, tuple of a generator expression. -/
namespace GX
open PySem PySem.Spec PyProof.Rows L2 GxR

/-- the consumer's list -/
abbrev lo (acc : Array Value) (n : Nat) : Obj := { cls := .type "list", dict := none, data := .seq acc n, slots := #[] }
/-- the consumer keeps a list at S -/
abbrev tellS (a S : Addr) (OwnR : List V → Array Value → Prop) (W : List V → Nat → Nat → Hp → Prop) (Yd : List V → V → Nat → Nat → Hp → Prop) (Zd : List V → Hp → Prop) : Tell :=
  ⟨[a, S], fun ys h => ∃ acc n, h.get? S = some (lo acc n) ∧ OwnR ys acc, W, Yd, Zd⟩
section
variable {a S g : Addr} {OwnR : List V → Array Value → Prop} {W : List V → Nat → Nat → Hp → Prop} {Yd : List V → V → Nat → Nat → Hp → Prop} {Zd : List V → Hp → Prop}
variable {Y : Cx} {B : Around} {cv : L2.St} {fp : List Addr} {tn : Nat → Heap → Prop}
theorem owns_s : Owns (tellS a S OwnR W Yd Zd) a := by
  refine ⟨fun ys h h' ⟨acc, n, e, q⟩ k => ⟨acc, n, k S (by simp) _ e, q⟩, fun ys h ⟨acc, n, e, q⟩ b hb ne => ?_, by simp⟩
  rcases List.mem_cons.mp hb with z | z
  · exact absurd z ne
  · rw [List.mem_singleton.mp z]
    exact ⟨_, e⟩

/-- the consumer's list has changed -/
theorem inv_put {H : Hp} {s : Shared} {h' : Heap} {tk : Nat} {acc : Array Value} {n n' : Nat} {acc' : Array Value} (hpn : Y.pn = []) (hSY : Y.s_0.heap.objs.size ≤ S) (hne : S ≠ a)
    (I : Inv Y (pinsAt [a, S] s.heap) (none :: cv) H s) (hS : s.heap.get? S = some (lo acc n)) (ha : ∃ o, s.heap.get? a = some o)
    (k : ∀ b o, b ≠ S → s.heap.get? b = some o → h'.get? b = some o) (hS' : h'.get? S = some (lo acc' n')) : Inv Y (pinsAt [a, S] h') (none :: cv) H { s with heap := h', toks := tk } := by
  obtain ⟨_, pS2, pS3, pS4, pS5⟩ := I.pin (S, lo acc n) (List.mem_append_right _ (mem_pinsAt (by simp) hS))
  obtain ⟨oa, ea⟩ := ha
  obtain ⟨_, pa2, pa3, pa4, pa5⟩ := I.pin (a, oa) (List.mem_append_right _ (mem_pinsAt (by simp) ea))
  have I0 : Inv Y [] (none :: cv) H s := I.pins_of fun p hp => nomatch hp
  have I1 : Inv Y [] (none :: cv) H { s with heap := h', toks := tk } := by
    refine I0.turned (t' := tk) k pS2 pS3 (.inr hSY) (fun x c e z => ?_) fun p hp => ?_
    · obtain ⟨v, o, e1, e2⟩ := I.cell x c e
      rw [z, hS] at e1
      cases e1
      cases e2
    · rw [hpn] at hp
      cases hp
  refine I1.pins_of fun p hp => ?_
  obtain ⟨hb, e⟩ := of_pinsAt hp
  rcases List.mem_cons.mp hb with z | z
  · rw [z] at e ⊢
    have e' := k a oa (fun q => hne q.symm) ea
    rw [show h'.get? a = some p.2 from e] at e'
    cases e'
    exact ⟨e, pa2, pa3, pa4, pa5⟩
  · have z := List.mem_singleton.mp z
    rw [z] at e ⊢
    have e2 : h'.get? S = some p.2 := e
    rw [hS'] at e2
    have e3 : p.2 = lo acc' n' := (Option.some.inj e2).symm
    exact ⟨e, pS2, pS3, pS4, fun v q => by rw [e3] at q; cases q⟩
/-- the consumer has put its list anew and goes on -/
theorem again_s {D : Tell} {J : It} {it : Addr} {P : Program} {w : World} {K : PySem.W.Frag} {tg : Expr} (hD : D = tellS a S OwnR W Yd Zd) (T : Turn P w K tg J fp it tn) (hpn : Y.pn = []) (hSY : Y.s_0.heap.objs.size ≤ S) (hne : S ≠ a) (hSf : S ∉ fp)
    {n : Nat} {ys : List V} {y : V} {i m m2 : Nat} {H : Hp} {s : Shared} {h' : Heap} {tk : Nat} {acc' : Array Value} {n' : Nat} (G : Given Y B D cv fp tn a g n ys y i m H s)
    (k : ∀ b o, b ≠ S → s.heap.get? b = some o → h'.get? b = some o) (hS' : h'.get? S = some (lo acc' n')) (hO : OwnR (ys ++ [y]) acc') (hm : m2 < m) (hW : W (ys ++ [y]) (i + 1) m2 H) :
    ∃ n2, n = n2 + 1 ∧ Asleep Y B D cv fp tn a g (n2 + 1) { s with heap := h', toks := tk } := by
  subst hD
  obtain ⟨h1, ⟨acc, n0, hS, _⟩, _, h4, ⟨oa, nm, qn, ho, r⟩, gs, h6, h7⟩ := G
  obtain ⟨n2, rfl⟩ : ∃ n2, n = n2 + 1 := ⟨n - 1, by omega⟩
  have hO' : (tellS a S OwnR W Yd Zd).Own (ys ++ [y]) h' := ⟨acc', n', hS', hO⟩
  refine ⟨n2, rfl, ys ++ [y], i + 1, m2, H, gs, by omega, hW, hO', ⟨inv_put hpn hSY hne h4.inv hS ⟨oa, ho⟩ k hS', ?_, h4.fpn⟩, ⟨oa, nm, qn, k a oa (fun q => hne q.symm) ho, r⟩, h6, fun s2 m3 H2 hm3 w3 o3 a3 => h7 s2 m3 H2 (by omega) w3 o3 a3⟩
  exact T.keep _ _ _ h4.tn fun b hb o e => k b o (fun z => hSf (by rw [← z]; exact hb)) e

/-! ### sum -/
def OwnSum : List V → Array Value → Prop := fun ys acc => ∃ (js : List Int) (t : Tok), ys = js.map V.int ∧ acc = #[.int js.sum t]
theorem sum_loop {X : Cx} {J : It} {it : Addr} {P : Program} {w : World} {K : PySem.W.Frag} {tg : Expr} {R : Result → Shared → Prop} (T : Turn P w K tg J fp it tn) (hP : Y.prog = X.prog) (hw : Y.w = X.w) (hB : B = X.A.in4.in1) (hroom : X.A.depth < recursionLimit) (hh : X.A.handled = none)
    (hpn : Y.pn = []) (hSY : Y.s_0.heap.objs.size ≤ S) (hne : S ≠ a) (hSf : S ∉ fp)
    (hY : ∀ ys y i m H, Yd ys y i m H → ∃ j, y = .int j ∧ ∃ m2, m2 < m ∧ W (ys ++ [y]) (i + 1) m2 H)
    (hZ : ∀ (js : List Int) H s' t pl, Zd (js.map V.int) H → Inv Y pl (none :: cv) H s' → R (.ok (.ret (.int js.sum t))) s') :
    ∀ (n : Nat) (st : Int) (s : Shared), (st = 0 ∨ st = 2) → Asleep Y B (tellS a S OwnSum W Yd Zd) cv fp tn a g (n + 1) s → codeAny (model X.prog X.w) X.A (.builtin "sum.loop" ⟨[.ref a, .ref S, rawInt st, rawInt 0], []⟩) R s := by
  intro n
  induction n with
  | zero =>
    intro st s hst h
    obtain ⟨acc0, n0, hS0, js0, t0, _, ea0⟩ : ∃ acc n, s.heap.get? S = some (lo acc n) ∧ ∃ (js : List Int) (t : Tok), True ∧ acc = #[.int js.sum t] := by
      obtain ⟨ys, i, m, H, gs, _, _, ⟨acc, n, e, js, t, _, e2⟩, _⟩ := h
      exact ⟨acc, n, e, js, t, trivial, e2⟩
    subst ea0
    refine codeAny_builtin F.entry_sum_loop ?_
    rw [Around.under_plainId F.plain_sum_loop _, ← hP, ← hw]
    refine wpAny_bind (wpAny_seqItems hS0 rfl ?_)
    refine wpAny_bind (wpAny_tryCatch (g_next1 (X := X) hB hroom hh owns_s h (fun ys y v i m H s' rv kp G => ?_) fun ys H s' kp O => ?_))
    · obtain ⟨j, _, m2, hm, w2⟩ := hY ys y i m H G.2.2.1
      have := G.1
      omega
    · obtain ⟨⟨acc, n1, e1, js, t, e2, e3⟩, z, I'⟩ := O
      have e4 := kp S (by simp) _ hS0
      rw [e1] at e4
      have e5 : acc = #[.int js0.sum t0] := by
        have := congrArg Obj.data (Option.some.inj e4)
        injection this
      rw [e3] at e5
      have e6 : Value.int js.sum t = Value.int js0.sum t0 := by simpa using e5
      injection e6 with e7 e8
      subst e2
      refine wpAny_pure ?_
      rw [← e7]
      exact hZ js H s' _ _ z I'
  | succ n ih =>
    intro st s hst h
    obtain ⟨acc0, n0, hS0, js0, t0, _, ea0⟩ : ∃ acc n, s.heap.get? S = some (lo acc n) ∧ ∃ (js : List Int) (t : Tok), True ∧ acc = #[.int js.sum t] := by
      obtain ⟨ys, i, m, H, gs, _, _, ⟨acc, n, e, js, t, _, e2⟩, _⟩ := h
      exact ⟨acc, n, e, js, t, trivial, e2⟩
    subst ea0
    refine codeAny_builtin F.entry_sum_loop ?_
    rw [Around.under_plainId F.plain_sum_loop _, ← hP, ← hw]
    refine wpAny_bind (wpAny_seqItems hS0 rfl ?_)
    refine wpAny_bind (wpAny_tryCatch (g_next1 (X := X) hB hroom hh owns_s h (fun ys y v i m H s' rv kp G => ?_) fun ys H s' kp O => ?_))
    · obtain ⟨j, rfl, m2, hm, w2⟩ := hY ys y i m H G.2.2.1
      obtain ⟨t, rfl⟩ := rv
      obtain ⟨acc, n1, e1, js, t1, e2, e3⟩ := G.2.1
      have hS' := kp S (by simp) _ hS0
      have e4 := hS'
      rw [e1] at e4
      have e5 : acc = #[.int js0.sum t0] := by
        have := congrArg Obj.data (Option.some.inj e4)
        injection this
      rw [e3] at e5
      have e6 : Value.int js.sum t1 = Value.int js0.sum t0 := by simpa using e5
      injection e6 with e7 e8
      have own : ∀ tk, OwnSum (ys ++ [V.int j]) #[.int (js0.sum + j) tk] := fun tk => ⟨js ++ [j], tk, by rw [e2, List.map_append]; rfl, by rw [List.sum_append, e7]; simp⟩
      have step : ∀ (h' : Heap) (tk : Nat) (tk2 : Tok) (n' : Nat), (∀ b o, b ≠ S → s'.heap.get? b = some o → h'.get? b = some o) → h'.get? S = some (lo #[.int (js0.sum + j) tk2] n') → Asleep Y B (tellS a S OwnSum W Yd Zd) cv fp tn a g (n + 1) { s' with heap := h', toks := tk } := fun h' tk tk2 n' k e => by
        obtain ⟨n2, en, A'⟩ := again_s rfl T hpn hSY hne hSf G k e (own tk2) hm w2 (tk := tk)
        cases en
        exact A'
      have oth : ∀ {b : Addr}, b ≠ S → S ≠ b := fun h q => h q.symm
      rcases hst with rfl | rfl
      · show wpAny _ X.A.in1 (if (_ : Bool) = true then (mkInt (js0.sum + j) >>= _) else _) _ _ _
        split
        · refine wpAny_bind (wpAny_mkInt ?_)
          refine wpAny_bind (wpAny_updateSeq hS' rfl (wpAny_pure ?_))
          rw [hP, hw]
          exact ⟨plainId_quiet F.plain_sum_loop _, ih 0 _ (.inl rfl) (step _ _ _ _ (fun b o hb e => (Heap.get?_update_other _ _ (oth hb)).trans e) (Heap.get?_update_self _ hS' rfl))⟩
        · refine wpAny_bind (wpAny_rule (wpAny_bind (wpAny_attempt (wpAny_holding (wpAny_add_int ?_)))))
          show wpAny _ X.A.in1 (updateSeq S (fun _ => #[.int (js0.sum + j) s'.toks]) >>= _) _ _ _
          refine wpAny_bind (wpAny_updateSeq hS' rfl ?_)
          have hS2 := Heap.get?_update_self (Obj.mapSeq fun _ => #[Value.int (js0.sum + j) s'.toks]) hS' rfl
          refine wpAny_bind (wpAny_letGo (wpAny_bind (wpAny_updateSeq hS2 rfl (wpAny_pure ?_))))
          rw [hP, hw]
          exact ⟨plainId_quiet F.plain_sum_loop _, ih 2 _ (.inr rfl) (step _ _ _ _ (fun b o hb e => (Heap.get?_update_other _ _ (oth hb)).trans ((Heap.get?_update_other _ _ (oth hb)).trans e)) (Heap.get?_update_self _ hS2 rfl))⟩
      · refine wpAny_bind (wpAny_attempt (wpAny_holding (wpAny_add_int ?_)))
        show wpAny _ X.A.in1 (updateSeq S (fun _ => #[.int (js0.sum + j) s'.toks]) >>= _) _ _ _
        refine wpAny_bind (wpAny_updateSeq hS' rfl ?_)
        have hS2 := Heap.get?_update_self (Obj.mapSeq fun _ => #[Value.int (js0.sum + j) s'.toks]) hS' rfl
        refine wpAny_bind (wpAny_letGo (wpAny_bind (wpAny_updateSeq hS2 rfl (wpAny_pure ?_))))
        rw [hP, hw]
        exact ⟨plainId_quiet F.plain_sum_loop _, ih 2 _ (.inr rfl) (step _ _ _ _ (fun b o hb e => (Heap.get?_update_other _ _ (oth hb)).trans ((Heap.get?_update_other _ _ (oth hb)).trans e)) (Heap.get?_update_self _ hS2 rfl))⟩
    · obtain ⟨⟨acc, n1, e1, js, t, e2, e3⟩, z, I'⟩ := O
      have e4 := kp S (by simp) _ hS0
      rw [e1] at e4
      have e5 : acc = #[.int js0.sum t0] := by
        have := congrArg Obj.data (Option.some.inj e4)
        injection this
      rw [e3] at e5
      have e6 : Value.int js.sum t = Value.int js0.sum t0 := by simpa using e5
      injection e6 with e7 e8
      subst e2
      refine wpAny_pure ?_
      rw [← e7]
      exact hZ js H s' _ _ z I'
end
end GX
end

section
set_option Elab.async false
set_option linter.all false
set_option maxRecDepth 100000
set_option maxHeartbeats 4000000
/-! sum(..), max(..), tuple(..) of a generator expression, as rules. -/
namespace GX
open PySem PySem.Spec PyProof.Rows L2 GxR
section
variable {X : Cx} {pins : List (Addr × Obj)} {σ : L2.St} {H : Hp} {s : Shared}
variable {x : Str} {cap : List (Str × Nat)} {elt : Expr} {px : Pos} {iter : Expr} {ifs : List Expr} {scope : Scope} {pos : Pos} {c P : Addr} {k : Nat} {wi : TI} {tt : TT} {te : TE}
variable {p cpos : Pos}

theorem map_int_inj : ∀ {a b : List Int}, a.map V.int = b.map V.int → a = b
  | [], [], _ => rfl
  | [], _ :: _, h => by cases h
  | _ :: _, [], h => by cases h
  | a :: l, b :: r, h => by
    injection h with h1 h2
    injection h1 with h1
    rw [h1, map_int_inj h2]

/-- sum(elt for x in iter if ..), the elements ints -/
def tSumG (P : Addr) (cap : List (Str × Nat)) (wi : TI) (tt : TT) (te : TE) : TE := fun σ H Q => wi σ H fun J H1 => TabG H1 P ∧ ∀ H2, Tabbed P H1 H2 → ∃ W : List Int → Nat → Nat → Hp → Prop, (∃ m, W [] 0 m H2) ∧ ∀ js i m H, W js i m H →
  (J.stop i H ∧ Q (.int js.sum) H) ∨ (J.go i H ∧ ∃ (Nx : Hp → Prop) (Ny : Int → Hp → Prop), (∀ H', Nx H' → ∃ m', m' < m ∧ W js (i + 1) m' H') ∧ (∀ j H', Ny j H' → ∃ m', m' < m ∧ W (js ++ [j]) (i + 1) m' H') ∧
    ∀ v H', J.yld i H v H' → tt (some v :: capV cap σ) H' fun b H3 => if b = true then te (some v :: capV cap σ) H3 fun y H4 => ∃ j, y = .int j ∧ Ny j H4 else Nx H3)

/-- the state behind the consumer's new list -/
theorem Made.at_list {a g : Addr} {s4 : Shared} {H2 : Hp} {code : Value} {it : Addr} {fp : List Addr} {tn : Nat → Heap → Prop} {J : It} {s5 : Shared} {acc : Array Value} {n tk : Nat}
    (M : Made X pins σ x cap elt px iter ifs scope pos a g s4 H2 code it fp tn J s5) {OwnR W Yd Zd} :
    At (gcx X s4 H2 x cap scope s4.heap.objs.size code fp) (tellS a s5.heap.objs.size OwnR W Yd Zd) (capV cap σ) fp tn 0 H2 (s5.heap.push (lo acc n)) { s5 with heap := s5.heap.push (lo acc n), toks := tk } := by
  have kp : ∀ b o, s5.heap.get? b = some o → (s5.heap.push (lo acc n)).get? b = some o := fun b o e => Heap.get?_push_of_some _ e
  have I1 := M.inn.kept (t' := tk) kp
  have lt5 := Nat.lt_trans M.new M.lt
  refine ⟨M.pinOk I1 fun b hb => ?_, M.T.keep _ _ _ M.st fun b _ o e => kp b o e, fun b hb => (M.ok b hb).1.1⟩
  rcases List.mem_cons.mp hb with z | z
  · rw [z]
    refine ⟨M.new, M.a_ok.2.1, fun o e v q => ?_⟩
    obtain ⟨o', nm, qn, e', r⟩ := M.gen
    have e2 := kp a o' e'
    rw [show (s5.heap.push (lo acc n)).get? a = some o from e] at e2
    cases e2
    exact M.a_ok.2.2 _ e' v q
  · rw [List.mem_singleton.mp z]
    refine ⟨lt5, M.out.hok.fresh (Nat.le_of_lt lt5), fun o e v q => ?_⟩
    have e2 : (s5.heap.push (lo acc n)).get? s5.heap.objs.size = some (lo acc n) := Heap.get?_push_size _ rfl
    rw [show (s5.heap.push (lo acc n)).get? s5.heap.objs.size = some o from e] at e2
    cases e2
    cases q

theorem pe_sumG (hr : Room k X.A) (hc : X.calm = true) (hg : Gl X "sum") (hm : X.mg "sum" = none) (TB : TabB X.base X.mg c P) (hcode : X.env.code = .ref c) (ok : CapOk X.N X.env.scope scope x cap) (hi : PI X (.Name x px) iter wi)
    (ht : ∀ (s : Shared) (H : Hp) (C : Addr) (code : Value) (fp : List Addr), PTs (gcx X s H x cap scope C code fp) ifs tt) (he : ∀ (s : Shared) (H : Hp) (C : Addr) (code : Value) (fp : List Addr), PE (gcx X s H x cap scope C code fp) elt te)
    (hs : ∀ v, genFold iter X.env v = pure v := by intro _; rfl)
    (hst : starEach [gEx elt x px iter ifs scope pos] X.env = (false, eval (gEx elt x px iter ifs scope pos) X.env) :: starEach [] X.env := by rfl) :
    PE X (.Call (.Name "sum" p) [gEx elt x px iter ifs scope pos] [] cpos) (tSumG P cap wi tt te) := by
  refine ⟨fun pins s σ H Q I h => ?_⟩
  refine wpAny_Call_Name_kw (ld_blt I hg hm (show bootBuiltins "sum" = some (.builtin "sum") by decide +kernel) ?_)
  refine PyProof.Rows.callWith_builtin1 ?_ hst (by rfl)
  rw [hst]
  show wpAny _ _ (spliced ((false, eval (gEx elt x px iter ifs scope pos) X.env) :: backTo cpos (starEach [] X.env))) _ _ s
  refine Calls.spliced_cons (g_make hr TB hcode ok hi hs I h fun a g s4 H1 H2 code it fp tn J s5 M hT hR => ?_)
  refine Calls.spliced_nil ?_
  obtain ⟨W, ⟨m0, w0⟩, turn⟩ := hR H2 hT
  refine call_function_tree F.kind_sum F.plain_sum F.entry_sum (F.args_sum1 _) ?_
  unfold Builtin.«sum»
  simp only [List.length_cons, List.length_nil]
  rw [if_neg (by decide)]
  refine wpAny_bind (wpAny_of_eq (show Builtin.Builtins.bindParams "sum" ["start"] 0 { } = pure [none] from rfl) ?_)
  refine wpAny_bind (wpAny_pyIter_gen M.gen ?_)
  refine wpAny_bind (wpAny_mkInt (wpAny_bind (wpAny_pure ?_)))
  simp only [List.forIn_cons, List.forIn_nil]
  refine wpAny_bind (wpAny_bind (wpAny_bind (wpAny_isInstance (T := "int") (b := false) (typeIs_int _ _ _) PySem.sub_int_str ?_)))
  simp only [Bool.false_eq_true, if_false]
  refine wpAny_pure (wpAny_bind (wpAny_bind (wpAny_isInstance (T := "int") (b := false) (typeIs_int _ _ _) PySem.sub_int_bytes ?_)))
  simp only [Bool.false_eq_true, if_false]
  refine wpAny_pure (wpAny_bind (wpAny_bind (wpAny_isInstance (T := "int") (b := false) (typeIs_int _ _ _) PySem.sub_int_bytearray ?_)))
  simp only [Bool.false_eq_true, if_false]
  refine wpAny_pure (wpAny_pure (wpAny_bind (wpAny_newObj_type ?_)))
  have hne : s5.heap.objs.size ≠ a := Nat.ne_of_gt M.lt
  have lt5 := Nat.lt_trans M.new M.lt
  have S : Asleep (gcx X s4 H2 x cap scope s4.heap.objs.size code fp) X.A.in4.in1 (tellS a s5.heap.objs.size OwnSum (fun ys i m H => ∃ js : List Int, ys = js.map V.int ∧ W js i m H)
      (fun ys y i m H => ∃ j, y = .int j ∧ ∃ m', m' < m ∧ ∃ js : List Int, ys ++ [y] = js.map V.int ∧ W js (i + 1) m' H) (fun ys H => ∃ js : List Int, ys = js.map V.int ∧ Q (.int js.sum) H)) (capV cap σ) fp tn a g (m0 + 1)
      { s5 with heap := s5.heap.push (lo #[.int 0 s5.toks] 0), toks := s5.toks + 1 } := by
    refine M.asleep ok hc (fun b hb => ?_) (ht ..) (he ..) (fun ys i m H w => ?_) ⟨[], rfl, w0⟩ ⟨_, _, Heap.get?_push_size _ rfl, [], s5.toks, rfl, rfl⟩ M.at_list ?_ rfl
    · rcases List.mem_cons.mp hb with z | z
      · rw [z]; exact M.new
      · rw [List.mem_singleton.mp z]; exact lt5
    · obtain ⟨js, rfl, w⟩ := w
      rcases turn js i m H w with ⟨st, q⟩ | ⟨gg, Nx, Ny, hN, hNy, q⟩
      · exact .inl ⟨st, js, rfl, q⟩
      · refine .inr ⟨gg, Nx, _, fun H' z => ?_, fun y H' ⟨j, e, h1⟩ => ?_, q⟩
        · obtain ⟨m', hm', w'⟩ := hN H' z
          exact ⟨m', hm', js, rfl, w'⟩
        · obtain ⟨m', hm', w'⟩ := hNy j H' h1
          exact ⟨j, e, m', hm', js ++ [j], by rw [e, List.map_append]; rfl, w'⟩
    · obtain ⟨o, nm, qn, e, r⟩ := M.gen
      exact ⟨o, nm, qn, Heap.get?_push_of_some _ e, r⟩
  refine wpAny_pure ⟨plainId_quiet F.plain_sum_loop _, sum_loop (X := X) (Y := gcx X s4 H2 x cap scope s4.heap.objs.size code fp) M.T rfl rfl rfl hr.depth hr.hd rfl (Nat.le_of_lt lt5) hne (fun z => absurd (Nat.lt_trans lt5 (M.ok _ z).2) (Nat.lt_irrefl _)) (fun ys y i m H hyd => hyd) (fun js H s' t pl z I' => ?_) m0 0 _ (.inl rfl) S⟩
  obtain ⟨js', e, q⟩ := z
  rw [map_int_inj e]
  exact ⟨.int js'.sum, H, M.back I', ⟨t, rfl⟩, q⟩
end
end GX
end

section
set_option Elab.async false
set_option linter.all false
set_option maxRecDepth 100000
set_option maxHeartbeats 4000000
/-! max of a generator expression of ints. -/
namespace GX
open PySem PySem.Spec PyProof.Rows L2 GxR
/-- the greater of two, the first of equal ones; of a row -/
def gr (b z : Int) : Int := if b < z then z else b
def best (j : Int) (js : List Int) : Int := js.foldl gr j
theorem best_snoc (j : Int) (js : List Int) (z : Int) : best j (js ++ [z]) = gr (best j js) z := by simp [best, List.foldl_append]

def OwnMax : List V → Array Value → Prop := fun ys acc => (ys = [] ∧ acc = #[]) ∨ ∃ (j : Int) (js : List Int) (t : Tok), ys = (j :: js).map V.int ∧ acc = #[.int (best j js) t, .int (best j js) t]
theorem seq_inj {acc acc' : Array Value} {n n' : Nat} (h : some (lo acc n) = some (lo acc' n')) : acc = acc' := by
  have := congrArg Obj.data (Option.some.inj h)
  injection this
section
variable {a S g : Addr} {W : List V → Nat → Nat → Hp → Prop} {Yd : List V → V → Nat → Nat → Hp → Prop} {Zd : List V → Hp → Prop}
variable {Y : Cx} {B : Around} {cv : L2.St} {fp : List Addr} {tn : Nat → Heap → Prop}
theorem max_name : (toString "max" ++ toString ".loop" : String) = "max.loop" := by decide
theorem gt_ints {prog : Program} {w : World} {A : Around} {i j : Int} {t u : Tok} {s : Shared} {Q : Value → Shared → Prop} {E : Value → Shared → Prop} (h : Q (.bool (decide (i > j))) s) : wpAny (model prog w) A (richCompare .Gt (.int i t) (.int j u)) Q E s :=
  CmpOf.ints_gt (prog := prog) (w := w) (A := A) (P := fun k v => if k = 0 then v = .int i t else v = .int j u) (fun k => if k = 0 then i else j)
    (fun k v hv => by by_cases hk : k = 0 <;> simp [hk] at hv ⊢ <;> exact ⟨_, hv⟩) 0 1 _ _ s Q E (by simp) (by simp) (by simpa using h)

theorem max_loop {X : Cx} {J : It} {it : Addr} {P : Program} {w : World} {K : PySem.W.Frag} {tg : Expr} {R : Result → Shared → Prop} (T : Turn P w K tg J fp it tn) (hP : Y.prog = X.prog) (hw : Y.w = X.w) (hB : B = X.A.in4.in1) (hroom : X.A.depth < recursionLimit) (hh : X.A.handled = none)
    (hpn : Y.pn = []) (hSY : Y.s_0.heap.objs.size ≤ S) (hne : S ≠ a) (hSf : S ∉ fp)
    (hY : ∀ ys y i m H, Yd ys y i m H → ∃ j, y = .int j ∧ ∃ m2, m2 < m ∧ W (ys ++ [y]) (i + 1) m2 H)
    (hZ0 : ∀ H, ¬ Zd [] H) (hZ : ∀ (j : Int) (js : List Int) H s' t pl, Zd ((j :: js).map V.int) H → Inv Y pl (none :: cv) H s' → R (.ok (.ret (.int (best j js) t))) s') :
    ∀ (n : Nat) (s : Shared), Asleep Y B (tellS a S OwnMax W Yd Zd) cv fp tn a g (n + 1) s → codeAny (model X.prog X.w) X.A (.builtin "max.loop" ⟨[.ref a, .none, .ref S], []⟩) R s := by
  intro n
  induction n with
  | zero =>
    intro s h
    obtain ⟨acc0, n0, hS0, how⟩ : ∃ acc n, s.heap.get? S = some (lo acc n) ∧ ∃ ys, OwnMax ys acc := by
      obtain ⟨ys, i, m, H, gs, _, _, ⟨acc, n, e, o⟩, _⟩ := h
      exact ⟨acc, n, e, ys, o⟩
    obtain ⟨oa, ha⟩ : ∃ o, s.heap.get? a = some o := by
      obtain ⟨ys, i, m, H, gs, _, _, _, _, ⟨o, _, _, e, _⟩, _⟩ := h
      exact ⟨o, e⟩
    refine codeAny_builtin F.entry_max_loop ?_
    rw [Around.under_plainId F.plain_max_loop _, ← hP, ← hw]
    refine wpAny_bind (wpAny_seqItems hS0 rfl ?_)
    obtain ⟨ys0, how⟩ := how
    have fin : ∀ {ys H s'}, (∀ b ∈ [a, S], ∀ o, s.heap.get? b = some o → s'.heap.get? b = some o) → Over Y (tellS a S OwnMax W Yd Zd) cv ys H s' → ∃ (j : Int) (js : List Int) (t : Tok), acc0 = #[.int (best j js) t, .int (best j js) t] ∧ s'.heap.get? S = some (lo acc0 n0) ∧ (∃ o, s'.heap.get? a = some o) ∧ Zd ((j :: js).map V.int) H ∧ Inv Y (pinsAt [a, S] s'.heap) (none :: cv) H s' := fun {ys H s'} kp O => by
      obtain ⟨⟨acc, n1, e1, o⟩, z, I'⟩ := O
      have e4 := kp S (by simp) _ hS0
      have e5 : acc0 = acc := seq_inj (e4.symm.trans e1)
      subst e5
      rcases o with ⟨rfl, _⟩ | ⟨j, js, t, rfl, e6⟩
      · exact absurd z (hZ0 H)
      · exact ⟨j, js, t, e6, e4, ⟨_, kp a (by simp) _ ha⟩, z, I'⟩
    refine wpAny_bind (wpAny_tryCatch (g_next1 (X := X) hB hroom hh owns_s h (fun ys y v i m H s' rv kp G => ?_) fun ys H s' kp O => ?_))
    · obtain ⟨j, _, m2, hm, w2⟩ := hY ys y i m H G.2.2.1
      have := G.1
      omega
    · obtain ⟨j, js, t, e, hS', ⟨o, ha'⟩, z, I'⟩ := fin kp O
      subst e
      show wpAny _ X.A.in1 (updateSeq S (fun _ => #[]) >>= _) _ _ _
      refine wpAny_bind (wpAny_updateSeq hS' rfl (wpAny_bind (wpAny_letGo (wpAny_pure ?_))))
      exact hZ j js H _ t _ z (inv_put (tk := s'.toks) hpn hSY hne I' hS' ⟨o, ha'⟩ (fun b o hb e => (Heap.get?_update_other _ _ (fun q => hb q.symm)).trans e) (Heap.get?_update_self _ hS' rfl))
  | succ n ih =>
    intro s h
    obtain ⟨acc0, n0, hS0, how⟩ : ∃ acc n, s.heap.get? S = some (lo acc n) ∧ ∃ ys, OwnMax ys acc := by
      obtain ⟨ys, i, m, H, gs, _, _, ⟨acc, n, e, o⟩, _⟩ := h
      exact ⟨acc, n, e, ys, o⟩
    obtain ⟨oa, ha⟩ : ∃ o, s.heap.get? a = some o := by
      obtain ⟨ys, i, m, H, gs, _, _, _, _, ⟨o, _, _, e, _⟩, _⟩ := h
      exact ⟨o, e⟩
    refine codeAny_builtin F.entry_max_loop ?_
    rw [Around.under_plainId F.plain_max_loop _, ← hP, ← hw]
    refine wpAny_bind (wpAny_seqItems hS0 rfl ?_)
    obtain ⟨ys0, how⟩ := how
    have fin : ∀ {ys H s'}, (∀ b ∈ [a, S], ∀ o, s.heap.get? b = some o → s'.heap.get? b = some o) → Over Y (tellS a S OwnMax W Yd Zd) cv ys H s' → ∃ (j : Int) (js : List Int) (t : Tok), acc0 = #[.int (best j js) t, .int (best j js) t] ∧ s'.heap.get? S = some (lo acc0 n0) ∧ (∃ o, s'.heap.get? a = some o) ∧ Zd ((j :: js).map V.int) H ∧ Inv Y (pinsAt [a, S] s'.heap) (none :: cv) H s' := fun {ys H s'} kp O => by
      obtain ⟨⟨acc, n1, e1, o⟩, z, I'⟩ := O
      have e4 := kp S (by simp) _ hS0
      have e5 : acc0 = acc := seq_inj (e4.symm.trans e1)
      subst e5
      rcases o with ⟨rfl, _⟩ | ⟨j, js, t, rfl, e6⟩
      · exact absurd z (hZ0 H)
      · exact ⟨j, js, t, e6, e4, ⟨_, kp a (by simp) _ ha⟩, z, I'⟩
    have oth : ∀ {b : Addr}, b ≠ S → S ≠ b := fun h q => h q.symm
    refine wpAny_bind (wpAny_tryCatch (g_next1 (X := X) hB hroom hh owns_s h (fun ys y v i m H s' rv kp G => ?_) fun ys H s' kp O => ?_))
    · obtain ⟨z, rfl, m2, hm, w2⟩ := hY ys y i m H G.2.2.1
      obtain ⟨tv, rfl⟩ := rv
      obtain ⟨acc, n1, e1, o⟩ := G.2.1
      have hS' := kp S (by simp) _ hS0
      have e5 : acc0 = acc := seq_inj (hS'.symm.trans e1)
      subst e5
      have step : ∀ (h' : Heap) (tk : Nat) (acc' : Array Value) (n' : Nat), (∀ b o, b ≠ S → s'.heap.get? b = some o → h'.get? b = some o) → h'.get? S = some (lo acc' n') → OwnMax (ys ++ [V.int z]) acc' → Asleep Y B (tellS a S OwnMax W Yd Zd) cv fp tn a g (n + 1) { s' with heap := h', toks := tk } := fun h' tk acc' n' k e ow => by
        obtain ⟨n2, en, A'⟩ := again_s rfl T hpn hSY hne hSf G k e ow hm w2 (tk := tk)
        cases en
        exact A'
      rcases o with ⟨rfl, e6⟩ | ⟨j, js, t, rfl, e6⟩
      · subst e6
        show wpAny _ X.A.in1 (updateSeq S (fun _ => #[.int z tv, .int z tv]) >>= _) _ _ _
        refine wpAny_bind (wpAny_updateSeq hS' rfl ?_)
        rw [max_name]
        refine wpAny_pure ?_
        rw [hP, hw]
        exact ⟨plainId_quiet F.plain_max_loop _, ih _ (step _ _ _ _ (fun b o hb e => (Heap.get?_update_other _ _ (oth hb)).trans e) (Heap.get?_update_self _ hS' rfl) (.inr ⟨z, [], tv, rfl, rfl⟩))⟩
      · subst e6
        have ap : (j :: js).map V.int ++ [V.int z] = (j :: (js ++ [z])).map V.int := by simp
        show wpAny _ X.A.in1 (tryCatch (holding [.int z tv, .int z tv] (richCompare .Gt (.int z tv) (.int (best j js) t) >>= _)) _ >>= _) _ _ _
        refine wpAny_bind (wpAny_tryCatch (wpAny_holding (wpAny_bind (gt_ints ?_))))
        refine wpAny_bind (wpAny_holding (wpAny_truthy_bool (wpAny_bind (wpAny_letGo (wpAny_pure ?_)))))
        by_cases hlt : best j js < z
        · rw [decide_eq_true (show z > best j js from hlt)]
          simp only [if_true]
          refine wpAny_bind (wpAny_updateSeq hS' rfl (wpAny_bind (wpAny_letGo ?_)))
          rw [max_name]
          refine wpAny_pure ?_
          rw [hP, hw]
          exact ⟨plainId_quiet F.plain_max_loop _, ih _ (step _ _ _ _ (fun b o hb e => (Heap.get?_update_other _ _ (oth hb)).trans e) (Heap.get?_update_self _ hS' rfl) (.inr ⟨j, js ++ [z], tv, ap, by rw [best_snoc, gr, if_pos hlt]⟩))⟩
        · rw [decide_eq_false (show ¬ z > best j js from hlt)]
          simp only [Bool.false_eq_true, if_false]
          refine wpAny_bind (wpAny_letGo ?_)
          rw [max_name]
          refine wpAny_pure ?_
          rw [hP, hw]
          exact ⟨plainId_quiet F.plain_max_loop _, ih _ (step s'.heap s'.toks _ _ (fun b o hb e => e) hS' (.inr ⟨j, js ++ [z], t, ap, by rw [best_snoc, gr, if_neg hlt]⟩))⟩
    · obtain ⟨j, js, t, e, hS', ⟨o, ha'⟩, z, I'⟩ := fin kp O
      subst e
      show wpAny _ X.A.in1 (updateSeq S (fun _ => #[]) >>= _) _ _ _
      refine wpAny_bind (wpAny_updateSeq hS' rfl (wpAny_bind (wpAny_letGo (wpAny_pure ?_))))
      exact hZ j js H _ t _ z (inv_put (tk := s'.toks) hpn hSY hne I' hS' ⟨o, ha'⟩ (fun b o hb e => (Heap.get?_update_other _ _ (fun q => hb q.symm)).trans e) (Heap.get?_update_self _ hS' rfl))
end
section
variable {X : Cx} {pins : List (Addr × Obj)} {σ : L2.St} {H : Hp} {s : Shared}
variable {x : Str} {cap : List (Str × Nat)} {elt : Expr} {px : Pos} {iter : Expr} {ifs : List Expr} {scope : Scope} {pos : Pos} {c P : Addr} {k : Nat} {wi : TI} {tt : TT} {te : TE}
variable {p cpos : Pos}
/-- max(elt for x in iter if ..), the elements ints, one at least -/
def tMaxG (P : Addr) (cap : List (Str × Nat)) (wi : TI) (tt : TT) (te : TE) : TE := fun σ H Q => wi σ H fun J H1 => TabG H1 P ∧ ∀ H2, Tabbed P H1 H2 → ∃ W : List Int → Nat → Nat → Hp → Prop, (∃ m, W [] 0 m H2) ∧ ∀ js i m H, W js i m H →
  (J.stop i H ∧ ∃ j r, js = j :: r ∧ Q (.int (best j r)) H) ∨ (J.go i H ∧ ∃ (Nx : Hp → Prop) (Ny : Int → Hp → Prop), (∀ H', Nx H' → ∃ m', m' < m ∧ W js (i + 1) m' H') ∧ (∀ j H', Ny j H' → ∃ m', m' < m ∧ W (js ++ [j]) (i + 1) m' H') ∧
    ∀ v H', J.yld i H v H' → tt (some v :: capV cap σ) H' fun b H3 => if b = true then te (some v :: capV cap σ) H3 fun y H4 => ∃ j, y = .int j ∧ Ny j H4 else Nx H3)
theorem pe_maxG (hr : Room k X.A) (hc : X.calm = true) (hg : Gl X "max") (hm : X.mg "max" = none) (TB : TabB X.base X.mg c P) (hcode : X.env.code = .ref c) (ok : CapOk X.N X.env.scope scope x cap) (hi : PI X (.Name x px) iter wi)
    (ht : ∀ (s : Shared) (H : Hp) (C : Addr) (code : Value) (fp : List Addr), PTs (gcx X s H x cap scope C code fp) ifs tt) (he : ∀ (s : Shared) (H : Hp) (C : Addr) (code : Value) (fp : List Addr), PE (gcx X s H x cap scope C code fp) elt te)
    (hs : ∀ v, genFold iter X.env v = pure v := by intro _; rfl)
    (hst : starEach [gEx elt x px iter ifs scope pos] X.env = (false, eval (gEx elt x px iter ifs scope pos) X.env) :: starEach [] X.env := by rfl) :
    PE X (.Call (.Name "max" p) [gEx elt x px iter ifs scope pos] [] cpos) (tMaxG P cap wi tt te) := by
  refine ⟨fun pins s σ H Q I h => ?_⟩
  refine wpAny_Call_Name_kw (ld_blt I hg hm (show bootBuiltins "max" = some (.builtin "max") by decide +kernel) ?_)
  refine PyProof.Rows.callWith_builtin1 ?_ hst (by rfl)
  rw [hst]
  show wpAny _ _ (spliced ((false, eval (gEx elt x px iter ifs scope pos) X.env) :: backTo cpos (starEach [] X.env))) _ _ s
  refine Calls.spliced_cons (g_make hr TB hcode ok hi hs I h fun a g s4 H1 H2 code it fp tn J s5 M hT hR => ?_)
  refine Calls.spliced_nil ?_
  obtain ⟨W, ⟨m0, w0⟩, turn⟩ := hR H2 hT
  refine call_function_tree F.kind_max F.plain_max F.entry_max (F.args_max1 _) ?_
  show wpAny _ X.A.in1 (Builtin.Builtins.bindParams "max" ["key", "default"] 0 ⟨[], []⟩ >>= _) _ _ _
  refine wpAny_bind (wpAny_of_eq (show Builtin.Builtins.bindParams "max" ["key", "default"] 0 ⟨[], []⟩ = pure [none, none] from rfl) ?_)
  refine wpAny_bind (wpAny_pure (wpAny_bind (wpAny_pyIter_gen M.gen (wpAny_bind (wpAny_newObj_type ?_)))))
  rw [max_name]
  have hne : s5.heap.objs.size ≠ a := Nat.ne_of_gt M.lt
  have lt5 := Nat.lt_trans M.new M.lt
  have S : Asleep (gcx X s4 H2 x cap scope s4.heap.objs.size code fp) X.A.in4.in1 (tellS a s5.heap.objs.size OwnMax (fun ys i m H => ∃ js : List Int, ys = js.map V.int ∧ W js i m H)
      (fun ys y i m H => ∃ j, y = .int j ∧ ∃ m', m' < m ∧ ∃ js : List Int, ys ++ [y] = js.map V.int ∧ W js (i + 1) m' H) (fun ys H => ∃ j r, ys = (j :: r : List Int).map V.int ∧ Q (.int (best j r)) H)) (capV cap σ) fp tn a g (m0 + 1)
      { s5 with heap := s5.heap.push (lo #[] 0), toks := s5.toks } := by
    refine M.asleep ok hc (fun b hb => ?_) (ht ..) (he ..) (fun ys i m H w => ?_) ⟨[], rfl, w0⟩ ⟨_, _, Heap.get?_push_size _ rfl, .inl ⟨rfl, rfl⟩⟩ M.at_list ?_ rfl
    · rcases List.mem_cons.mp hb with z | z
      · rw [z]; exact M.new
      · rw [List.mem_singleton.mp z]; exact lt5
    · obtain ⟨js, rfl, w⟩ := w
      rcases turn js i m H w with ⟨st, j, r, e, q⟩ | ⟨gg, Nx, Ny, hN, hNy, q⟩
      · exact .inl ⟨st, j, r, by rw [e], q⟩
      · refine .inr ⟨gg, Nx, _, fun H' z => ?_, fun y H' ⟨j, e, h1⟩ => ?_, q⟩
        · obtain ⟨m', hm', w'⟩ := hN H' z
          exact ⟨m', hm', js, rfl, w'⟩
        · obtain ⟨m', hm', w'⟩ := hNy j H' h1
          exact ⟨j, e, m', hm', js ++ [j], by rw [e, List.map_append]; rfl, w'⟩
    · obtain ⟨o, nm, qn, e, r⟩ := M.gen
      exact ⟨o, nm, qn, Heap.get?_push_of_some _ e, r⟩
  refine wpAny_pure ⟨plainId_quiet F.plain_max_loop _, max_loop (X := X) (Y := gcx X s4 H2 x cap scope s4.heap.objs.size code fp) M.T rfl rfl rfl hr.depth hr.hd rfl (Nat.le_of_lt lt5) hne (fun z => absurd (Nat.lt_trans lt5 (M.ok _ z).2) (Nat.lt_irrefl _)) (fun ys y i m H hyd => hyd) (fun H ⟨j, r, e, _⟩ => by cases e) (fun j js H s' t pl z I' => ?_) m0 _ S⟩
  obtain ⟨j', r, e, q⟩ := z
  obtain ⟨rfl, rfl⟩ : j = j' ∧ js = r := by
    have := map_int_inj (a := j :: js) (b := j' :: r) e
    injection this with h1 h2
    exact ⟨h1, h2⟩
  exact ⟨.int _, H, M.back I', ⟨t, rfl⟩, q⟩
end
end GX
end

section
set_option Elab.async false
set_option linter.all false
set_option maxRecDepth 100000
set_option maxHeartbeats 4000000
/-! tuple of a generator expression. -/
namespace GX
open PySem PySem.Spec PyProof.Rows L2 GxR
def OwnTup : List V → Array Value → Prop := fun ys acc => Vals ys acc.toList
section
variable {a S g : Addr} {W : List V → Nat → Nat → Hp → Prop} {Yd : List V → V → Nat → Nat → Hp → Prop} {Zd : List V → Hp → Prop}
variable {Y : Cx} {B : Around} {cv : L2.St} {fp : List Addr} {tn : Nat → Heap → Prop}
/-- the loop of list.extend over the generator, called two codes further in -/
theorem ext_loop {X : Cx} {J : It} {it : Addr} {P : Program} {w : World} {K : PySem.W.Frag} {tg : Expr} {res : Value} {R : Result → Shared → Prop} (T : Turn P w K tg J fp it tn) (hP : Y.prog = X.prog) (hw : Y.w = X.w) (hB : B = X.A.in4.in1) (hroom : X.A.depth < recursionLimit) (hh : X.A.handled = none)
    (hpn : Y.pn = []) (hSY : Y.s_0.heap.objs.size ≤ S) (hne : S ≠ a) (hSf : S ∉ fp)
    (hY : ∀ ys y i m H, Yd ys y i m H → ys.length < sizeLine ∧ ∃ m2, m2 < m ∧ W (ys ++ [y]) (i + 1) m2 H)
    (hZ : ∀ ys H s' acc n pl, Zd ys H → Vals ys acc.toList → s'.heap.get? S = some (lo acc n) → Inv Y pl (none :: cv) H s' → R (.ok (.ret res)) s') :
    ∀ (n : Nat) (s : Shared), Asleep Y B (tellS a S OwnTup W Yd Zd) cv fp tn a g (n + 1) s → codeAny (model X.prog X.w) X.A.in1.in1 (.builtin "list.extend.loop" ⟨[.ref S, .ref a, res], []⟩) R s := by
  intro n
  induction n with
  | zero =>
    intro s h
    refine codeAny_builtin F.entry_extend_loop ?_
    rw [Around.under_plainId F.plain_extend_loop _, ← hP, ← hw]
    refine wpAny_bind (g_next3 (X := X) hB hroom hh owns_s h (fun ys y v i m H s' rv kp G => ?_) fun ys H s' kp O => ?_)
    · obtain ⟨_, m2, hm, w2⟩ := hY ys y i m H G.2.2.1
      have := G.1
      omega
    · obtain ⟨⟨acc, n1, e1, o⟩, z, I'⟩ := O
      exact wpAny_pure (hZ ys H s' acc n1 _ z o e1 I')
  | succ n ih =>
    intro s h
    refine codeAny_builtin F.entry_extend_loop ?_
    rw [Around.under_plainId F.plain_extend_loop _, ← hP, ← hw]
    refine wpAny_bind (g_next3 (X := X) hB hroom hh owns_s h (fun ys y v i m H s' rv kp G => ?_) fun ys H s' kp O => ?_)
    · obtain ⟨hlen, m2, hm, w2⟩ := hY ys y i m H G.2.2.1
      obtain ⟨acc, n1, hS', o⟩ := G.2.1
      have hl : ys.length = acc.size := by rw [← Array.length_toList]; exact Vals.length o
      show wpAny _ X.A.in1.in1.in1 (updateSeq S (·.push v) >>= _) _ _ _
      refine wpAny_bind ?_
      refine wpAny_updateSeq hS' rfl (wpAny_pure ?_) (by rw [← hl]; omega) (by show (acc.push v).size ≤ sizeLine + 1; rw [Array.size_push, ← hl]; omega)
      rw [hP, hw]
      refine ⟨plainId_quiet F.plain_extend_loop _, ih _ ?_⟩
      have hS2 := Heap.get?_update_self (Obj.mapSeq (·.push v)) hS' rfl
      obtain ⟨n2, en, A'⟩ := again_s rfl T hpn hSY hne hSf G (fun b o hb e => (Heap.get?_update_other _ _ (fun q : S = b => hb q.symm)).trans e) hS2 (show OwnTup (ys ++ [y]) (acc.push v) by
        show Vals _ _
        rw [Array.toList_push]
        exact Vals.append o (.cons rv .nil)) hm w2 (tk := s'.toks)
      cases en
      exact A'
    · obtain ⟨⟨acc, n1, e1, o⟩, z, I'⟩ := O
      exact wpAny_pure (hZ ys H s' acc n1 _ z o e1 I')
end
section
variable {X : Cx} {pins : List (Addr × Obj)} {σ : L2.St} {H : Hp} {s : Shared}
variable {x : Str} {cap : List (Str × Nat)} {elt : Expr} {px : Pos} {iter : Expr} {ifs : List Expr} {scope : Scope} {pos : Pos} {c P : Addr} {k : Nat} {wi : TI} {tt : TT} {te : TE}
variable {p cpos : Pos}
/-- tuple(elt for x in iter if ..) -/
def tTupG (P : Addr) (cap : List (Str × Nat)) (wi : TI) (tt : TT) (te : TE) : TE := fun σ H Q => wi σ H fun J H1 => TabG H1 P ∧ ∀ H2, Tabbed P H1 H2 → ∃ W : List V → Nat → Nat → Hp → Prop, (∃ m, W [] 0 m H2) ∧ ∀ ys i m H, W ys i m H →
  (J.stop i H ∧ ys.length ≤ sizeLine ∧ ∀ l, H l = none → Q (.ref l) (upd H l (.tup ys))) ∨ (J.go i H ∧ ∃ (Nx : Hp → Prop) (Ny : VK), (∀ H', Nx H' → ∃ m', m' < m ∧ W ys (i + 1) m' H') ∧ (∀ y H', Ny y H' → ys.length < sizeLine ∧ ∃ m', m' < m ∧ W (ys ++ [y]) (i + 1) m' H') ∧
    ∀ v H', J.yld i H v H' → tt (some v :: capV cap σ) H' fun b H3 => if b = true then te (some v :: capV cap σ) H3 Ny else Nx H3)

theorem collect_g {Q : List Value → Shared → Prop} {E : Value → Shared → Prop} (hr : Room k X.A) (hc : X.calm = true) (ok : CapOk X.N X.env.scope scope x cap)
    (ht : ∀ (s : Shared) (H : Hp) (C : Addr) (code : Value) (fp : List Addr), PTs (gcx X s H x cap scope C code fp) ifs tt) (he : ∀ (s : Shared) (H : Hp) (C : Addr) (code : Value) (fp : List Addr), PE (gcx X s H x cap scope C code fp) elt te)
    {a g : Addr} {s4 : Shared} {H2 : Hp} {code : Value} {it : Addr} {fp : List Addr} {tn : Nat → Heap → Prop} {J : It} {s5 : Shared} (M : Made X pins σ x cap elt px iter ifs scope pos a g s4 H2 code it fp tn J s5)
    {W : List V → Nat → Nat → Hp → Prop} {m0 : Nat} {Zd : List V → Hp → Prop} (w0 : W [] 0 m0 H2)
    (turn : ∀ ys i m H, W ys i m H → (J.stop i H ∧ Zd ys H) ∨ (J.go i H ∧ ∃ (Nx : Hp → Prop) (Ny : VK), (∀ H', Nx H' → ∃ m', m' < m ∧ W ys (i + 1) m' H') ∧ (∀ y H', Ny y H' → ys.length < sizeLine ∧ ∃ m', m' < m ∧ W (ys ++ [y]) (i + 1) m' H') ∧
      ∀ v H', J.yld i H v H' → tt (some v :: capV cap σ) H' fun b H3 => if b = true then te (some v :: capV cap σ) H3 Ny else Nx H3))
    (hQ : ∀ ys H' (acc : Array Value) s', Zd ys H' → Vals ys acc.toList → Inv X pins σ H' s' → Q acc.toList s') : wpAny (model X.prog X.w) X.A.in1.in1 (collect (.ref a)) Q E s5 := by
  have hne : s5.heap.objs.size ≠ a := Nat.ne_of_gt M.lt
  have lt5 := Nat.lt_trans M.new M.lt
  have ty : ∀ h : Heap, (∀ b o, s5.heap.get? b = some o → h.get? b = some o) → ∀ s' : Shared, s'.heap = h → s'.TypeIs (.ref a) "generator" := fun h k s' e => by
    obtain ⟨o, nm, qn, e', r, _⟩ := M.gen
    exact ⟨o, by rw [e]; exact k a o e', r⟩
  unfold collect
  refine wpAny_bind (wpAny_runValue (codeAny_builtin F.entry_proto_collect ?_))
  rw [Around.under_plainId F.plain_proto_collect _]
  show wpAny _ _ (newList [] >>= fun l => PySem.again (.builtin "list.__iadd__" ⟨[l, .ref a], []⟩)) _ _ s5
  refine wpAny_bind (wpAny_newObj_type (wpAny_pure ⟨plainId_quiet F.plain_list_iadd _, codeAny_builtin F.entry_list_iadd ?_⟩))
  rw [Around.under_plainId F.plain_list_iadd _]
  have kp : ∀ b o, s5.heap.get? b = some o → (s5.heap.push (lo #[] 0)).get? b = some o := fun b o e => Heap.get?_push_of_some _ e
  show wpAny _ _ (Builtin.List.listExtendWith (.ref s5.heap.objs.size) (.ref a) (.ref s5.heap.objs.size)) _ _ _
  unfold Builtin.List.listExtendWith
  refine wpAny_bind (wpAny_typeOf (ty _ kp _ rfl) ?_)
  have h1 : Builtin.List.listSameRef (.ref s5.heap.objs.size) (.ref a) = false := by simp [Builtin.List.listSameRef, hne]
  have h2 : (Value.type "generator" == Value.type "list") = false := by decide
  have h3 : (Value.type "generator" == Value.type "tuple") = false := by decide
  simp only [h1, h2, h3, Bool.or_false, Bool.false_eq_true, if_false]
  have gen6 : (s5.heap.push (lo #[] 0)).IsGen a g := by
    obtain ⟨o, nm, qn, e, r⟩ := M.gen
    exact ⟨o, nm, qn, kp a o e, r⟩
  refine wpAny_bind (wpAny_pyIter_gen gen6 (wpAny_bind (wpAny_holding ?_)))
  unfold Builtin.List.listLengthHint
  refine wpAny_bind (wpAny_specialOf (ty _ kp _ rfl) F.gen_no_len ?_)
  show wpAny _ _ (specialOf (Value.ref a) (Str.ofString "__length_hint__") >>= _) _ _ _
  refine wpAny_bind (wpAny_specialOf (ty _ kp _ rfl) F.gen_no_hint (wpAny_pure ?_))
  show wpAny _ _ (rule "list.extend.makes-room" >>= fun _ => Builtin.List.listTouch (.ref s5.heap.objs.size) >>= fun _ =>
    PySem.again (.builtin "list.extend.loop" ⟨[.ref s5.heap.objs.size, .ref a, .ref s5.heap.objs.size], []⟩)) _ _ _
  refine wpAny_bind (wpAny_rule ?_)
  have hS1 : (s5.heap.push (lo #[] 0)).get? s5.heap.objs.size = some (lo #[] 0) := Heap.get?_push_size _ rfl
  refine wpAny_bind ?_
  show wpAny _ _ (updateSeq s5.heap.objs.size (·.push .none) >>= fun _ => updateSeq s5.heap.objs.size (·.pop)) _ _ _
  refine wpAny_bind (wpAny_updateSeq hS1 rfl ?_)
  have hS2 := Heap.get?_update_self (Obj.mapSeq (·.push Value.none)) hS1 rfl
  refine wpAny_updateSeq hS2 rfl ?_
  have hS3 := Heap.get?_update_self (Obj.mapSeq (·.pop)) hS2 rfl
  have oth : ∀ b o, b ≠ s5.heap.objs.size → (s5.heap.push (lo #[] 0)).get? b = some o →
      (((s5.heap.push (lo #[] 0)).update s5.heap.objs.size (Obj.mapSeq (·.push Value.none))).update s5.heap.objs.size (Obj.mapSeq (·.pop))).get? b = some o :=
    fun b o hb e => (Heap.get?_update_other _ _ (Ne.symm hb)).trans ((Heap.get?_update_other _ _ (Ne.symm hb)).trans e)
  have S : Asleep (gcx X s4 H2 x cap scope s4.heap.objs.size code fp) X.A.in4.in1 (tellS a s5.heap.objs.size OwnTup W (fun ys y i m H => ys.length < sizeLine ∧ ∃ m', m' < m ∧ W (ys ++ [y]) (i + 1) m' H) Zd) (capV cap σ) fp tn a g (m0 + 1)
      { s5 with heap := ((s5.heap.push (lo #[] 0)).update s5.heap.objs.size (Obj.mapSeq (·.push Value.none))).update s5.heap.objs.size (Obj.mapSeq (·.pop)), toks := s5.toks } := by
    have A1 : At (gcx X s4 H2 x cap scope s4.heap.objs.size code fp) (tellS a s5.heap.objs.size OwnTup W (fun ys y i m H => ys.length < sizeLine ∧ ∃ m', m' < m ∧ W (ys ++ [y]) (i + 1) m' H) Zd) (capV cap σ) fp tn 0 H2 _ _ := M.at_list (acc := #[]) (n := 0) (tk := s5.toks)
    obtain ⟨o, nm, qn, ea, ra⟩ := gen6
    refine M.asleep ok hc (fun b hb => ?_) (ht ..) (he ..) (fun ys i m H w => ?_) w0 ⟨_, _, hS3, .nil⟩ ⟨inv_put (s := { s5 with heap := s5.heap.push (lo #[] 0) }) (tk := s5.toks) rfl (Nat.le_of_lt lt5) hne A1.inv hS1 ⟨o, ea⟩ oth hS3, ?_, A1.fpn⟩ ⟨o, nm, qn, oth a o (fun q => hne q.symm) ea, ra⟩ rfl
    · rcases List.mem_cons.mp hb with z | z
      · rw [z]; exact M.new
      · rw [List.mem_singleton.mp z]; exact lt5
    · rcases turn ys i m H w with ⟨st, q⟩ | ⟨gg, Nx, Ny, hN, hNy, q⟩
      · exact .inl ⟨st, q⟩
      · exact .inr ⟨gg, Nx, Ny, hN, hNy, q⟩
    · exact M.T.keep _ _ _ A1.tn fun b hb o e => oth b o (fun z => absurd (Nat.lt_trans lt5 (by rw [← z]; exact (M.ok b hb).2)) (Nat.lt_irrefl _)) e
  refine wpAny_pure ⟨plainId_quiet F.plain_extend_loop _, ext_loop (X := X) (Y := gcx X s4 H2 x cap scope s4.heap.objs.size code fp) M.T rfl rfl rfl hr.depth hr.hd rfl (Nat.le_of_lt lt5) hne (fun z => absurd (Nat.lt_trans lt5 (M.ok _ z).2) (Nat.lt_irrefl _)) (fun ys y i m H hyd => hyd) (fun ys H s' acc n pl z o e I' => ?_) m0 _ S⟩
  show wpAny _ _ (load s5.heap.objs.size >>= _) _ _ s'
  refine wpAny_bind (wpAny_load e ?_)
  exact wpAny_pure (hQ ys H acc s' z o (M.back I'))

theorem code_tuple_g {Q1 : Value → Shared → Prop} {E : Value → Shared → Prop} (hr : Room k X.A) (hc : X.calm = true) (ok : CapOk X.N X.env.scope scope x cap)
    (ht : ∀ (s : Shared) (H : Hp) (C : Addr) (code : Value) (fp : List Addr), PTs (gcx X s H x cap scope C code fp) ifs tt) (he : ∀ (s : Shared) (H : Hp) (C : Addr) (code : Value) (fp : List Addr), PE (gcx X s H x cap scope C code fp) elt te)
    {a g : Addr} {s4 : Shared} {H2 : Hp} {code : Value} {it : Addr} {fp : List Addr} {tn : Nat → Heap → Prop} {J : It} {s5 : Shared} (M : Made X pins σ x cap elt px iter ifs scope pos a g s4 H2 code it fp tn J s5)
    {W : List V → Nat → Nat → Hp → Prop} {m0 : Nat} {Zd : List V → Hp → Prop} (w0 : W [] 0 m0 H2) (hZl : ∀ ys H, Zd ys H → ys.length ≤ sizeLine)
    (turn : ∀ ys i m H, W ys i m H → (J.stop i H ∧ Zd ys H) ∨ (J.go i H ∧ ∃ (Nx : Hp → Prop) (Ny : VK), (∀ H', Nx H' → ∃ m', m' < m ∧ W ys (i + 1) m' H') ∧ (∀ y H', Ny y H' → ys.length < sizeLine ∧ ∃ m', m' < m ∧ W (ys ++ [y]) (i + 1) m' H') ∧
      ∀ v H', J.yld i H v H' → tt (some v :: capV cap σ) H' fun b H3 => if b = true then te (some v :: capV cap σ) H3 Ny else Nx H3))
    (hQ : ∀ ys H' (acc : Array Value) s', Zd ys H' → Vals ys acc.toList → Inv X pins σ H' s' → Q1 (.ref s'.heap.objs.size) { s' with heap := s'.heap.push { cls := .type "tuple", data := .seq acc } }) :
    codeAny (model X.prog X.w) X.A.in1 (.call (.builtin "tuple.__new__") ⟨[.type "tuple", .ref a], []⟩) (wants Q1 E) s5 := by
  refine codeAny_of_tree ?_
  show wpAny _ X.A.in1.in1 (do checkBuiltinCall "tuple.__new__" ⟨[.type "tuple", .ref a], []⟩; PySem.again (.builtin "tuple.__new__" ⟨[.type "tuple", .ref a], []⟩)) _ _ s5
  refine wpAny_bind (wpAny_of_eq (F.newCall_tuple_1 _) (wpAny_pure ⟨plainId_quiet F.plain_tuple_new _, codeAny_builtin F.entry_tuple_new ?_⟩))
  rw [Around.under_plainId F.plain_tuple_new _]
  have hsub := sub_tuple_self
  have hinit := init_tuple_lookup
  have hmh := madeHere_tuple
  have hTI := M.gen.typeIs
  wp_walk using wpAny_typeOf hTI, collect_g hr hc ok ht he M w0 turn
  intro ys H' acc s' hz hv I'
  have hl : acc.size ≤ sizeLine := by
    have e : ys.length = acc.toList.length := Vals.length hv
    have e2 : acc.toList.length = acc.size := by simp
    have e3 := hZl ys H' hz
    omega
  show wpAny _ _ (Builtin.Tuple.tupleExact acc.toList.toArray >>= fun v => ret v) _ _ _
  unfold Builtin.Tuple.tupleExact
  refine wpAny_bind (wpAny_newObj_type ?_ (by show acc.toList.toArray.size ≤ sizeLine; simpa using hl))
  refine wpAny_pure ?_
  have e : acc.toList.toArray = acc := by simp
  rw [e]
  exact hQ ys H' acc s' hz hv I'

theorem pe_tupG (hr : Room k X.A) (hc : X.calm = true) (hg : Gl X "tuple") (hm : X.mg "tuple" = none) (TB : TabB X.base X.mg c P) (hcode : X.env.code = .ref c) (ok : CapOk X.N X.env.scope scope x cap) (hi : PI X (.Name x px) iter wi)
    (ht : ∀ (s : Shared) (H : Hp) (C : Addr) (code : Value) (fp : List Addr), PTs (gcx X s H x cap scope C code fp) ifs tt) (he : ∀ (s : Shared) (H : Hp) (C : Addr) (code : Value) (fp : List Addr), PE (gcx X s H x cap scope C code fp) elt te)
    (hs : ∀ v, genFold iter X.env v = pure v := by intro _; rfl)
    (hst : starEach [gEx elt x px iter ifs scope pos] X.env = (false, eval (gEx elt x px iter ifs scope pos) X.env) :: starEach [] X.env := by rfl) (hpl : (backTo cpos (starEach [] X.env)).any (·.1) = false := by rfl) :
    PE X (.Call (.Name "tuple" p) [gEx elt x px iter ifs scope pos] [] cpos) (tTupG P cap wi tt te) := by
  refine ⟨fun pins s σ H Q I h => ?_⟩
  refine wpAny_Call_Name_kw (ld_blt I hg hm (show bootBuiltins "tuple" = some (.type "tuple") by decide +kernel) ?_)
  refine PyProof.Rows.callWith_type1 ?_ hst hpl
  rw [hst]
  show wpAny _ _ (spliced ((false, eval (gEx elt x px iter ifs scope pos) X.env) :: backTo cpos (starEach [] X.env))) _ _ s
  refine Calls.spliced_cons (g_make hr TB hcode ok hi hs I h fun a g s4 H1 H2 code it fp tn J s5 M hT hR => ?_)
  refine Calls.spliced_nil ?_
  obtain ⟨W, ⟨m0, w0⟩, turn⟩ := hR H2 hT
  refine callType_codes (Q₁ := fun obj s1 => s1.TypeIs obj "tuple" ∧ EP X pins σ Q obj s1) F.called_tuple (F.typeCall_tuple_1 _) F.entry_object_init
    (code_tuple_g (Zd := fun ys H => ys.length ≤ sizeLine ∧ ∀ l, H l = none → Q (.ref l) (upd H l (.tup ys))) hr hc ok ht he M w0 (fun ys H q => q.1) turn fun ys H' acc s' hz hv I' => ⟨⟨_, Heap.get?_push_size _ rfl, rfl⟩, ?_⟩) fun obj s1 h1 => ?_
  · have hf : H' s'.heap.objs.size = none := I'.hok.fresh (Nat.le_refl _)
    refine ⟨.ref s'.heap.objs.size, upd H' s'.heap.objs.size (.tup ys), I'.laid (t' := s'.toks) (fun b u e => Heap.get?_push_of_some _ e) (Nat.le_refl _) ⟨hz.1, acc.toList, hv, ⟨{ cls := .type "tuple", data := .seq acc }, Heap.get?_push_size _ rfl, rfl, 0, by simp⟩⟩, rfl, hz.2 _ hf⟩
  · exact ⟨h1.1, F.args_object_init_2 obj _, object_init_meets F.called_tuple.init.lookup F.called_tuple.made (by decide) X.prog X.w X.A.in1 _ s1 ⟨h1.1, rfl, h1.2⟩⟩
end
end GX
end

section
set_option Elab.async false
set_option linter.all false
set_option maxRecDepth 100000
set_option maxHeartbeats 4000000
/-! Tools for a program of many defs: the tables of code objects, heaps that grow, walks over known sources. -/
namespace PG
open PySem PySem.Spec PyProof.Rows L2 GX GxR

/-! ### tables -/
def Tabs (T : List Addr) (H : Hp) : Prop := ∀ P ∈ T, TabG H P
/-- all that is no table is kept; the tables stand -/
structure Ext (T : List Addr) (H H' : Hp) : Prop where
  keep : ∀ b o, H b = some o → (∀ ps, o ≠ .tbl ps) → H' b = some o
  tabs : Tabs T H'
  dom : ∀ b o, H b = some o → ∃ o', H' b = some o'
section
variable {T : List Addr} {H H1 H2 : Hp}
theorem Ext.refl (h : Tabs T H) : Ext T H H := ⟨fun _ _ e _ => e, h, fun _ o e => ⟨o, e⟩⟩
theorem Ext.trans (a : Ext T H H1) (b : Ext T H1 H2) : Ext T H H2 := ⟨fun c o e n => b.keep c o (a.keep c o e n) n, b.tabs, fun c o e => let ⟨o', e'⟩ := a.dom c o e; b.dom c o' e'⟩
theorem tabs_upd {p : Addr} {o : HO} (h : Tabs T H) (hp : H p = none) : Tabs T (upd H p o) := fun P hP => by
  obtain ⟨ps, e, r⟩ := h P hP
  exact ⟨ps, by rw [upd_ne (ne_of_none e hp)]; exact e, r⟩
theorem Ext.new {p : Addr} {o : HO} (h : Tabs T H) (hp : H p = none) : Ext T H (upd H p o) := ⟨fun b u e _ => by rw [upd_ne (ne_of_none e hp)]; exact e, tabs_upd h hp, fun b u e => ⟨u, by rw [upd_ne (ne_of_none e hp)]; exact e⟩⟩
theorem Ext.tabbed {P : Addr} (h : Tabs T H) (hP : TabG H P) (t : Tabbed P H H1) : Ext T H H1 := by
  obtain ⟨⟨ps, e1, r1⟩, k⟩ := t
  obtain ⟨ps0, e0, _⟩ := hP
  refine ⟨fun b o e n => ?_, fun Q hQ => ?_, fun b o e => ?_⟩
  · have hb : b ≠ P := fun z => by
      rw [z, e0] at e
      exact n ps0 (Option.some.inj e).symm
    rw [k b hb]
    exact e
  · by_cases hb : Q = P
    · rw [hb]; exact ⟨ps, e1, r1⟩
    · obtain ⟨qs, e, r⟩ := h Q hQ
      exact ⟨qs, by rw [k Q hb]; exact e, r⟩
  · by_cases hb : b = P
    · rw [hb]; exact ⟨_, e1⟩
    · exact ⟨o, by rw [k b hb]; exact e⟩
/-- a list or another thing that is no table has changed at p -/
theorem Ext.set {p : Addr} {o : HO} (a : Ext T H H1) (hp : H p = none) (hn : ∃ u, H1 p = some u ∧ ∀ ps, u ≠ .tbl ps) : Ext T H (upd H1 p o) := by
  obtain ⟨u, eu, nu⟩ := hn
  refine ⟨fun b v e n => by rw [upd_ne (ne_of_none e hp)]; exact a.keep b v e n, fun P hP => ?_, fun b v e => by rw [upd_ne (ne_of_none e hp)]; exact a.dom b v e⟩
  obtain ⟨ps, e, r⟩ := a.tabs P hP
  have : P ≠ p := fun z => by
    rw [z, eu] at e
    exact nu ps (Option.some.inj e)
  exact ⟨ps, by rw [upd_ne this]; exact e, r⟩
theorem Ext.none (a : Ext T H H1) {p : Addr} (h : H1 p = none) : H p = none := by
  cases q : H p with
  | none => rfl
  | some o =>
    obtain ⟨o', e⟩ := a.dom p o q
    rw [h] at e
    cases e
theorem Ext.seqL {K : PySem.W.Frag} {a : Addr} {xs : List V} (e : Ext T H H1) (h : SqL K H a xs) : SqL K H1 a xs := by
  rcases h with (h | ⟨o, h⟩) | h
  · exact .inl (.inl (e.keep _ _ h fun _ z => by cases z))
  · exact .inl (.inr ⟨o, e.keep _ _ h fun _ z => by cases z⟩)
  · exact .inr h
theorem Ext.seqT {K : PySem.W.Frag} {a : Addr} {xs : List V} (e : Ext T H H1) (h : SqT K H a xs) : SqT K H1 a xs := by
  rcases h with (h | ⟨o, h⟩) | h
  · exact .inl (.inl (e.keep _ _ h fun _ z => by cases z))
  · exact .inl (.inr ⟨o, e.keep _ _ h fun _ z => by cases z⟩)
  · exact .inr h
theorem Ext.lst {a : Addr} {xs : List V} (e : Ext T H H1) (h : H a = some (.lst xs)) : H1 a = some (.lst xs) := e.keep _ _ h fun _ z => by cases z
theorem Ext.tup {a : Addr} {xs : List V} (e : Ext T H H1) (h : H a = some (.tup xs)) : H1 a = some (.tup xs) := e.keep _ _ h fun _ z => by cases z
end

/-! ### sources -/
/-- the iterator hands out xs as long as Ok -/
structure Src (J : It) (xs : List V) (Ok : Hp → Prop) : Prop where
  go : ∀ i H, Ok H → i < xs.length → J.go i H
  yld : ∀ i H v H', Ok H → i < xs.length → J.yld i H v H' → H' = H ∧ xs[i]? = some v
  stop : ∀ i H, Ok H → xs.length ≤ i → J.stop i H
theorem src_list {K : PySem.W.Frag} {a : Addr} {xs : List V} : Src (Itl K a) xs fun H => SqL K H a xs :=
  ⟨fun i H h hi => ⟨xs, xs[i], h, by simp [hi]⟩, fun i H v H' h hi ⟨e, y⟩ => ⟨e, by rw [List.getElem?_eq_getElem hi]; have q := y xs h; rw [List.getElem?_eq_getElem hi] at q; exact q⟩, fun i H h hi => ⟨xs, h, hi⟩⟩
theorem src_tup {K : PySem.W.Frag} {a : Addr} {xs : List V} : Src (Itt K a) xs fun H => SqT K H a xs :=
  ⟨fun i H h hi => ⟨xs, xs[i], h, by simp [hi]⟩, fun i H v H' h hi ⟨e, y⟩ => ⟨e, by rw [List.getElem?_eq_getElem hi]; have q := y xs h; rw [List.getElem?_eq_getElem hi] at q; exact q⟩, fun i H h hi => ⟨xs, h, hi⟩⟩
def rngV (lo : Int) (n : Nat) : List V := (List.range n).map fun (k : Nat) => V.int (lo + k)
theorem rngV_length {lo : Int} {n : Nat} : (rngV lo n).length = n := by simp [rngV]
theorem rngV_get {lo : Int} {n i : Nat} (h : i < n) : (rngV lo n)[i]? = some (.int (lo + i)) := by simp [rngV, h]
theorem src_rng {lo : Int} {n : Nat} : Src (Itr lo n) (rngV lo n) fun _ => True :=
  ⟨fun i H _ hi => by rw [rngV_length] at hi; exact hi, fun i H v H' _ hi ⟨e, y⟩ => ⟨e, by rw [rngV_length] at hi; rw [rngV_get hi, y]⟩, fun i H _ hi => by rw [rngV_length] at hi; exact hi⟩

section
variable {J : It} {xs : List V} {Ok : Hp → Prop} {tt : TT} {te : TE} {cv : L2.St} {Q : VK} {H2 : Hp}
/-- all(..) without tests: Pv by the turn -/
theorem all_src (S : Src J xs Ok) (Pv : Nat → Hp → Prop) (h0 : Pv 0 H2) (hl : ∀ i H, Pv i H → Ok H)
    (hs : ∀ i v H, xs[i]? = some v → Pv i H → te (some v :: cv) H fun y H4 => ∃ z, y = .bl z ∧ (z = true → Pv (i + 1) H4) ∧ (z = false → Q (.bl false) H4)) (hd : ∀ H, Pv xs.length H → Q (.bl true) H) :
    ∃ W : Nat → Nat → Hp → Prop, (∃ m, W 0 m H2) ∧ ∀ i m H, W i m H →
      (J.stop i H ∧ Q (.bl true) H) ∨ (J.go i H ∧ ∃ Nx : Hp → Prop, (∀ H', Nx H' → ∃ m', m' < m ∧ W (i + 1) m' H') ∧
        ∀ v H', J.yld i H v H' → tYes (some v :: cv) H' fun b H3 => if b = true then te (some v :: cv) H3 fun y H4 => ∃ z, y = .bl z ∧ (z = true → Nx H4) ∧ (z = false → Q (.bl false) H4) else Nx H3) := by
  refine ⟨fun i m H => m = xs.length - i ∧ i ≤ xs.length ∧ Pv i H, ⟨xs.length, by simp, Nat.zero_le _, h0⟩, ?_⟩
  rintro i m H ⟨rfl, hi, p⟩
  by_cases hlt : i < xs.length
  · refine .inr ⟨S.go i H (hl i H p) hlt, Pv (i + 1), fun H' p' => ⟨xs.length - (i + 1), by omega, rfl, hlt, p'⟩, fun v H' y => ?_⟩
    obtain ⟨e, q⟩ := S.yld i H v H' (hl i H p) hlt y
    subst e
    exact iteT (B := Pv (i + 1) H') (hs i v _ q p)
  · have e : i = xs.length := by omega
    subst e
    exact .inl ⟨S.stop _ H (hl _ H p) (Nat.le_refl _), hd H p⟩
theorem any_src (S : Src J xs Ok) (Pv : Nat → Hp → Prop) (h0 : Pv 0 H2) (hl : ∀ i H, Pv i H → Ok H)
    (hs : ∀ i v H, xs[i]? = some v → Pv i H → te (some v :: cv) H fun y H4 => ∃ z, y = .bl z ∧ (z = false → Pv (i + 1) H4) ∧ (z = true → Q (.bl true) H4)) (hd : ∀ H, Pv xs.length H → Q (.bl false) H) :
    ∃ W : Nat → Nat → Hp → Prop, (∃ m, W 0 m H2) ∧ ∀ i m H, W i m H →
      (J.stop i H ∧ Q (.bl false) H) ∨ (J.go i H ∧ ∃ Nx : Hp → Prop, (∀ H', Nx H' → ∃ m', m' < m ∧ W (i + 1) m' H') ∧
        ∀ v H', J.yld i H v H' → tYes (some v :: cv) H' fun b H3 => if b = true then te (some v :: cv) H3 fun y H4 => ∃ z, y = .bl z ∧ (z = false → Nx H4) ∧ (z = true → Q (.bl true) H4) else Nx H3) := by
  refine ⟨fun i m H => m = xs.length - i ∧ i ≤ xs.length ∧ Pv i H, ⟨xs.length, by simp, Nat.zero_le _, h0⟩, ?_⟩
  rintro i m H ⟨rfl, hi, p⟩
  by_cases hlt : i < xs.length
  · refine .inr ⟨S.go i H (hl i H p) hlt, Pv (i + 1), fun H' p' => ⟨xs.length - (i + 1), by omega, rfl, hlt, p'⟩, fun v H' y => ?_⟩
    obtain ⟨e, q⟩ := S.yld i H v H' (hl i H p) hlt y
    subst e
    exact iteT (B := Pv (i + 1) H') (hs i v _ q p)
  · have e : i = xs.length := by omega
    subst e
    exact .inl ⟨S.stop _ H (hl _ H p) (Nat.le_refl _), hd H p⟩
/-- sum(..) without tests, the elements fs -/
theorem sum_src (S : Src J xs Ok) (fs : List Int) (hf : fs.length = xs.length) (Pv : Nat → Hp → Prop) (h0 : Pv 0 H2) (hl : ∀ i H, Pv i H → Ok H)
    (hs : ∀ i v f H, xs[i]? = some v → fs[i]? = some f → Pv i H → te (some v :: cv) H fun y H4 => ∃ j, y = .int j ∧ (j = f ∧ Pv (i + 1) H4)) (hd : ∀ H, Pv xs.length H → Q (.int fs.sum) H) :
    ∃ W : List Int → Nat → Nat → Hp → Prop, (∃ m, W [] 0 m H2) ∧ ∀ js i m H, W js i m H →
      (J.stop i H ∧ Q (.int js.sum) H) ∨ (J.go i H ∧ ∃ (Nx : Hp → Prop) (Ny : Int → Hp → Prop), (∀ H', Nx H' → ∃ m', m' < m ∧ W js (i + 1) m' H') ∧ (∀ j H', Ny j H' → ∃ m', m' < m ∧ W (js ++ [j]) (i + 1) m' H') ∧
        ∀ v H', J.yld i H v H' → tYes (some v :: cv) H' fun b H3 => if b = true then te (some v :: cv) H3 fun y H4 => ∃ j, y = .int j ∧ Ny j H4 else Nx H3) := by
  refine ⟨fun js i m H => m = xs.length - i ∧ i ≤ xs.length ∧ js = fs.take i ∧ Pv i H, ⟨xs.length, by simp, Nat.zero_le _, by simp, h0⟩, ?_⟩
  rintro js i m H ⟨rfl, hi, rfl, p⟩
  by_cases hlt : i < xs.length
  · have hff : fs[i]? = some fs[i] := List.getElem?_eq_getElem (by omega)
    refine .inr ⟨S.go i H (hl i H p) hlt, fun _ => False, fun j H' => j = fs[i] ∧ Pv (i + 1) H', fun _ z => z.elim, fun j H' ⟨e, p'⟩ => ⟨xs.length - (i + 1), by omega, rfl, hlt, by rw [List.take_add_one, hff, e]; rfl, p'⟩, fun v H' y => ?_⟩
    obtain ⟨e, q⟩ := S.yld i H v H' (hl i H p) hlt y
    subst e
    exact iteT (B := False) (hs i v _ _ q hff p)
  · have e : i = xs.length := by omega
    subst e
    refine .inl ⟨S.stop _ H (hl _ H p) (Nat.le_refl _), ?_⟩
    rw [List.take_of_length_le (by omega)]
    exact hd H p
/-- max(..) without tests, the elements f :: fs -/
theorem max_src (S : Src J xs Ok) (f0 : Int) (fr : List Int) (hf : (f0 :: fr).length = xs.length) (Pv : Nat → Hp → Prop) (h0 : Pv 0 H2) (hl : ∀ i H, Pv i H → Ok H)
    (hs : ∀ i v f H, xs[i]? = some v → (f0 :: fr)[i]? = some f → Pv i H → te (some v :: cv) H fun y H4 => ∃ j, y = .int j ∧ (j = f ∧ Pv (i + 1) H4)) (hd : ∀ H, Pv xs.length H → Q (.int (best f0 fr)) H) :
    ∃ W : List Int → Nat → Nat → Hp → Prop, (∃ m, W [] 0 m H2) ∧ ∀ js i m H, W js i m H →
      (J.stop i H ∧ ∃ j r, js = j :: r ∧ Q (.int (best j r)) H) ∨ (J.go i H ∧ ∃ (Nx : Hp → Prop) (Ny : Int → Hp → Prop), (∀ H', Nx H' → ∃ m', m' < m ∧ W js (i + 1) m' H') ∧ (∀ j H', Ny j H' → ∃ m', m' < m ∧ W (js ++ [j]) (i + 1) m' H') ∧
        ∀ v H', J.yld i H v H' → tYes (some v :: cv) H' fun b H3 => if b = true then te (some v :: cv) H3 fun y H4 => ∃ j, y = .int j ∧ Ny j H4 else Nx H3) := by
  generalize hfs : f0 :: fr = fs at hf hs
  refine ⟨fun js i m H => m = xs.length - i ∧ i ≤ xs.length ∧ js = fs.take i ∧ Pv i H, ⟨xs.length, by simp, Nat.zero_le _, by simp, h0⟩, ?_⟩
  rintro js i m H ⟨rfl, hi, rfl, p⟩
  by_cases hlt : i < xs.length
  · have hff : fs[i]? = some fs[i] := List.getElem?_eq_getElem (by omega)
    refine .inr ⟨S.go i H (hl i H p) hlt, fun _ => False, fun j H' => j = fs[i] ∧ Pv (i + 1) H', fun _ z => z.elim, fun j H' ⟨e, p'⟩ => ⟨xs.length - (i + 1), by omega, rfl, hlt, by rw [List.take_add_one, hff, e]; rfl, p'⟩, fun v H' y => ?_⟩
    obtain ⟨e, q⟩ := S.yld i H v H' (hl i H p) hlt y
    subst e
    exact iteT (B := False) (hs i v _ _ q hff p)
  · have e : i = xs.length := by omega
    subst e
    refine .inl ⟨S.stop _ H (hl _ H p) (Nat.le_refl _), f0, fr, ?_, hd H p⟩
    rw [List.take_of_length_le (by omega), hfs]
/-- tuple(..), gs what comes of each item (none: it is left out) -/
theorem tup_src (S : Src J xs Ok) (gs : List (Option V)) (hg : gs.length = xs.length) (hlen : xs.length ≤ sizeLine) (Pv : Nat → Hp → Prop) (h0 : Pv 0 H2) (hl : ∀ i H, Pv i H → Ok H)
    (hs : ∀ i v g H, xs[i]? = some v → gs[i]? = some g → Pv i H → tt (some v :: cv) H fun b H3 => if b = true then te (some v :: cv) H3 fun y H4 => g = some y ∧ Pv (i + 1) H4 else g = none ∧ Pv (i + 1) H3)
    (hd : ∀ H, Pv xs.length H → ∀ l, H l = none → Q (.ref l) (upd H l (.tup (gs.filterMap id)))) :
    ∃ W : List V → Nat → Nat → Hp → Prop, (∃ m, W [] 0 m H2) ∧ ∀ ys i m H, W ys i m H →
      (J.stop i H ∧ ys.length ≤ sizeLine ∧ ∀ l, H l = none → Q (.ref l) (upd H l (.tup ys))) ∨ (J.go i H ∧ ∃ (Nx : Hp → Prop) (Ny : VK), (∀ H', Nx H' → ∃ m', m' < m ∧ W ys (i + 1) m' H') ∧ (∀ y H', Ny y H' → ys.length < sizeLine ∧ ∃ m', m' < m ∧ W (ys ++ [y]) (i + 1) m' H') ∧
        ∀ v H', J.yld i H v H' → tt (some v :: cv) H' fun b H3 => if b = true then te (some v :: cv) H3 Ny else Nx H3) := by
  refine ⟨fun ys i m H => m = xs.length - i ∧ i ≤ xs.length ∧ ys = (gs.take i).filterMap id ∧ Pv i H, ⟨xs.length, by simp, Nat.zero_le _, by simp, h0⟩, ?_⟩
  rintro ys i m H ⟨rfl, hi, rfl, p⟩
  have short : ∀ j, ((gs.take j).filterMap id).length ≤ j := fun j => Nat.le_trans (List.length_filterMap_le _ _) (List.length_take_le _ _)
  by_cases hlt : i < xs.length
  · have hgg : gs[i]? = some gs[i] := List.getElem?_eq_getElem (by omega)
    have tk : gs.take (i + 1) = gs.take i ++ [gs[i]] := by rw [List.take_add_one, hgg]; rfl
    refine .inr ⟨S.go i H (hl i H p) hlt, fun H' => gs[i] = none ∧ Pv (i + 1) H', fun y H' => gs[i] = some y ∧ Pv (i + 1) H', fun H' ⟨e, p'⟩ => ⟨xs.length - (i + 1), by omega, rfl, hlt, by rw [tk, List.filterMap_append]; simp [e], p'⟩,
      fun y H' ⟨e, p'⟩ => ⟨Nat.lt_of_le_of_lt (short i) (Nat.lt_of_lt_of_le hlt hlen), xs.length - (i + 1), by omega, rfl, hlt, by rw [tk, List.filterMap_append]; simp [e], p'⟩, fun v H' y => ?_⟩
    obtain ⟨e, q⟩ := S.yld i H v H' (hl i H p) hlt y
    subst e
    exact hs i v _ _ q hgg p
  · have e : i = xs.length := by omega
    subst e
    refine .inl ⟨S.stop _ H (hl _ H p) (Nat.le_refl _), Nat.le_trans (short _) hlen, ?_⟩
    rw [List.take_of_length_le (by omega)]
    exact hd H p
end

/-! ### a def of the text whose code object is known -/
section
variable {P : Program} {w : World} {K : PySem.W.Frag} {mg : Str → Option Value} {base : Heap}
/-- the def's code object, its table -/
abbrev cA (K : PySem.W.Frag) (x : Str) : Addr := (He.cT K (x, none)).1
abbrev cP (K : PySem.W.Frag) (x : Str) : Addr := (He.cT K (x, none)).2
theorem okC {x : Str} {params : Arguments} {body : List Stmt} {scope : Scope} {fd : FuncData} {N ps : List Str} {k : Nat} {sp : Sp} (F : FunD K x x params body scope [] [] (He.ga K x) fd) (S : FnScope N ps scope) (len : ∀ vs H Q E, sp vs H Q E → vs.length = ps.length)
    (hbody : ∀ (A : Around) (outer : List Env) (s : Shared) (H : Hp) (vs : List V) (Q : VK) (E : XK), Room k (A.deeper (envOfC x scope s.heap.objs.size (He.ga K x) (.ref (cA K x)))) → sp vs H Q E →
      ∃ t, PSs (cxOf C8.CX0 P w K mg base N x scope (He.ga K x) (.ref (cA K x)) A outer s H E).nox body t ∧ t { nx := fun _ H' => Q .non H', rt := Q } (start N vs) H) : FnOk P w K mg base C8.CX0 (k + 1) (He.ga K x) fd ps sp := by
  obtain ⟨oc, od, dV, kV, doc, pm, an, cdv, ct, osl, rfl, lk, hcd, _, _⟩ := F.ex
  obtain ⟨c, rfl⟩ := He.codeIn_ref hcd
  have e : cA K x = c := He.codeOf_eq (p := (x, none)) lk rfl
  refine fn_of lk hcd S len fun A outer s H vs Q E hr hsp => ?_
  rw [e] at hbody
  obtain ⟨t, h, q⟩ := hbody A outer s H vs Q E hr hsp
  exact ⟨t, h.nox, q⟩
/-- a def's promise, under its name -/
theorem calC {x : Str} {params : Arguments} {body : List Stmt} {scope : Scope} {N ps : List Str} {k : Nat} {sp : Sp} (F : ∃ fd, FunD K x x params body scope [] [] (He.ga K x) fd) (hm : mg x = some (.ref (He.ga K x))) (S : FnScope N ps scope)
    (hb : ∀ (kV doc pm : Value) (an : Option Addr) (cdv ct : Value) (us : List Value), us.length = ps.length → bindArgs (PySem.W.fnOf x x params body scope .none kV doc pm an cdv ct) ⟨us, []⟩ = pure (ps.zip us)) (len : ∀ vs H Q E, sp vs H Q E → vs.length = ps.length)
    (hbody : ∀ (A : Around) (outer : List Env) (s : Shared) (H : Hp) (vs : List V) (Q : VK) (E : XK), Room k (A.deeper (envOfC x scope s.heap.objs.size (He.ga K x) (.ref (cA K x)))) → sp vs H Q E →
      ∃ t, PSs (cxOf C8.CX0 P w K mg base N x scope (He.ga K x) (.ref (cA K x)) A outer s H E).nox body t ∧ t { nx := fun _ H' => Q .non H', rt := Q } (start N vs) H) : C8.Cal P w K mg base (k + 1) x sp [] := by
  obtain ⟨fd, F⟩ := F
  exact ⟨He.ga K x, fd, ps, [], okC F S len hbody, hm, F.kp, F.bindsN hb, .nil⟩
end

/-! ### rules in which the written part is named -/
section
variable {X : Cx} {K : PySem.W.Frag} {a : Expr} {ta : TE}
theorem ixLK (hK : X.K = K) : IxR X (rIxL K) := by subst hK; exact ix_list
theorem ixTK (hK : X.K = K) : IxR X (rIxT K) := by subst hK; exact ix_tup
def rLen (K : PySem.W.Frag) : List V → Hp → VK → Prop := fun xs H Q => ∃ x n, xs = [x] ∧ LenV K x H n ∧ Q (.int (n : Nat)) H
theorem lenK (hK : X.K = K) : CallR X (.builtin "len") (rLen K) := by subst hK; exact call_len
def tTru (K : PySem.W.Frag) (ta : TE) : TT := fun σ H Q => ta σ H fun x H' => ∃ k, TruV K x H' k ∧ Q k H'
theorem pt_tru (hK : X.K = K) (ha : PE X a ta) (he : ∀ whole, isTrue a X.env whole = (do let v ← whole; standAt a.pos; holding [v] (truthy v)) := by intro _; rfl) : PT X a (tTru K ta) := by subst hK; exact pt_truth ha he
end
end PG
end

section
set_option Elab.async false
set_option linter.all false
set_option maxRecDepth 100000
set_option maxHeartbeats 4000000
/-! V1: pure values D and a pure heap of objects; how they lie in the abstract heap. -/
namespace PV
open PySem PySem.Spec PyProof.Rows L2 GX GxR PG C8

inductive D where
  | non | bl (b : Bool) | int (i : Int) | str (s : Str) | tup (xs : List D) | ref (n : Nat) | fn (x : Str) | ty (n : String) | scr (ns : List Int)
  deriving Inhabited

/-- an object: a list; a dict -/
inductive O where
  | lst (xs : List D)
  | dct (kvs : List (Key × D))
  deriving Inhabited
abbrev Hs := List O
/-- what may be written -/
def O.mu : O → Bool := fun _ => true

/-- what the whole text gives -/
structure G where
  P : Program
  w : World
  K : PySem.W.Frag
  mg : Str → Option Value
  base : Heap
  tb : List Addr
  sc : Addr
  ns : List Int
  /-- the tables of the code objects of lambdas; what these are called -/
  lt : List (Addr × Str)

section
variable (g : G)
mutual
def Is (H : Hp) (ρ : List Addr) : D → V → Prop
  | .non, v => v = .non
  | .bl b, v => v = .bl b
  | .int i, v => v = .int i
  | .str s, v => v = .str s
  | .tup xs, v => ∃ t vs, v = .ref t ∧ SqT g.K H t vs ∧ IsL H ρ xs vs
  | .ref n, v => ∃ a, ρ[n]? = some a ∧ v = .ref a
  | .fn x, v => ∃ f, g.mg x = some (.ref f) ∧ v = .ref f
  | .ty n, v => v = .ty n
  | .scr ns, v => v = .ref g.sc ∧ ns = g.ns
def IsL (H : Hp) (ρ : List Addr) : List D → List V → Prop
  | [], vs => vs = []
  | x :: xs, vs => ∃ v r, vs = v :: r ∧ Is H ρ x v ∧ IsL H ρ xs r
end
/-- the entries of a dict -/
def IsKV (H : Hp) (ρ : List Addr) : List (Key × D) → List (Key × V) → Prop
  | [], vs => vs = []
  | x :: xs, vs => ∃ v r, vs = (x.1, v) :: r ∧ Is g H ρ x.2 v ∧ IsKV H ρ xs r
/-- the script's list, in the text's own part -/
def ScK : Prop := ∃ (o : Obj) (its : Array Value) (n : Nat), g.K.lookup g.sc = some o ∧ o.cls = .type "list" ∧ o.dict = none ∧ o.data = .seq its n ∧ its.size ≤ sizeLine ∧ Vals (g.ns.map V.int) its.toList
/-- the script's list -/
def ScR (H : Hp) (ρ : List Addr) : Prop := ScK g ∨ (g.sc ∉ ρ ∧ ∃ o, H g.sc = some o ∧ (o = .lst (g.ns.map V.int) ∨ ∃ w, o = .frz w (.lst (g.ns.map V.int))))
/-- an object at its address -/
def ObR (H : Hp) (ρ : List Addr) (a : Addr) : O → Prop
  | .lst xs => ∃ vs, H a = some (.lst vs) ∧ IsL g H ρ xs vs
  | .dct kvs => ∃ vs, H a = some (.dK vs) ∧ IsKV g H ρ kvs vs
/-- the pure heap lies in the abstract one -/
structure HR (ρ : List Addr) (H : Hp) (h : Hs) : Prop where
  len : ρ.length = h.length
  inj : ∀ (i j : Nat) (a : Addr) (o o' : O), ρ[i]? = some a → ρ[j]? = some a → h[i]? = some o → h[j]? = some o' → o.mu = true → o'.mu = true → i = j
  obj : ∀ (n : Nat) (a : Addr) (o : O), ρ[n]? = some a → h[n]? = some o → ObR g H ρ a o
  tabs : Tabs g.tb H
  scr : ScR g H ρ
  ltab : LamX.Tabs g.lt H
  lsep : (∀ p ∈ g.lt, p.1 ∉ g.tb) ∧ ∀ p ∈ g.lt, ∀ p' ∈ g.lt, p.1 = p'.1 → p' = p
/-- the names' values -/
structure EnvR (H : Hp) (ρ : List Addr) (env : List (Option D)) (σ : L2.St) : Prop where
  len : env.length = σ.length
  at_ : ∀ (i : Nat) (d : D), env[i]? = some (some d) → ∃ v, σ[i]? = some (some v) ∧ Is g H ρ d v
end
/-- what may change -/
def Muta : HO → Bool
  | .lst _ => true
  | .dK _ => true
  | .tbl _ => true
  | _ => false
/-- from one heap to a later one: what is not ours to change is kept, our addresses grow by new ones -/
structure Tr (tb : List Addr) (ρ : List Addr) (H : Hp) (ρ' : List Addr) (H' : Hp) : Prop where
  pre : ρ <+: ρ'
  keep : ∀ b o, H b = some o → (Muta o = true → b ∉ ρ ∧ ∀ ps, o ≠ .tbl ps) → H' b = some o
  dom : ∀ b o, H b = some o → ∃ o', H' b = some o'
  fresh : ∀ a ∈ ρ'.drop ρ.length, H a = none
  tabs : Tabs tb H'

section
variable {g : G} {tb : List Addr} {ρ ρ' ρ1 ρ2 : List Addr} {H H' H1 H2 : Hp}
theorem Tr.refl (h : Tabs tb H) : Tr tb ρ H ρ H := ⟨List.prefix_refl _, fun _ _ e _ => e, fun _ o e => ⟨o, e⟩, fun a ha => by simp at ha, h⟩
theorem Tr.trans (a : Tr tb ρ H ρ1 H1) (b : Tr tb ρ1 H1 ρ2 H2) : Tr tb ρ H ρ2 H2 := by
  obtain ⟨t1, e1⟩ := a.pre
  obtain ⟨t2, e2⟩ := b.pre
  subst e1
  subst e2
  have f1 : ∀ x ∈ t1, H x = none := fun x hx => a.fresh x (by simpa using hx)
  have f2 : ∀ x ∈ t2, H1 x = none := fun x hx => b.fresh x (by rw [List.drop_left]; exact hx)
  refine ⟨⟨t1 ++ t2, by simp⟩, fun c o e n => ?_, fun c o e => ?_, fun x hx => ?_, b.tabs⟩
  · have k1 := a.keep c o e n
    refine b.keep c o k1 fun m => ⟨fun z => ?_, (n m).2⟩
    rcases List.mem_append.mp z with z | z
    · exact (n m).1 z
    · rw [f1 c z] at e; cases e
  · obtain ⟨o', e'⟩ := a.dom c o e
    exact b.dom c o' e'
  · rw [List.append_assoc, List.drop_left] at hx
    rcases List.mem_append.mp hx with z | z
    · exact f1 x z
    · cases q : H x with
      | none => rfl
      | some o =>
        obtain ⟨o', e'⟩ := a.dom x o q
        rw [f2 x z] at e'; cases e'
theorem Tr.nonE (a : Tr tb ρ H ρ1 H1) {p : Addr} (h : H1 p = none) : H p = none := by
  cases q : H p with
  | none => rfl
  | some o =>
    obtain ⟨o', e⟩ := a.dom p o q
    rw [h] at e; cases e
theorem Tr.tup (a : Tr tb ρ H ρ1 H1) {p : Addr} {xs : List V} (h : H p = some (.tup xs)) : H1 p = some (.tup xs) := a.keep _ _ h fun z => by cases z
theorem Tr.seqT {K : PySem.W.Frag} (a : Tr tb ρ H ρ1 H1) {p : Addr} {xs : List V} (h : SqT K H p xs) : SqT K H1 p xs := by
  rcases h with (h | ⟨o, h⟩) | h
  · exact .inl (.inl (a.tup h))
  · exact .inl (.inr ⟨o, a.keep _ _ h fun z => by cases z⟩)
  · exact .inr h
/-- a new object that is not ours -/
theorem Tr.new {p : Addr} {o : HO} (h : Tabs tb H) (hp : H p = none) : Tr tb ρ H ρ (upd H p o) :=
  ⟨List.prefix_refl _, fun b u e _ => by rw [upd_ne (ne_of_none e hp)]; exact e, fun b u e => ⟨u, by rw [upd_ne (ne_of_none e hp)]; exact e⟩, fun a ha => by simp at ha, tabs_upd h hp⟩
/-- a new object that is ours -/
theorem Tr.own {p : Addr} {o : HO} (h : Tabs tb H) (hp : H p = none) : Tr tb ρ H (ρ ++ [p]) (upd H p o) :=
  ⟨⟨[p], rfl⟩, fun b u e _ => by rw [upd_ne (ne_of_none e hp)]; exact e, fun b u e => ⟨u, by rw [upd_ne (ne_of_none e hp)]; exact e⟩, fun a ha => by simp at ha; rw [ha]; exact hp, tabs_upd h hp⟩
/-- one of our objects changes -/
theorem Tr.set {p : Addr} {o u : HO} (h : Tabs tb H) (hp : p ∈ ρ) (hu : H p = some u) (hm : Muta u = true) (nt : ∀ ps, u ≠ .tbl ps) : Tr tb ρ H ρ (upd H p o) := by
  refine ⟨List.prefix_refl _, fun b v e n => ?_, fun b v e => ?_, fun a ha => by simp at ha, fun P hP => ?_⟩
  · have : b ≠ p := fun z => by
      subst z
      rw [hu] at e; cases e
      exact (n hm).1 hp
    rw [upd_ne this]; exact e
  · by_cases z : b = p
    · subst z; exact ⟨_, upd_same⟩
    · exact ⟨v, by rw [upd_ne z]; exact e⟩
  · obtain ⟨ps, e, r⟩ := h P hP
    have : P ≠ p := fun z => by
      subst z
      rw [hu] at e; cases e
      exact nt ps rfl
    exact ⟨ps, by rw [upd_ne this]; exact e, r⟩
/-- a table grows -/
theorem Tr.tabbed {P : Addr} (h : Tabs tb H) (hP : TabG H P) (t : Tabbed P H H1) : Tr tb ρ H ρ H1 := by
  have e := Ext.tabbed h hP t
  refine ⟨List.prefix_refl _, fun b o eb n => ?_, fun b o eb => e.dom b o eb, fun a ha => by simp at ha, e.tabs⟩
  exact e.keep b o eb fun ps z => by
    subst z
    exact (n rfl).2 ps rfl

/-- what a value's description leans on is kept -/
structure Kp (ρ : List Addr) (H : Hp) (ρ' : List Addr) (H' : Hp) : Prop where
  pre : ρ <+: ρ'
  keep : ∀ b o, H b = some o → Muta o = false → H' b = some o
theorem Tr.kp (t : Tr tb ρ H ρ' H') : Kp ρ H ρ' H' := ⟨t.pre, fun b o e m => t.keep b o e fun z => by rw [m] at z; cases z⟩
theorem Kp.refl : Kp ρ H ρ H := ⟨List.prefix_refl _, fun _ _ e _ => e⟩
theorem Kp.trans (a : Kp ρ H ρ1 H1) (b : Kp ρ1 H1 ρ2 H2) : Kp ρ H ρ2 H2 := ⟨List.IsPrefix.trans a.pre b.pre, fun c o e m => b.keep c o (a.keep c o e m) m⟩
theorem Kp.upd {p : Addr} {o u : HO} (hu : H p = some u) (m : Muta u = true) : Kp ρ H ρ (L2.upd H p o) := ⟨List.prefix_refl _, fun b v e n => by
  have : b ≠ p := fun z => by
    subst z
    rw [hu] at e; cases e
    rw [m] at n; cases n
  rw [upd_ne this]; exact e⟩
theorem Kp.seqT {K : PySem.W.Frag} (a : Kp ρ H ρ1 H1) {p : Addr} {xs : List V} (h : SqT K H p xs) : SqT K H1 p xs := by
  rcases h with (h | ⟨o, h⟩) | h
  · exact .inl (.inl (a.keep _ _ h rfl))
  · exact .inl (.inr ⟨o, a.keep _ _ h rfl⟩)
  · exact .inr h
mutual
theorem Is.kp (t : Kp ρ H ρ' H') : ∀ (d : D) (v : V), Is g H ρ d v → Is g H' ρ' d v
  | .non, _, h => h
  | .bl _, _, h => h
  | .int _, _, h => h
  | .str _, _, h => h
  | .tup xs, v, h => by
    rw [Is] at h ⊢
    obtain ⟨a, vs, e, h1, h2⟩ := h
    exact ⟨a, vs, e, t.seqT h1, IsL.kp t xs vs h2⟩
  | .ref n, v, h => by
    rw [Is] at h ⊢
    obtain ⟨a, h1, h2⟩ := h
    obtain ⟨r, e⟩ := t.pre
    refine ⟨a, ?_, h2⟩
    rw [← e, List.getElem?_append_left (List.getElem?_eq_some_iff.mp h1).1]
    exact h1
  | .fn _, _, h => h
  | .ty _, _, h => h
  | .scr _, _, h => h
theorem IsL.kp (t : Kp ρ H ρ' H') : ∀ (ds : List D) (vs : List V), IsL g H ρ ds vs → IsL g H' ρ' ds vs
  | [], _, h => h
  | d :: ds, vs, h => by
    rw [IsL] at h ⊢
    obtain ⟨v, r, e, h1, h2⟩ := h
    exact ⟨v, r, e, Is.kp t d v h1, IsL.kp t ds r h2⟩
end
theorem IsKV.kp (t : Kp ρ H ρ' H') : ∀ (ds : List (Key × D)) (vs : List (Key × V)), IsKV g H ρ ds vs → IsKV g H' ρ' ds vs
  | [], _, h => h
  | d :: ds, vs, h => by
    rw [IsKV] at h ⊢
    obtain ⟨v, r, e, h1, h2⟩ := h
    exact ⟨v, r, e, Is.kp t d.2 v h1, IsKV.kp t ds r h2⟩
theorem Is.mono {d : D} {v : V} (i : Is g H ρ d v) (t : Tr tb ρ H ρ' H') : Is g H' ρ' d v := Is.kp t.kp d v i
theorem IsL.mono {ds : List D} {vs : List V} (i : IsL g H ρ ds vs) (t : Tr tb ρ H ρ' H') : IsL g H' ρ' ds vs := IsL.kp t.kp ds vs i
theorem IsKV.mono {ds : List (Key × D)} {vs : List (Key × V)} (i : IsKV g H ρ ds vs) (t : Tr tb ρ H ρ' H') : IsKV g H' ρ' ds vs := IsKV.kp t.kp ds vs i
theorem EnvR.kp {env : List (Option D)} {σ : L2.St} (e : EnvR g H ρ env σ) (t : Kp ρ H ρ' H') : EnvR g H' ρ' env σ :=
  ⟨e.len, fun i d hi => let ⟨v, h1, h2⟩ := e.at_ i d hi; ⟨v, h1, Is.kp t d v h2⟩⟩
theorem EnvR.mono {env : List (Option D)} {σ : L2.St} (e : EnvR g H ρ env σ) (t : Tr tb ρ H ρ' H') : EnvR g H' ρ' env σ := e.kp t.kp

theorem IsL.nil : IsL g H ρ [] [] := by rw [IsL]
theorem IsL.cons {d : D} {v : V} {ds : List D} {vs : List V} (h : Is g H ρ d v) (t : IsL g H ρ ds vs) : IsL g H ρ (d :: ds) (v :: vs) := by rw [IsL]; exact ⟨v, vs, rfl, h, t⟩
theorem IsL.length : ∀ {ds : List D} {vs : List V}, IsL g H ρ ds vs → ds.length = vs.length
  | [], vs, h => by rw [IsL] at h; subst h; rfl
  | d :: ds, vs, h => by
    rw [IsL] at h
    obtain ⟨v, r, e, _, h2⟩ := h
    rw [e, List.length_cons, List.length_cons, IsL.length h2]
theorem IsL.append : ∀ {ds es : List D} {vs us : List V}, IsL g H ρ ds vs → IsL g H ρ es us → IsL g H ρ (ds ++ es) (vs ++ us)
  | [], es, vs, us, h, h' => by rw [IsL] at h; rw [h]; exact h'
  | d :: ds, es, vs, us, h, h' => by
    rw [IsL] at h
    obtain ⟨v, r, e, h1, h2⟩ := h
    rw [e]
    exact IsL.cons h1 (IsL.append h2 h')
theorem IsL.get : ∀ {ds : List D} {vs : List V} {i : Nat} {d : D}, IsL g H ρ ds vs → ds[i]? = some d → ∃ v, vs[i]? = some v ∧ Is g H ρ d v
  | [], _, _, _, _, e => by simp at e
  | x :: ds, vs, i, d, h, e => by
    rw [IsL] at h
    obtain ⟨v, r, e1, h1, h2⟩ := h
    subst e1
    cases i with
    | zero => simp at e; subst e; exact ⟨v, rfl, h1⟩
    | succ i =>
      obtain ⟨u, h3, h4⟩ := IsL.get (i := i) (d := d) h2 (by simpa using e)
      exact ⟨u, by simpa using h3, h4⟩
theorem IsL.get' : ∀ {ds : List D} {vs : List V} {i : Nat} {v : V}, IsL g H ρ ds vs → vs[i]? = some v → ∃ d, ds[i]? = some d ∧ Is g H ρ d v := fun {ds vs i v} h e => by
  have hl := h.length
  have hi := (List.getElem?_eq_some_iff.mp e).1
  obtain ⟨u, h1, h2⟩ := h.get (List.getElem?_eq_getElem (show i < ds.length by omega))
  rw [e] at h1
  cases h1
  exact ⟨_, List.getElem?_eq_getElem _, h2⟩
theorem IsL.take : ∀ {ds : List D} {vs : List V} (n : Nat), IsL g H ρ ds vs → IsL g H ρ (ds.take n) (vs.take n)
  | _, _, 0, _ => by simp; exact IsL.nil
  | [], vs, n + 1, h => by rw [IsL] at h; rw [h]; exact IsL.nil
  | d :: ds, vs, n + 1, h => by
    rw [IsL] at h
    obtain ⟨v, r, e, h1, h2⟩ := h
    rw [e]
    exact IsL.cons h1 (IsL.take n h2)
theorem IsL.drop : ∀ {ds : List D} {vs : List V} (n : Nat), IsL g H ρ ds vs → IsL g H ρ (ds.drop n) (vs.drop n)
  | _, _, 0, h => by simpa using h
  | [], vs, n + 1, h => by rw [IsL] at h; rw [h]; exact IsL.nil
  | d :: ds, vs, n + 1, h => by
    rw [IsL] at h
    obtain ⟨v, r, e, h1, h2⟩ := h
    rw [e]
    exact IsL.drop n h2
theorem IsL.set {d : D} {v : V} (hd : Is g H ρ d v) : ∀ {ds : List D} {vs : List V} (n : Nat), IsL g H ρ ds vs → IsL g H ρ (ds.set n d) (vs.set n v)
  | [], vs, n, h => by rw [IsL] at h; rw [h]; exact IsL.nil
  | x :: ds, vs, n, h => by
    rw [IsL] at h
    obtain ⟨u, r, e, h1, h2⟩ := h
    rw [e]
    cases n with
    | zero => exact IsL.cons hd h2
    | succ n => exact IsL.cons h1 (IsL.set hd n h2)
theorem IsL.reverse : ∀ {ds : List D} {vs : List V}, IsL g H ρ ds vs → IsL g H ρ ds.reverse vs.reverse
  | [], vs, h => by rw [IsL] at h; rw [h]; exact IsL.nil
  | d :: ds, vs, h => by
    rw [IsL] at h
    obtain ⟨v, r, e, h1, h2⟩ := h
    rw [e, List.reverse_cons, List.reverse_cons]
    exact IsL.append (IsL.reverse h2) (IsL.cons h1 IsL.nil)
theorem IsL.ints {ns : List Int} : IsL g H ρ (ns.map D.int) (ns.map V.int) := by
  induction ns with
  | nil => exact IsL.nil
  | cons n ns ih => exact IsL.cons (by rw [Is]) ih
theorem IsL.ints_eq : ∀ {ns : List Int} {vs : List V}, IsL g H ρ (ns.map D.int) vs → vs = ns.map V.int
  | [], vs, h => by rw [List.map_nil, IsL] at h; exact h
  | n :: ns, vs, h => by
    rw [List.map_cons, IsL] at h
    obtain ⟨v, r, e, h1, h2⟩ := h
    rw [Is] at h1
    rw [e, h1, IsL.ints_eq h2]
    rfl

/-! ### the heap -/
variable {h h' : Hs}
theorem ObR.tr (t : Tr tb ρ H ρ' H') {a : Addr} {o : O} (hb : o.mu = true → ∀ u, H a = some u → H' a = some u) (x : ObR g H ρ a o) : ObR g H' ρ' a o := by
  cases o with
  | lst xs => obtain ⟨vs, e, q⟩ := x; exact ⟨vs, hb rfl _ e, q.mono t⟩
  | dct kvs => obtain ⟨vs, e, q⟩ := x; exact ⟨vs, hb rfl _ e, q.mono t⟩
theorem ObR.there {a : Addr} {o : O} (x : ObR g H ρ a o) (hm : o.mu = true) : ∃ u, H a = some u ∧ Muta u = true ∧ ∀ ps, u ≠ .tbl ps := by
  cases o with
  | lst xs => obtain ⟨vs, e, _⟩ := x; exact ⟨_, e, rfl, fun _ z => by cases z⟩
  | dct kvs => obtain ⟨vs, e, _⟩ := x; exact ⟨_, e, rfl, fun _ z => by cases z⟩
theorem ScR.new (x : ScR g H ρ) {p : Addr} {o : HO} (hp : H p = none) : ScR g (upd H p o) ρ := x.imp id fun ⟨n, u, e, z⟩ => ⟨n, u, by rw [upd_ne (ne_of_none e hp)]; exact e, z⟩
theorem ScR.own (x : ScR g H ρ) {p : Addr} {o : HO} (hp : H p = none) : ScR g (upd H p o) (ρ ++ [p]) := by
  rcases x with x | ⟨n, u, e, z⟩
  · exact .inl x
  · refine .inr ⟨fun m => ?_, u, ?_, z⟩
    · rcases List.mem_append.mp m with m | m
      · exact n m
      · rw [List.mem_singleton.mp m, hp] at e; cases e
    · rw [upd_ne (ne_of_none e hp)]; exact e
theorem ScR.over (x : ScR g H ρ) {p : Addr} {o : HO} (hp : ScK g ∨ p ≠ g.sc) : ScR g (upd H p o) ρ := by
  rcases x with x | ⟨n, u, e, z⟩
  · exact .inl x
  · rcases hp with hp | hp
    · exact .inl hp
    · exact .inr ⟨n, u, by rw [upd_ne (fun e => hp e.symm)]; exact e, z⟩
theorem ScR.set (x : ScR g H ρ) {p : Addr} {o : HO} (hp : p ∈ ρ) : ScR g (upd H p o) ρ := by
  rcases x with x | ⟨n, u, e, z⟩
  · exact .inl x
  · exact .inr ⟨n, u, by rw [upd_ne (fun e => n (by rw [e]; exact hp))]; exact e, z⟩
theorem ScR.adopt (x : ScR g H ρ) {p : Addr} (hp : ScK g ∨ p ≠ g.sc) : ScR g H (ρ ++ [p]) := by
  rcases x with x | ⟨n, u, e, z⟩
  · exact .inl x
  · rcases hp with hp | hp
    · exact .inl hp
    · refine .inr ⟨fun m => ?_, u, e, z⟩
      rcases List.mem_append.mp m with m | m
      · exact n m
      · exact hp (List.mem_singleton.mp m).symm
theorem ScR.away (x : ScR g H ρ) {p : Addr} (hp : H p = none) : ScK g ∨ p ≠ g.sc := x.imp id fun ⟨_, u, e, _⟩ z => by rw [z, e] at hp; cases hp
theorem ScR.seqL (x : ScR g H ρ) : SqL g.K H g.sc (g.ns.map V.int) := by
  rcases x with x | ⟨_, u, e, z | ⟨w, z⟩⟩
  · exact .inr x
  · subst z; exact .inl (.inl e)
  · subst z; exact .inl (.inr ⟨w, e⟩)
theorem ltab_keep {T : List (Addr × Str)} (t : LamX.Tabs T H) (k : ∀ b o, H b = some o → (Muta o = false ∨ ((∃ ps, o = .tbl ps) ∧ ∃ p ∈ T, p.1 = b)) → H' b = some o) : LamX.Tabs T H' := fun p hp => by
  obtain ⟨ps, h1, h2, h3⟩ := t p hp
  refine ⟨ps, k _ _ h1 (.inr ⟨⟨ps, rfl⟩, p, hp, rfl⟩), h2, fun pos cv hc => ?_⟩
  obtain ⟨c, e1, e2⟩ := h3 pos cv hc
  exact ⟨c, e1, k _ _ e2 (.inl rfl)⟩
theorem ltab_new {T : List (Addr × Str)} (t : LamX.Tabs T H) {p : Addr} {o : HO} (hp : H p = none) : LamX.Tabs T (upd H p o) := ltab_keep t fun b u e _ => by rw [upd_ne (ne_of_none e hp)]; exact e
theorem ltab_set {T : List (Addr × Str)} (t : LamX.Tabs T H) {p : Addr} {o u : HO} (hu : H p = some u) (m : Muta u = true) (nt : ∀ ps, u ≠ .tbl ps) : LamX.Tabs T (upd H p o) := ltab_keep t fun b v e c => by
  have : b ≠ p := fun z => by
    subst z
    rw [hu] at e; cases e
    rcases c with c | ⟨⟨ps, c⟩, _⟩
    · rw [m] at c; cases c
    · exact nt ps c
  rw [upd_ne this]; exact e
/-- a new object that is not ours -/
theorem HR.new (hr : HR g ρ H h) {p : Addr} {o : HO} (hp : H p = none) : HR g ρ (upd H p o) h :=
  ⟨hr.len, hr.inj, fun n a u h1 h2 => (hr.obj n a u h1 h2).tr (Tr.new hr.tabs hp) fun _ v e => by rw [upd_ne (ne_of_none e hp)]; exact e, tabs_upd hr.tabs hp, hr.scr.new hp, ltab_new hr.ltab hp, hr.lsep⟩
theorem HR.tabbed (hr : HR g ρ H h) {P : Addr} (hPm : P ∈ g.tb) (hP : TabG H P) (t : Tabbed P H H1) : HR g ρ H1 h := by
  have e := Ext.tabbed hr.tabs hP t
  have tr : Tr g.tb ρ H ρ H1 := Tr.tabbed hr.tabs hP t
  refine ⟨hr.len, hr.inj, fun n a u h1 h2 => (hr.obj n a u h1 h2).tr tr fun hm v ev => ?_, tr.tabs, hr.scr.imp id fun ⟨n, u, e1, z⟩ => ⟨n, u, e.keep _ _ e1 (fun ps y => by subst y; rcases z with z | ⟨w, z⟩ <;> cases z), z⟩, ltab_keep hr.ltab fun b o eb c => ?_, hr.lsep⟩
  · obtain ⟨v', e1, _, nt⟩ := (hr.obj n a u h1 h2).there hm
    rw [e1] at ev; cases ev
    exact e.keep _ _ e1 nt
  · rcases c with c | ⟨_, p, hp, rfl⟩
    · exact e.keep _ _ eb fun ps z => by subst z; cases c
    · rw [t.2 p.1 fun z => hr.lsep.1 p hp (by rw [z]; exact hPm)]; exact eb
/-- a new object that is ours -/
theorem HR.own (hr : HR g ρ H h) {p : Addr} {o : HO} {u : O} (hp : H p = none) (hu : ObR g (upd H p o) (ρ ++ [p]) p u) : HR g (ρ ++ [p]) (upd H p o) (h ++ [u]) := by
  have t : Tr g.tb ρ H (ρ ++ [p]) (upd H p o) := Tr.own hr.tabs hp
  have old : ∀ (n : Nat) (a : Addr) (v : O), ρ[n]? = some a → h[n]? = some v → v.mu = true → a ≠ p := fun n a v h1 h2 hm => by
    obtain ⟨w, e, _⟩ := (hr.obj n a v h1 h2).there hm
    exact ne_of_none e hp
  have at1 : ∀ {n : Nat} {a : Addr} {v : O}, (ρ ++ [p])[n]? = some a → (h ++ [u])[n]? = some v → (ρ[n]? = some a ∧ h[n]? = some v) ∨ (n = ρ.length ∧ a = p ∧ v = u) := fun {n a v} e1 e2 => by
    by_cases hn : n < ρ.length
    · rw [List.getElem?_append_left hn] at e1
      rw [List.getElem?_append_left (by rw [← hr.len]; exact hn)] at e2
      exact .inl ⟨e1, e2⟩
    · have hl := (List.getElem?_eq_some_iff.mp e1).1
      rw [List.length_append, List.length_singleton] at hl
      have hn' : n = ρ.length := by omega
      subst hn'
      rw [List.getElem?_append_right (Nat.le_refl _)] at e1
      rw [List.getElem?_append_right (by rw [hr.len]; exact Nat.le_refl _)] at e2
      simp at e1
      rw [hr.len] at e2
      simp at e2
      exact .inr ⟨rfl, e1.symm, e2.symm⟩
  refine ⟨by rw [List.length_append, List.length_append, hr.len]; rfl, fun i j a o1 o2 e1 e2 e3 e4 m1 m2 => ?_, fun n a v e1 e2 => ?_, t.tabs, hr.scr.own hp, ltab_new hr.ltab hp, hr.lsep⟩
  · rcases at1 e1 e3 with ⟨z1, z2⟩ | ⟨z1, z2, z3⟩ <;> rcases at1 e2 e4 with ⟨y1, y2⟩ | ⟨y1, y2, y3⟩
    · exact hr.inj i j a o1 o2 z1 y1 z2 y2 m1 m2
    · exact absurd y2 (old i a o1 z1 z2 m1)
    · exact absurd z2 (old j a o2 y1 y2 m2)
    · rw [z1, y1]
  · rcases at1 e1 e2 with ⟨z1, z2⟩ | ⟨z1, z2, z3⟩
    · exact (hr.obj n a v z1 z2).tr t fun hm w e => by rw [upd_ne (ne_of_none e hp)]; exact e
    · rw [z2, z3]; exact hu
/-- one of our objects changes -/
theorem HR.set (hr : HR g ρ H h) {n : Nat} {p : Addr} {o : HO} {u u' : O} (hn : ρ[n]? = some p) (hu : h[n]? = some u) (hm : u.mu = true) (hm' : u'.mu = true) (hu' : ObR g (upd H p o) ρ p u') :
    Tr g.tb ρ H ρ (upd H p o) ∧ HR g ρ (upd H p o) (h.set n u') := by
  obtain ⟨w, ew, mw, nt⟩ := (hr.obj n p u hn hu).there hm
  have t : Tr g.tb ρ H ρ (upd H p o) := Tr.set hr.tabs (List.mem_of_getElem? hn) ew mw nt
  have hlt := (List.getElem?_eq_some_iff.mp hu).1
  refine ⟨t, by rw [List.length_set]; exact hr.len, fun i j a o1 o2 e1 e2 e3 e4 m1 m2 => ?_, fun i a v e1 e2 => ?_, t.tabs, hr.scr.set (List.mem_of_getElem? hn), ltab_set hr.ltab ew mw nt, hr.lsep⟩
  · have back : ∀ {i : Nat} {v : O}, (h.set n u')[i]? = some v → v.mu = true → ∃ v', h[i]? = some v' ∧ v'.mu = true := fun {i v} e m => by
      by_cases hi : n = i
      · subst hi; exact ⟨u, hu, hm⟩
      · rw [List.getElem?_set_ne hi] at e; exact ⟨v, e, m⟩
    obtain ⟨v1, y1, m1⟩ := back e3 m1
    obtain ⟨v2, y2, m2⟩ := back e4 m2
    exact hr.inj i j a v1 v2 e1 e2 y1 y2 m1 m2
  · by_cases hi : n = i
    · subst hi
      rw [List.getElem?_set_self hlt] at e2
      cases e2
      rw [hn] at e1
      cases e1
      exact hu'
    · rw [List.getElem?_set_ne hi] at e2
      refine (hr.obj i a v e1 e2).tr t fun hmv z ez => ?_
      have : a ≠ p := fun e => by
        subst e
        exact hi (hr.inj n i a u v hn e1 hu e2 hm hmv)
      rw [upd_ne this]
      exact ez
/-- a list that was made on the way and is not ours: it is written -/
theorem Tr.over {p : Addr} {o u : HO} (t : Tr tb ρ H ρ1 H1) (hp : H p = none) (hu : H1 p = some u) (nt : ∀ ps, u ≠ .tbl ps) : Tr tb ρ H ρ1 (upd H1 p o) := by
  refine ⟨t.pre, fun b v e n => ?_, fun b v e => ?_, t.fresh, fun P hP => ?_⟩
  · rw [upd_ne (ne_of_none e hp)]; exact t.keep b v e n
  · rw [upd_ne (ne_of_none e hp)]; exact t.dom b v e
  · obtain ⟨ps, e, r⟩ := t.tabs P hP
    have : P ≠ p := fun z => by
      subst z
      rw [hu] at e; cases e
      exact nt ps rfl
    exact ⟨ps, by rw [upd_ne this]; exact e, r⟩
theorem HR.over (hr : HR g ρ H h) {p : Addr} {o u : HO} (hp : p ∉ ρ) (hu : H p = some u) (m : Muta u = true) (nt : ∀ ps, u ≠ .tbl ps) (hs : ScK g ∨ p ≠ g.sc) : HR g ρ (upd H p o) h := by
  have k : Kp ρ H ρ (upd H p o) := Kp.upd hu m
  have tb : Tabs g.tb (upd H p o) := fun P hP => by
    obtain ⟨ps, e, r⟩ := hr.tabs P hP
    have : P ≠ p := fun z => by
      subst z
      rw [hu] at e; cases e
      exact nt ps rfl
    exact ⟨ps, by rw [upd_ne this]; exact e, r⟩
  refine ⟨hr.len, hr.inj, fun n a v h1 h2 => ?_, tb, hr.scr.over hs, ltab_set hr.ltab hu m nt, hr.lsep⟩
  have hne : a ≠ p := fun z => by subst z; exact hp (List.mem_of_getElem? h1)
  have x := hr.obj n a v h1 h2
  cases v with
  | lst xs => obtain ⟨vs, e, q⟩ := x; exact ⟨vs, by rw [upd_ne hne]; exact e, IsL.kp k _ _ q⟩
  | dct kvs => obtain ⟨vs, e, q⟩ := x; exact ⟨vs, by rw [upd_ne hne]; exact e, IsKV.kp k _ _ q⟩
/-- a list that was made on the way becomes ours -/
theorem HR.adopt (hr : HR g ρ H h) {p : Addr} {xs : List D} {vs : List V} (hp : p ∉ ρ) (hu : H p = some (.lst vs)) (i : IsL g H ρ xs vs) (hs : ScK g ∨ p ≠ g.sc) : HR g (ρ ++ [p]) H (h ++ [.lst xs]) := by
  have k : Kp ρ H (ρ ++ [p]) H := ⟨⟨[p], rfl⟩, fun _ _ e _ => e⟩
  have at1 : ∀ {n : Nat} {a : Addr} {v : O}, (ρ ++ [p])[n]? = some a → (h ++ [O.lst xs])[n]? = some v → (ρ[n]? = some a ∧ h[n]? = some v) ∨ (n = ρ.length ∧ a = p ∧ v = .lst xs) := fun {n a v} e1 e2 => by
    by_cases hn : n < ρ.length
    · rw [List.getElem?_append_left hn] at e1
      rw [List.getElem?_append_left (by rw [← hr.len]; exact hn)] at e2
      exact .inl ⟨e1, e2⟩
    · have hl := (List.getElem?_eq_some_iff.mp e1).1
      rw [List.length_append, List.length_singleton] at hl
      have hn' : n = ρ.length := by omega
      subst hn'
      rw [List.getElem?_append_right (Nat.le_refl _)] at e1
      rw [List.getElem?_append_right (by rw [hr.len]; exact Nat.le_refl _)] at e2
      simp at e1
      rw [hr.len] at e2
      simp at e2
      exact .inr ⟨rfl, e1.symm, e2.symm⟩
  refine ⟨by rw [List.length_append, List.length_append, hr.len]; rfl, fun i j a o1 o2 e1 e2 e3 e4 m1 m2 => ?_, fun n a v e1 e2 => ?_, hr.tabs, hr.scr.adopt hs, hr.ltab, hr.lsep⟩
  · rcases at1 e1 e3 with ⟨z1, z2⟩ | ⟨z1, z2, z3⟩ <;> rcases at1 e2 e4 with ⟨y1, y2⟩ | ⟨y1, y2, y3⟩
    · exact hr.inj i j a o1 o2 z1 y1 z2 y2 m1 m2
    · exact absurd (y2 ▸ List.mem_of_getElem? z1) hp
    · exact absurd (z2 ▸ List.mem_of_getElem? y1) hp
    · rw [z1, y1]
  · rcases at1 e1 e2 with ⟨z1, z2⟩ | ⟨z1, z2, z3⟩
    · have x := hr.obj n a v z1 z2
      cases v with
      | lst ys => obtain ⟨us, e, q⟩ := x; exact ⟨us, e, IsL.kp k _ _ q⟩
      | dct kvs => obtain ⟨us, e, q⟩ := x; exact ⟨us, e, IsKV.kp k _ _ q⟩
    · rw [z2, z3]; exact ⟨vs, hu, IsL.kp k _ _ i⟩
theorem Tr.adopt {p : Addr} (t : Tr tb ρ H ρ1 H1) (hp : H p = none) : Tr tb ρ H (ρ1 ++ [p]) H1 := by
  obtain ⟨r, e⟩ := t.pre
  subst e
  refine ⟨⟨r ++ [p], by simp⟩, t.keep, t.dom, fun a ha => ?_, t.tabs⟩
  rw [List.append_assoc, List.drop_left] at ha
  rcases List.mem_append.mp ha with z | z
  · exact t.fresh a (by simpa using z)
  · simp at z; rw [z]; exact hp
end
end PV
end

section
set_option Elab.async false
set_option linter.all false
set_option maxRecDepth 100000
set_option maxHeartbeats 4000000
/-! V2: what a piece of the text computes, purely; what that says of its reading. -/
namespace PV
open PySem PySem.Spec PyProof.Rows L2 GX GxR PG C8

/-- an answer: a value and the heap; an error (its class's name, its fields); or nothing is said -/
inductive Res (α : Type) where
  | ok (a : α) (h : Hs)
  | err (c : Str) (fs : List (Str × D)) (h : Hs)
  | bad
@[reducible] def Res.bind {α β : Type} (r : Res α) (f : α → Hs → Res β) : Res β :=
  match r with
  | .ok a h => f a h
  | .err c fs h => .err c fs h
  | .bad => .bad
/-- a call of a def of the text -/
abbrev CallF := Str → List D → Hs → Res D
/-- .. by how many frames further in -/
structure CF where
  lv : Nat
  fn : Nat → CallF
/-- a frame further in -/
def CF.inner (C : CF) : CF := ⟨C.lv - 1, fun k => C.fn (k + 1)⟩
abbrev Env' := List (Option D)
abbrev Ev := CF → Env' → Hs → Res D
abbrev Tv := CF → Env' → Hs → Res Bool
abbrev Av := CF → Env' → Hs → Res (List D)
/-- what a statement comes to -/
inductive RS where
  | nx (env : Env') (h : Hs)
  | rt (d : D) (h : Hs)
  | bk (env : Env') (h : Hs)
  | ct (env : Env') (h : Hs)
  | err (c : Str) (fs : List (Str × D)) (h : Hs)
  | bad
abbrev Sv := CF → Env' → Hs → RS

section
variable (g : G)
/-- an answer that holds -/
def Post {α β : Type} (R : Hp → List Addr → α → β → Prop) (r : Res α) (ρ : List Addr) (H : Hp) (Q : β → Hp → Prop) : Prop :=
  match r with
  | .ok d h' => ∀ (v : β) (ρ' : List Addr) (H' : Hp), Tr g.tb ρ H ρ' H' → HR g ρ' H' h' → R H' ρ' d v → Q v H'
  | _ => False
abbrev PostE := Post g (Is g)
abbrev PostA := Post g (IsL g)
abbrev PostT := Post (β := Bool) g (fun _ _ (b : Bool) c => c = b)
/-- the reading of a pure piece -/
def wpE (C : CF) (f : Ev) : TE := fun σ H Q => ∃ ρ h env, HR g ρ H h ∧ EnvR g H ρ env σ ∧ PostE g (f C env h) ρ H Q
def wpA (C : CF) (f : Av) : TA := fun σ H Q => ∃ ρ h env, HR g ρ H h ∧ EnvR g H ρ env σ ∧ PostA g (f C env h) ρ H Q
def wpT (C : CF) (f : Tv) : TT := fun σ H Q => ∃ ρ h env, HR g ρ H h ∧ EnvR g H ρ env σ ∧ PostT g (f C env h) ρ H Q
def PostS (r : RS) (ρ : List Addr) (H : Hp) (Dd : Ends) : Prop :=
  match r with
  | .nx env' h' => ∀ (σ' : L2.St) (ρ' : List Addr) (H' : Hp), Tr g.tb ρ H ρ' H' → HR g ρ' H' h' → EnvR g H' ρ' env' σ' → Dd.nx σ' H'
  | .bk env' h' => ∀ (σ' : L2.St) (ρ' : List Addr) (H' : Hp), Tr g.tb ρ H ρ' H' → HR g ρ' H' h' → EnvR g H' ρ' env' σ' → Dd.bk σ' H'
  | .ct env' h' => ∀ (σ' : L2.St) (ρ' : List Addr) (H' : Hp), Tr g.tb ρ H ρ' H' → HR g ρ' H' h' → EnvR g H' ρ' env' σ' → Dd.ct σ' H'
  | .rt d h' => ∀ (v : V) (ρ' : List Addr) (H' : Hp), Tr g.tb ρ H ρ' H' → HR g ρ' H' h' → Is g H' ρ' d v → Dd.rt v H'
  | _ => False
def wpS (C : CF) (f : Sv) : TS := fun Dd σ H => ∃ ρ h env, HR g ρ H h ∧ EnvR g H ρ env σ ∧ PostS g (f C env h) ρ H Dd
end

/-- the names of a piece: by slots; the scope; whether generator expressions may be made there -/
structure L where
  N : List Str
  sc : Scope
  gen : Bool
  cl : List Str
  df : List (Str × Nat)
  ks : List (Str × Int)
  /-- the text's errors: which clauses take each -/
  er : List (Str × List Str)
  /-- defs that try a lambda: the clauses, what each tells; what is told of no error -/
  lw : List (Str × (List (Str × Str) × Str))
  /-- may lambdas be made here -/
  la : Bool
  /-- the defs that may raise -/
  rs : List Str
/-- where a piece stands -/
structure Ct (g : G) (X : Cx) (l : L) (j : Nat) : Prop where
  prog : X.prog = g.P
  w : X.w = g.w
  K : X.K = g.K
  mg : X.mg = g.mg
  base : X.base = g.base
  N : X.N = l.N
  nd : l.N.Nodup
  sc : X.env.scope = l.sc
  fn : ∀ x ∈ l.cl, X.fn x = true
  calm : X.calm = true
  room : Room j X.A
  po : PassesOwn (model X.prog X.w) X.A X.env X.xe
  code : l.gen = true → ∃ c P, X.env.code = .ref c ∧ TabB X.base X.mg c P ∧ P ∈ g.tb

section
variable {g : G} {ρ ρ' ρ1 : List Addr} {H H' H1 : Hp} {X : Cx}
theorem Post.tr {α β : Type} {R : Hp → List Addr → α → β → Prop} {r : Res α} {Q : β → Hp → Prop} (t : Tr g.tb ρ H ρ1 H1) (p : Post g R r ρ H Q) : Post g R r ρ1 H1 Q := by
  cases r with
  | ok d h => exact fun v ρ' H' t' hr hi => p v ρ' H' (t.trans t') hr hi
  | err => exact p
  | bad => exact p
theorem PostS.tr {r : RS} {Dd : Ends} (t : Tr g.tb ρ H ρ1 H1) (p : PostS g r ρ H Dd) : PostS g r ρ1 H1 Dd := by
  cases r with
  | nx e h => exact fun σ ρ' H' t' => p σ ρ' H' (t.trans t')
  | bk e h => exact fun σ ρ' H' t' => p σ ρ' H' (t.trans t')
  | ct e h => exact fun σ ρ' H' t' => p σ ρ' H' (t.trans t')
  | rt d h => exact fun v ρ' H' t' => p v ρ' H' (t.trans t')
  | err => exact p
  | bad => exact p
theorem Post.mono {α β : Type} {R : Hp → List Addr → α → β → Prop} {r : Res α} {Q Q' : β → Hp → Prop} (p : Post g R r ρ H Q) (h : ∀ v H', Q v H' → Q' v H') : Post g R r ρ H Q' := by
  cases r with
  | ok d _ => exact fun v ρ' H' t' hr hi => h v H' (p v ρ' H' t' hr hi)
  | err => exact p
  | bad => exact p
/-- one answer, then another -/
theorem Post.bind {α β γ δ : Type} {R : Hp → List Addr → α → β → Prop} {R' : Hp → List Addr → γ → δ → Prop} {r : Res α} {f : α → Hs → Res γ} {Q : δ → Hp → Prop} (p : Post g R' (r.bind f) ρ H Q) :
    Post g R r ρ H fun v H1 => ∃ ρ1 h1 d, Tr g.tb ρ H ρ1 H1 ∧ HR g ρ1 H1 h1 ∧ R H1 ρ1 d v ∧ r = .ok d h1 ∧ Post g R' (f d h1) ρ1 H1 Q := by
  cases r with
  | ok d h => exact fun v ρ' H' t hr hi => ⟨ρ', h, d, t, hr, hi, rfl, p.tr t⟩
  | err => exact p
  | bad => exact p
theorem PE.imp {e : Expr} {t t' : TE} (h : PE X e t) (i : ∀ σ H Q, t' σ H Q → t σ H Q) : PE X e t' := ⟨fun pins s σ H Q I q => h.run pins s σ H Q I (i σ H Q q)⟩
theorem PT.imp {e : Expr} {t t' : TT} (h : PT X e t) (i : ∀ σ H Q, t' σ H Q → t σ H Q) : PT X e t' := ⟨fun pins s σ H Q I q => h.run pins s σ H Q I (i σ H Q q)⟩
theorem PW.imp {e : Expr} {t t' : TT} (h : PW X e t) (i : ∀ σ H Q, t' σ H Q → t σ H Q) : PW X e t' := ⟨fun w pins s σ H Q I q => h.run w pins s σ H Q I (i σ H Q q)⟩
theorem PA.imp {e : List Expr} {t t' : TA} (h : PA X e t) (i : ∀ σ H Q, t' σ H Q → t σ H Q) : PA X e t' := ⟨fun w pins s σ H Q I q => h.run w pins s σ H Q I (i σ H Q q)⟩
theorem PS.imp {e : Stmt} {t t' : TS} (h : PS X e t) (i : ∀ D σ H, t' D σ H → t D σ H) : PS X e t' := ⟨fun pins s σ H D I q => h.run pins s σ H D I (i D σ H q)⟩
theorem PSs.imp {e : List Stmt} {t t' : TS} (h : PSs X e t) (i : ∀ D σ H, t' D σ H → t D σ H) : PSs X e t' := ⟨fun pins s σ H D I q => h.run pins s σ H D I (i D σ H q)⟩
theorem OpR.imp {f : Value → Value → Sem Value} {r r' : R2} (h : OpR X f r) (i : ∀ x y H Q, r' x y H Q → r x y H Q) : OpR X f r' := fun pins s σ H x y v u Q I rx ry q => h pins s σ H x y v u Q I rx ry (i x y H Q q)
theorem CallR.imp {f : Value} {r r' : List V → Hp → VK → Prop} (h : CallR X f r) (i : ∀ xs H Q, r' xs H Q → r xs H Q) : CallR X f r' := fun pins s σ H xs us Q I rx q => h pins s σ H xs us Q I rx (i xs H Q q)
theorem IxR.imp {r r' : R2} (h : IxR X r) (i : ∀ x y H Q, r' x y H Q → r x y H Q) : IxR X r' := fun va sl pins s σ H x y v u Q I rx ry q => h va sl pins s σ H x y v u Q I rx ry (i x y H Q q)

/-! ### pure operations -/
abbrev Op1 := D → Hs → Res D
abbrev Op2 := D → D → Hs → Res D
abbrev OpN := List D → Hs → Res D
section
variable (g : G)
/-- the reading of a pure operation on values -/
def rD2 (f : Op2) : R2 := fun x y H Q => ∃ ρ h d e, HR g ρ H h ∧ Is g H ρ d x ∧ Is g H ρ e y ∧ PostE g (f d e h) ρ H Q
def rDN (f : OpN) : List V → Hp → VK → Prop := fun xs H Q => ∃ ρ h ds, HR g ρ H h ∧ IsL g H ρ ds xs ∧ PostE g (f ds h) ρ H Q
end
def eBin (f : Op2) (a b : Ev) : Ev := fun C env h => (a C env h).bind fun x h1 => (b C env h1).bind fun y h2 => f x y h2
def aNil : Av := fun _ _ h => .ok [] h
def aCons (a : Ev) (r : Av) : Av := fun C env h => (a C env h).bind fun x h1 => (r C env h1).bind fun xs h2 => .ok (x :: xs) h2
def aStar (a : Ev) (r : Av) : Av := fun C env h => (a C env h).bind fun x h1 => 
  match x with
  | .tup xs => (r C env h1).bind fun ys h2 => .ok (xs ++ ys) h2
  | .ref n => match h1[n]? with
    | some (.lst xs) => (r C env h1).bind fun ys h2 => .ok (xs ++ ys) h2
    | _ => .bad
  | _ => .bad
def eArgs (f : OpN) (a : Av) : Ev := fun C env h => (a C env h).bind f

variable {C : CF}
theorem wpE.bin {f : Op2} {a b : Ev} {σ : L2.St} {Q : VK} (q : wpE g C (eBin f a b) σ H Q) : tOp (rD2 g f) (wpE g C a) (wpE g C b) σ H Q := by
  obtain ⟨ρ, h, env, hr, he, p⟩ := q
  refine ⟨ρ, h, env, hr, he, (Post.bind (R := Is g) p).mono fun x H1 ⟨ρ1, h1, d, t, hr1, i1, _, p1⟩ => ?_⟩
  refine ⟨ρ1, h1, env, hr1, he.mono t, (Post.bind (R := Is g) p1).mono fun y H2 ⟨ρ2, h2, e, t2, hr2, i2, _, p2⟩ => ?_⟩
  exact ⟨ρ2, h2, d, e, hr2, i1.mono t2, i2, p2⟩
theorem wpE.args {f : OpN} {a : Av} {σ : L2.St} {Q : VK} (q : wpE g C (eArgs f a) σ H Q) : wpA g C a σ H fun xs H1 => rDN g f xs H1 Q := by
  obtain ⟨ρ, h, env, hr, he, p⟩ := q
  exact ⟨ρ, h, env, hr, he, (Post.bind (R := IsL g) p).mono fun x H1 ⟨ρ1, h1, d, t, hr1, i1, _, p1⟩ => ⟨ρ1, h1, d, hr1, i1, p1⟩⟩
theorem wpA.nil {σ : L2.St} {Q : List V → Hp → Prop} (q : wpA g C aNil σ H Q) : tNil σ H Q := by
  obtain ⟨ρ, h, env, hr, he, p⟩ := q
  exact p [] ρ H (Tr.refl hr.tabs) hr IsL.nil
theorem wpA.cons {a : Ev} {r : Av} {σ : L2.St} {Q : List V → Hp → Prop} (q : wpA g C (aCons a r) σ H Q) : tCons (wpE g C a) (wpA g C r) σ H Q := by
  obtain ⟨ρ, h, env, hr, he, p⟩ := q
  refine ⟨ρ, h, env, hr, he, (Post.bind (R := Is g) p).mono fun x H1 ⟨ρ1, h1, d, t, hr1, i1, _, p1⟩ => ?_⟩
  refine ⟨ρ1, h1, env, hr1, he.mono t, (Post.bind (R := IsL g) p1).mono fun y H2 ⟨ρ2, h2, e, t2, hr2, i2, _, p2⟩ => ?_⟩
  exact p2 _ ρ2 H2 (Tr.refl hr2.tabs) hr2 (IsL.cons (i1.mono t2) i2)
theorem seqL_of {ρ : List Addr} {H : Hp} {h : Hs} (hr : HR g ρ H h) {n : Nat} {a : Addr} {xs : List D} (ha : ρ[n]? = some a) (hn : h[n]? = some (.lst xs)) : ∃ vs, H a = some (.lst vs) ∧ IsL g H ρ xs vs := hr.obj n a _ ha hn
theorem wpA.star (hK : X.K = g.K) {a : Ev} {r : Av} {σ : L2.St} {Q : List V → Hp → Prop} (q : wpA g C (aStar a r) σ H Q) : StX.tStar X.K (wpE g C a) (wpA g C r) σ H Q := by
  obtain ⟨ρ, h, env, hr, he, p⟩ := q
  refine ⟨ρ, h, env, hr, he, (Post.bind (R := Is g) p).mono fun x H1 ⟨ρ1, h1, d, t, hr1, i1, _, p1⟩ => ?_⟩
  have fin : ∀ {xs : List D} {us : List V}, IsL g H1 ρ1 xs us → Post g (IsL g) ((r C env h1).bind fun ys h2 => .ok (xs ++ ys) h2) ρ1 H1 Q → wpA g C r σ H1 fun vs H2 => Q (us ++ vs) H2 := fun {xs us} ix p2 => by
    refine ⟨ρ1, h1, env, hr1, he.mono t, (Post.bind (R := IsL g) p2).mono fun y H2 ⟨ρ2, h2, e, t2, hr2, i2, _, p3⟩ => ?_⟩
    exact p3 _ ρ2 H2 (Tr.refl hr2.tabs) hr2 (IsL.append (ix.mono t2) i2)
  cases d with
  | tup xs =>
    rw [Is] at i1
    obtain ⟨b, vs, e1, e2, e3⟩ := i1
    exact ⟨b, vs, e1, .inl (by rw [hK]; exact e2), fin e3 p1⟩
  | ref n =>
    rw [Is] at i1
    obtain ⟨b, e1, e2⟩ := i1
    simp only at p1
    cases hq : h1[n]? with
    | none => rw [hq] at p1; exact p1.elim
    | some o =>
      rw [hq] at p1
      cases o with
      | lst xs =>
        obtain ⟨vs, y1, y2⟩ := seqL_of hr1 e1 hq
        exact ⟨b, vs, e2, .inr (.inl (.inl y1)), fin y2 p1⟩
      | dct kvs => exact p1.elim
  | _ => exact p1.elim
end
end PV
end

section
set_option Elab.async false
set_option linter.all false
set_option maxRecDepth 100000
set_option maxHeartbeats 4000000
/-! V3: operators on pure values. -/
namespace PV
open PySem PySem.Spec PyProof.Rows L2 GX GxR PG C8

/-! ### as plain data -/
mutual
def pyW (f : Nat → PyData) : D → PyData
  | .non => .none
  | .bl b => .bool b
  | .int i => .int i
  | .str s => .str s
  | .tup xs => .tuple (pyWL f xs)
  | .ref n => f n
  | .fn _ => .dict []
  | .ty _ => .dict []
  | .scr _ => .dict []
def pyWL (f : Nat → PyData) : List D → List PyData
  | [] => []
  | x :: xs => pyW f x :: pyWL f xs
end
abbrev py0 : D → PyData := pyW fun _ => .dict []
def pyO (p : List D → List PyData) : Option O → PyData
  | some (.lst xs) => .list (p xs)
  | _ => .dict []
def py1 (h : Hs) : D → PyData := pyW fun n => pyO (pyWL fun _ => .dict []) h[n]?
def py2 (h : Hs) : D → PyData := pyW fun n => pyO (pyWL fun n => pyO (pyWL fun _ => .dict []) h[n]?) h[n]?

section
variable {g : G} {ρ ρ' : List Addr} {H H' : Hp} {h h' : Hs}
mutual
theorem dpW {f : Nat → PyData} (hf : ∀ n a, ρ[n]? = some a → (f n).canLay0 = true → Dp g.K H (.ref a) (f n)) : ∀ (d : D) (v : V), Is g H ρ d v → (pyW f d).canLay0 = true → Dp g.K H v (pyW f d)
  | .non, v, i, _ => by rw [Is] at i; subst i; exact .non
  | .bl b, v, i, _ => by rw [Is] at i; subst i; exact .bl b
  | .int b, v, i, _ => by rw [Is] at i; subst i; exact .int b
  | .str b, v, i, _ => by rw [Is] at i; subst i; exact .str b
  | .tup xs, v, i, c => by
    rw [Is] at i
    obtain ⟨t, vs, e, h1, h2⟩ := i
    subst e
    rw [pyW] at c ⊢
    exact .tup h1 (dpWL hf xs vs h2 (by rw [PyData.canLay0] at c; exact c))
  | .ref n, v, i, c => by
    rw [Is] at i
    obtain ⟨a, h1, h2⟩ := i
    subst h2
    rw [pyW] at c ⊢
    exact hf n a h1 c
  | .fn x, v, i, c => by rw [pyW, PyData.canLay0] at c; cases c
  | .ty x, v, i, c => by rw [pyW, PyData.canLay0] at c; cases c
  | .scr x, v, i, c => by rw [pyW, PyData.canLay0] at c; cases c
theorem dpWL {f : Nat → PyData} (hf : ∀ n a, ρ[n]? = some a → (f n).canLay0 = true → Dp g.K H (.ref a) (f n)) : ∀ (ds : List D) (vs : List V), IsL g H ρ ds vs → PyData.canLayAll0 (pyWL f ds) = true → DpAll g.K H vs (pyWL f ds)
  | [], vs, i, _ => by rw [IsL] at i; subst i; rw [pyWL]; exact .nil
  | d :: ds, vs, i, c => by
    rw [IsL] at i
    obtain ⟨v, r, e, h1, h2⟩ := i
    subst e
    rw [pyWL] at c ⊢
    rw [PyData.canLayAll0, Bool.and_eq_true] at c
    exact .cons (dpW hf d v h1 c.1) (dpWL hf ds r h2 c.2)
end
theorem dp_ints : ∀ ns : List Int, DpAll g.K H (ns.map V.int) (ns.map PyData.int)
  | [] => .nil
  | n :: ns => .cons (.int n) (dp_ints ns)
theorem no0 : ∀ (n : Nat) (a : Addr), ρ[n]? = some a → ((fun _ : Nat => PyData.dict []) n).canLay0 = true → Dp g.K H (.ref a) ((fun _ : Nat => PyData.dict []) n) := fun n a _ c => by
  rw [show ((fun _ : Nat => PyData.dict []) n) = PyData.dict [] from rfl, PyData.canLay0] at c; cases c
theorem seq_of (hr : HR g ρ H h) {n : Nat} {a : Addr} {o : O} (ha : ρ[n]? = some a) (hn : h[n]? = some o) : ObR g H ρ a o := hr.obj n a o ha hn
theorem dpO (hr : HR g ρ H h) {f : Nat → PyData} (hf : ∀ (n : Nat) (a : Addr), ρ[n]? = some a → (f n).canLay0 = true → Dp g.K H (.ref a) (f n)) (n : Nat) (a : Addr) (ha : ρ[n]? = some a) (c : (pyO (pyWL f) h[n]?).canLay0 = true) : Dp g.K H (.ref a) (pyO (pyWL f) h[n]?) := by
  cases q : h[n]? with
  | none => rw [q] at c; rw [pyO, PyData.canLay0] at c; cases c; all_goals (intros; simp_all)
  | some o =>
    rw [q] at c
    have x := seq_of hr ha q
    cases o with
    | lst xs =>
      obtain ⟨vs, e1, e2⟩ := x
      rw [pyO] at c ⊢
      exact .lst (SqL.of e1) (dpWL hf xs vs e2 (by rw [PyData.canLay0] at c; exact c))
    | dct kvs =>
      have e : pyO (pyWL f) (some (O.dct kvs)) = .dict [] := rfl
      rw [e, PyData.canLay0] at c; cases c
theorem dp0 {d : D} {v : V} (i : Is g H ρ d v) (c : (py0 d).canLay0 = true) : Dp g.K H v (py0 d) := dpW no0 d v i c
theorem dp1 (hr : HR g ρ H h) {d : D} {v : V} (i : Is g H ρ d v) (c : (py1 h d).canLay0 = true) : Dp g.K H v (py1 h d) := dpW (fun n a => dpO hr no0 n a) d v i c
theorem dp2 (hr : HR g ρ H h) {d : D} {v : V} (i : Is g H ρ d v) (c : (py2 h d).canLay0 = true) : Dp g.K H v (py2 h d) := dpW (fun n a => dpO hr (fun n a => dpO hr no0 n a) n a) d v i c
end

/-! ### the operators -/
section
variable {g : G} {X : Cx} {l : L} {j : Nat}
theorem Ct.u64 (c : Ct g X l j) : X.A.units + 64 < cLine := c.room.units
theorem Ct.u0 (c : Ct g X l j) : X.A.units < cLine := c.room.units0
end
def gEq : Op2 := fun d e h => if SeqAt.shaped (py2 h d) && SeqAt.shaped (py2 h e) then .ok (.bl (PyData.eqv (py2 h d) (py2 h e))) h else .bad
def gNe : Op2 := fun d e h => if SeqAt.shaped (py2 h d) && SeqAt.shaped (py2 h e) then .ok (.bl (!PyData.eqv (py2 h d) (py2 h e))) h else .bad
section
variable {g : G} {X : Cx} {l : L} {j : Nat} {ρ : List Addr} {H : Hp} {h : Hs}
/-- an answer that leaves the heap -/
theorem Post.same {α β : Type} {R : Hp → List Addr → α → β → Prop} {d : α} {v : β} {Q : β → Hp → Prop} (p : Post g R (.ok d h) ρ H Q) (hr : HR g ρ H h) (hi : R H ρ d v) : Q v H := p v ρ H (Tr.refl hr.tabs) hr hi
theorem Post.ite {α β : Type} {R : Hp → List Addr → α → β → Prop} {b : Bool} {r : Res α} {Q : β → Hp → Prop} (p : Post g R (if b = true then r else .bad) ρ H Q) : b = true ∧ Post g R r ρ H Q := by
  cases b with
  | true => exact ⟨rfl, p⟩
  | false => exact p.elim
theorem od_eq (c : Ct g X l j) : OpR X (compareOp .Eq) (rD2 g gEq) := by
  refine PV.OpR.imp (op_eqD c.u64) fun x y H Q ⟨ρ, h, d, e, hr, i1, i2, p⟩ => ?_
  obtain ⟨hb, p⟩ := Post.ite p
  rw [Bool.and_eq_true] at hb
  refine ⟨_, _, ?_, ?_, hb.1, hb.2, p.same hr (by rw [Is])⟩ <;> rw [c.K]
  · exact dp2 hr i1 (SeqAt.canLay_of_shaped hb.1)
  · exact dp2 hr i2 (SeqAt.canLay_of_shaped hb.2)
theorem od_ne (c : Ct g X l j) : OpR X (compareOp .NotEq) (rD2 g gNe) := by
  refine PV.OpR.imp (op_neD c.u64) fun x y H Q ⟨ρ, h, d, e, hr, i1, i2, p⟩ => ?_
  obtain ⟨hb, p⟩ := Post.ite p
  rw [Bool.and_eq_true] at hb
  refine ⟨_, _, ?_, ?_, hb.1, hb.2, p.same hr (by rw [Is])⟩ <;> rw [c.K]
  · exact dp2 hr i1 (SeqAt.canLay_of_shaped hb.1)
  · exact dp2 hr i2 (SeqAt.canLay_of_shaped hb.2)

/-! ### order -/
end
def D.isNon : D → Bool
  | .non => true
  | _ => false
def gLt : Op2 := fun d e h =>
  if PySem.W.alike (py0 d) (py0 e) && (SeqAt.shaped (py0 d) && SeqAt.shaped (py0 e)) && !d.isNon then .ok (.bl (PySem.W.dataLt (py0 d) (py0 e))) h else .bad
def gInt2 (f : Int → Int → D) : Op2 := fun d e h => match d, e with | .int i, .int k => .ok (f i k) h | _, _ => .bad
def gLe : Op2 := gInt2 fun i k => .bl (decide (i ≤ k))
def gGt : Op2 := gInt2 fun i k => .bl (decide (k < i))
def gGe : Op2 := gInt2 fun i k => .bl (decide (k ≤ i))
section
variable {g : G} {X : Cx} {l : L} {j : Nat} {ρ : List Addr} {H : Hp} {h : Hs}
theorem od_int2 {f : Value → Value → Sem Value} {u : Int → Int → V} {ud : Int → Int → D} (o : OpR X f (rI0 u)) (hu : ∀ H ρ i k, Is g H ρ (ud i k) (u i k)) : OpR X f (rD2 g (gInt2 ud)) := by
  refine PV.OpR.imp o fun x y H Q ⟨ρ, h, d, e, hr, i1, i2, p⟩ => ?_
  cases d with
  | int i =>
    cases e with
    | int k =>
      rw [Is] at i1 i2
      exact ⟨i, k, i1, i2, p.same hr (hu H ρ i k)⟩
    | _ => exact p.elim
  | _ => exact p.elim
theorem od_le : OpR X (compareOp .LtE) (rD2 g gLe) := od_int2 op_le fun _ _ _ _ => by rw [Is]
theorem od_gt : OpR X (compareOp .Gt) (rD2 g gGt) := od_int2 op_gt fun _ _ _ _ => by rw [Is]
theorem od_ge : OpR X (compareOp .GtE) (rD2 g gGe) := od_int2 op_ge fun _ _ _ _ => by rw [Is]
/-- < of alike data -/
def rLtD (K : PySem.W.Frag) : R2 := fun x y H Q => ∃ d e, Dp K H x d ∧ Dp K H y e ∧ PySem.W.alike d e = true ∧ d ≠ .none ∧ d.depth ≤ 64 ∧ Q (.bl (PySem.W.dataLt d e)) H
theorem op_ltD (hu : X.A.units + 64 < cLine) : OpR X (compareOp .Lt) (rLtD X.K) := by
  intro pins s σ H x y v u Q I rx ry ⟨d, e, h1, h2, ha, hn, hd, q⟩
  obtain ⟨as, r1⟩ := Dp.reads I d x v h1 rx
  obtain ⟨bs, r2⟩ := Dp.reads I e y u h2 ry
  have hm : min d.depth e.depth ≤ d.depth := Nat.min_le_left _ _
  exact PySem.W.rcLt_alike d e X.A s v u as bs r1 r2 ha hn (by omega) X.prog X.w X.xe _ ⟨.bl _, H, I, rfl, q⟩
theorem od_lt (c : Ct g X l j) : OpR X (compareOp .Lt) (rD2 g gLt) := by
  refine PV.OpR.imp (op_ltD c.u64) fun x y H Q ⟨ρ, h, d, e, hr, i1, i2, p⟩ => ?_
  obtain ⟨hb, p⟩ := Post.ite p
  simp only [Bool.and_eq_true, Bool.not_eq_true'] at hb
  obtain ⟨⟨h1, h2, h3⟩, h4⟩ := hb
  refine ⟨py0 d, py0 e, ?_, ?_, h1, fun z => ?_, SeqAt.depth_of_shaped h2, p.same hr (by rw [Is])⟩
  · rw [c.K]; exact dp0 i1 (SeqAt.canLay_of_shaped h2)
  · rw [c.K]; exact dp0 i2 (SeqAt.canLay_of_shaped h3)
  · cases d with
    | non => cases h4
    | ref n => exact nomatch (show PyData.dict [] = .none from z)
    | bl b => exact nomatch (show PyData.bool b = .none from z)
    | int b => exact nomatch (show PyData.int b = .none from z)
    | str b => exact nomatch (show PyData.str b = .none from z)
    | tup b => exact nomatch (show PyData.tuple _ = .none from z)
    | fn b => exact nomatch (show PyData.dict [] = .none from z)
    | ty b => exact nomatch (show PyData.dict [] = .none from z)
    | scr b => exact nomatch (show PyData.dict [] = .none from z)

/-! ### is -/
end
def D.isBl : Bool → D → Option Bool
  | k, .bl b => some (b == k)
  | _, _ => none
def gIs : Op2 := fun d e h => match e with
  | .non => .ok (.bl d.isNon) h
  | .bl k => match d.isBl k with
    | some b => .ok (.bl b) h
    | none => .bad
  | _ => .bad
def gIsNot : Op2 := fun d e h => match e with
  | .non => .ok (.bl (!d.isNon)) h
  | .bl k => match d.isBl k with
    | some b => .ok (.bl (!b)) h
    | none => .bad
  | _ => .bad
section
variable {g : G} {X : Cx} {l : L} {j : Nat} {ρ : List Addr} {H : Hp} {h : Hs}
theorem isNon_of {d : D} {v : V} (i : Is g H ρ d v) : decide (v = .non) = d.isNon := by
  cases d <;> (rw [Is] at i) <;> first
    | (obtain ⟨_, _, e, _⟩ := i; rw [e]; rfl)
    | (obtain ⟨_, _, e⟩ := i; rw [e]; rfl)
    | (rw [i]; rfl)
    | (rw [i.1]; rfl)
theorem od_is : OpR X (compareOp .Is) (rD2 g gIs) := by
  refine PV.OpR.imp (OpR.or op_isN op_isBl) fun x y H Q ⟨ρ, h, d, e, hr, i1, i2, p⟩ => ?_
  cases e with
  | non =>
    rw [Is] at i2
    exact .inl ⟨i2, p.same hr (by rw [Is, isNon_of i1])⟩
  | bl k =>
    rw [Is] at i2
    cases d with
    | bl b =>
      rw [Is] at i1
      have p : Post g (Is g) (.ok (.bl (b == k)) h) ρ H Q := p
      exact .inr ⟨b, k, i1, i2, p.same hr (by rw [Is, Bool.beq_eq_decide_eq])⟩
    | _ => exact p.elim
  | _ => exact p.elim
theorem od_isNot : OpR X (compareOp .IsNot) (rD2 g gIsNot) := by
  refine PV.OpR.imp (OpR.or op_notN op_notBl) fun x y H Q ⟨ρ, h, d, e, hr, i1, i2, p⟩ => ?_
  cases e with
  | non =>
    rw [Is] at i2
    exact .inl ⟨i2, p.same hr (by rw [Is, isNon_of i1])⟩
  | bl k =>
    rw [Is] at i2
    cases d with
    | bl b =>
      rw [Is] at i1
      have p : Post g (Is g) (.ok (.bl (!(b == k))) h) ρ H Q := p
      exact .inr ⟨b, k, i1, i2, p.same hr (by rw [Is, Bool.beq_eq_decide_eq])⟩
    | _ => exact p.elim
  | _ => exact p.elim
end

/-! ### arithmetic; lists and tuples together -/
/-- a new object of ours -/
def mk (o : O) : Hs → Res D := fun h => .ok (.ref h.length) (h ++ [o])
def gAdd : Op2 := fun d e h => match d, e with
  | .int i, .int k => .ok (.int (i + k)) h
  | .tup xs, .tup ys => if decide (xs.length + ys.length ≤ 100000) then .ok (.tup (xs ++ ys)) h else .bad
  | .ref n, .ref m => match h[n]?, h[m]? with
    | some (.lst xs), some (.lst ys) => if decide (xs.length + ys.length ≤ 100000) then mk (.lst (xs ++ ys)) h else .bad
    | _, _ => .bad
  | _, _ => .bad
def gSub : Op2 := gInt2 fun i k => .int (i - k)
/-- under a test of the two -/
def gInt2C (c : Int → Int → Bool) (f : Int → Int → D) : Op2 := fun d e h => match d, e with | .int i, .int k => if c i k then .ok (f i k) h else .bad | _, _ => .bad
def gMul : Op2 := fun d e h => match d, e with
  | .int i, .int k => if decide (i.natAbs.log2 + k.natAbs.log2 < 1000000) then .ok (.int (i * k)) h else .bad
  | .ref n, .int k => match h[n]? with
    | some (.lst xs) => if decide (k ≤ 100000) && decide (xs.length * k.toNat ≤ 100000) && decide (-(2 ^ 62) ≤ k) then mk (.lst (List.replicate k.toNat xs).flatten) h else .bad
    | _ => .bad
  | _, _ => .bad
def gDiv : Op2 := gInt2C (fun _ k => decide (0 < k) && decide (k.natAbs.log2 < 9000)) fun i k => .int (i / k)
def gMod : Op2 := gInt2C (fun _ k => decide (0 < k)) fun i k => .int (i % k)
def gPow : Op2 := gInt2C (fun i k => decide (0 ≤ k) && decide (k ≤ 1000) && decide (i.natAbs < 2 ^ 64)) fun i k => .int (i ^ k.toNat)
def gShl : Op2 := gInt2C (fun i k => decide (0 ≤ k) && decide (Builtin.Int.intBits i + k.toNat ≤ 1000000)) fun i k => .int (i * 2 ^ k.toNat)
def gShr : Op2 := gInt2C (fun _ k => decide (0 ≤ k)) fun i k => .int (i / 2 ^ k.toNat)
def gAnd : Op2 := gInt2 fun i k => .int (Builtin.bitAnd i k)
def gOr : Op2 := gInt2 fun i k => .int (Builtin.bitOr i k)
def gXor : Op2 := gInt2 fun i k => .int (Builtin.bitXor i k)
section
variable {g : G} {X : Cx} {l : L} {j : Nat} {ρ : List Addr} {H : Hp} {h : Hs}
theorem line_of {n : Nat} (h : n ≤ 100000) : n ≤ sizeLine := by rw [sizeLine_eq]; omega
/-- a new tuple -/
theorem Post.newT {xs : List D} {vs : List V} {Q : VK} (p : Post g (Is g) (.ok (.tup xs) h) ρ H Q) (hr : HR g ρ H h) (hi : IsL g H ρ xs vs) {a : Addr} (ha : H a = none) : Q (.ref a) (upd H a (.tup vs)) := by
  refine p _ ρ _ (Tr.new hr.tabs ha) (hr.new ha) ?_
  rw [Is]
  exact ⟨a, vs, rfl, SqT.of upd_same, hi.mono (Tr.new hr.tabs ha)⟩
/-- a new list of ours -/
theorem Post.newL {xs : List D} {vs : List V} {Q : VK} (p : Post g (Is g) (mk (.lst xs) h) ρ H Q) (hr : HR g ρ H h) (hi : IsL g H ρ xs vs) {a : Addr} (ha : H a = none) : Q (.ref a) (upd H a (.lst vs)) := by
  have t : Tr g.tb ρ H (ρ ++ [a]) (upd H a (.lst vs)) := Tr.own hr.tabs ha
  refine p _ (ρ ++ [a]) _ t (hr.own ha ⟨vs, upd_same, hi.mono t⟩) ?_
  rw [Is]
  exact ⟨a, by rw [← hr.len]; simp, rfl⟩
theorem od_sub : OpR X (binaryOp .Sub) (rD2 g gSub) := od_int2 op_sub fun _ _ _ _ => by rw [Is]
theorem od_and : OpR X (binaryOp .BitAnd) (rD2 g gAnd) := od_int2 op_and fun _ _ _ _ => by rw [Is]
theorem od_or : OpR X (binaryOp .BitOr) (rD2 g gOr) := od_int2 op_or fun _ _ _ _ => by rw [Is]
theorem od_xor : OpR X (binaryOp .BitXor) (rD2 g gXor) := od_int2 op_xor fun _ _ _ _ => by rw [Is]
theorem od_int2C {f : Value → Value → Sem Value} {u : Int → Int → V} {ud : Int → Int → D} {cc : Int → Int → Prop} {c : Int → Int → Bool} (o : OpR X f (rI cc u)) (hc : ∀ i k, c i k = true → cc i k) (hu : ∀ H ρ i k, Is g H ρ (ud i k) (u i k)) : OpR X f (rD2 g (gInt2C c ud)) := by
  refine PV.OpR.imp o fun x y H Q ⟨ρ, h, d, e, hr, i1, i2, p⟩ => ?_
  cases d with
  | int i =>
    cases e with
    | int k =>
      rw [Is] at i1 i2
      obtain ⟨hb, p⟩ := Post.ite p
      exact ⟨i, k, i1, i2, hc i k hb, p.same hr (hu H ρ i k)⟩
    | _ => exact p.elim
  | _ => exact p.elim
theorem od_div : OpR X (binaryOp .FloorDiv) (rD2 g gDiv) := od_int2C op_fdivW (fun i k h => by simp at h; exact ⟨h.1, h.2⟩) fun _ _ _ _ => by rw [Is]
theorem od_mod : OpR X (binaryOp .Mod) (rD2 g gMod) := od_int2C op_mod (fun i k h => by simpa using h) fun _ _ _ _ => by rw [Is]
theorem od_pow : OpR X (binaryOp .Pow) (rD2 g gPow) := od_int2C op_pow (fun i k h => by simp at h; exact ⟨h.1.1, by omega, h.2⟩) fun _ _ _ _ => by rw [Is]
theorem od_shl : OpR X (binaryOp .LShift) (rD2 g gShl) := od_int2C op_shlW (fun i k h => by rw [Bool.and_eq_true, decide_eq_true_eq, decide_eq_true_eq] at h; exact ⟨h.1, by omega⟩) fun _ _ _ _ => by rw [Is]
theorem od_shr : OpR X (binaryOp .RShift) (rD2 g gShr) := od_int2C op_shr (fun i k h => by simpa using h) fun _ _ _ _ => by rw [Is]
theorem od_add (c : Ct g X l j) : OpR X (binaryOp .Add) (rD2 g gAdd) := by
  refine PV.OpR.imp (OpR.or op_add (OpR.or op_cat op_catA)) fun x y H Q ⟨ρ, h, d, e, hr, i1, i2, p⟩ => ?_
  cases d with
  | int i =>
    cases e with
    | int k =>
      rw [Is] at i1 i2
      exact .inl ⟨i, k, i1, i2, Post.same p hr (by rw [Is])⟩
    | _ => exact p.elim
  | tup xs =>
    cases e with
    | tup ys =>
      obtain ⟨hb, p⟩ := Post.ite (b := decide (xs.length + ys.length ≤ 100000)) p
      rw [decide_eq_true_eq] at hb
      have j1 := i1
      have j2 := i2
      rw [Is] at i1 i2
      obtain ⟨a, vs, rfl, h1, h2⟩ := i1
      obtain ⟨b, us, rfl, h3, h4⟩ := i2
      have l1 := h2.length
      have l2 := h4.length
      refine .inr (.inr ⟨a, b, vs, us, rfl, rfl, by rw [c.K]; exact h1, by rw [c.K]; exact h3, line_of (by omega), fun z => ?_, fun _ z => ?_, fun _ _ q hq => p.newT hr (h2.append h4) hq⟩)
      · subst z
        cases xs with
        | nil => exact p.same hr j2
        | cons _ _ => cases l1
      · subst z
        cases ys with
        | nil => rw [List.append_nil] at p; exact p.same hr j1
        | cons _ _ => cases l2
    | _ => exact p.elim
  | ref n =>
    cases e with
    | ref m =>
      rw [Is] at i1 i2
      obtain ⟨a, h1, rfl⟩ := i1
      obtain ⟨b, h2, rfl⟩ := i2
      have p : Post g (Is g) (match h[n]?, h[m]? with | some (.lst xs), some (.lst ys) => if decide (xs.length + ys.length ≤ 100000) then mk (.lst (xs ++ ys)) h else .bad | _, _ => .bad) ρ H Q := p
      split at p
      · rename_i xs ys e1 e2
        obtain ⟨hb, p⟩ := Post.ite p
        rw [decide_eq_true_eq] at hb
        obtain ⟨vs, y1, y2⟩ := seqL_of hr h1 e1
        obtain ⟨us, y3, y4⟩ := seqL_of hr h2 e2
        have l1 := y2.length
        have l2 := y4.length
        exact .inr (.inl ⟨a, b, vs, us, rfl, rfl, y1, y3, line_of (by omega), fun q hq => p.newL hr (y2.append y4) hq⟩)
      · exact p.elim
    | _ => exact p.elim
  | _ => exact p.elim
theorem IsL.rep {xs : List D} {vs : List V} (i : IsL g H ρ xs vs) : ∀ n : Nat, IsL g H ρ (List.replicate n xs).flatten (List.replicate n vs).flatten
  | 0 => by simp; exact IsL.nil
  | n + 1 => by rw [List.replicate_succ, List.replicate_succ, List.flatten_cons, List.flatten_cons]; exact IsL.append i (IsL.rep i n)
theorem od_mul : OpR X (binaryOp .Mult) (rD2 g gMul) := by
  refine PV.OpR.imp (OpR.or op_mulW op_rep) fun x y H Q ⟨ρ, h, d, e, hr, i1, i2, p⟩ => ?_
  cases d with
  | int i =>
    cases e with
    | int k =>
      rw [Is] at i1 i2
      obtain ⟨hb, p⟩ := Post.ite (b := decide (i.natAbs.log2 + k.natAbs.log2 < 1000000)) p
      rw [decide_eq_true_eq] at hb
      exact .inl ⟨i, k, i1, i2, hb, Post.same p hr (by rw [Is])⟩
    | _ => exact p.elim
  | ref n =>
    cases e with
    | int k =>
      rw [Is] at i1
      rw [Is] at i2
      obtain ⟨a, h1, rfl⟩ := i1
      subst i2
      have p : Post g (Is g) (match h[n]? with | some (.lst xs) => if decide (k ≤ 100000) && decide (xs.length * k.toNat ≤ 100000) && decide (-(2 ^ 62) ≤ k) then mk (.lst (List.replicate k.toNat xs).flatten) h else .bad | _ => .bad) ρ H Q := p
      split at p
      · rename_i xs e1
        obtain ⟨hb, p⟩ := Post.ite p
        simp only [Bool.and_eq_true, decide_eq_true_eq] at hb
        obtain ⟨vs, y1, y2⟩ := seqL_of hr h1 e1
        have l1 := y2.length
        have m1 : (-(2 ^ 63) : Int) ≤ -(2 ^ 62) := by decide
        have m2 : (100000 : Int) < 2 ^ 63 := by decide
        exact .inr ⟨a, k, vs, rfl, rfl, y1, Int.le_trans m1 hb.2, Int.lt_of_le_of_lt hb.1.1 m2, line_of (by rw [← l1]; exact hb.1.2), fun q hq => p.newL hr (y2.rep _) hq⟩
      · exact p.elim
    | _ => exact p.elim
  | _ => exact p.elim
end
end PV
end

section
set_option Elab.async false
set_option linter.all false
set_option maxRecDepth 100000
set_option maxHeartbeats 4000000
/-! SortT: sorted(t), t a tuple. -/
namespace SortT
open PySem PySem.Calls PyProof.Rows PySem.W
section
variable {prog : Program} {w : World} {A : Around} {E : Value → Shared → Prop} {s : Shared} {κ : PyProof.Rows.KeyKind}
theorem collect_tuple {l : Addr} {vs : List Value} {Q : List Value → Shared → Prop} (hl : s.heap.IsTuple l vs.toArray)
    (h : Q vs { s with heap := (s.heap.push (seqObj "list" #[] 0)).update s.heap.objs.size (Obj.mapSeq (· ++ vs.toArray)) }) (hsz : vs.length ≤ sizeLine) :
    wpAny (model prog w) A (collect (.ref l)) Q E s := by
  obtain ⟨o, ho, hc, n, hd⟩ := id hl
  unfold collect
  refine wpAny_bind (wpAny_runValue (codeAny_builtin entry_proto_collect' ?_))
  show wpAny _ _ (do again (.builtin "list.__iadd__" ⟨[← newList [], .ref l], []⟩)) _ _ s
  refine wpAny_bind (wpAny_newList (wpAny_pure ⟨Code.quiet_builtin _ (by decide +kernel), codeAny_builtin entry_list_iadd' ?_⟩))
  show wpAny _ _ (Builtin.List.listExtendWith (.ref s.heap.objs.size) (.ref l) (.ref s.heap.objs.size)) _ _ { s with heap := s.heap.push (seqObj "list" #[] 0) }
  unfold Builtin.List.listExtendWith
  have ho' : (s.heap.push (seqObj "list" #[] 0)).get? l = some o := Heap.get?_push_of_some _ ho
  refine wpAny_bind (wpAny_typeOf (T := "tuple") ⟨o, ho', hc⟩ ?_)
  have ht : (Value.type "tuple" == Value.type "tuple") = true := by rfl
  rw [if_pos (by rw [ht]; simp)]
  refine wpAny_bind (listItems_at ho' hd ?_)
  refine wpAny_bind (listItems_at (xs := #[]) (n := 0) (Heap.get?_push_size _ rfl) rfl ?_)
  rw [if_neg (by simp)]
  refine wpAny_bind (listUpdate_at (xs := #[]) (n := 0) (Heap.get?_push_size _ rfl) rfl ?_ (Nat.zero_le _) (by show (#[] ++ vs.toArray).size ≤ sizeLine + 1; simp only [Array.size_append, List.size_toArray, List.length_nil]; omega))
  refine wpAny_pure ?_
  show wpAny (model prog w) A (do
      let o ← load s.heap.objs.size
      match o.data with
      | .seq xs _ => pure xs.toList
      | _ => unsupported "internal:collect") Q E { s with heap := (s.heap.push (seqObj "list" #[] 0)).update s.heap.objs.size (Obj.mapSeq (· ++ vs.toArray)) }
  refine wpAny_bind (wpAny_load (get?_update_seq (Heap.get?_push_size _ rfl) _) ?_)
  show wpAny _ _ (pure ((#[] : Array Value) ++ vs.toArray).toList) Q E _
  rw [show ((#[] : Array Value) ++ vs.toArray).toList = vs by simp]
  exact wpAny_pure h
theorem sorted_of_sortT {l : Addr} {vs : List Value} {kw : List (Str × Value)} {Q : Value → Shared → Prop} (hl : s.heap.IsTuple l vs.toArray) (hL : vs.length ≤ sizeLine) (ha1 : argsOk "sorted" ⟨[.ref l], kw⟩) (ha2 : ∀ x, argsOk "list.sort" ⟨[.ref x], kw⟩)
    (body : ∀ E' : Value → Shared → Prop, wpAny (model prog w) A.in1.in1 (Builtin.«list.sort» ⟨[.ref (s.heap.objs.size + 1)], kw⟩) (fun f s' => f = .done (.ret .none) ∧ Q (.ref (s.heap.objs.size + 1)) s') E' { s with heap := copyHeap s.heap vs }) :
    wpAny (model prog w) A (call (.builtin "sorted") [.ref l] kw) Q E s := by
  refine call_function_entry_kw kind_sorted plain_sorted entry_sorted ha1 ?_
  unfold Builtin.«sorted»
  refine wpAny_bind (m := checkCount "sorted" 1 1 _) (wpAny_pure ?_)
  refine wpAny_bind (collect_tuple hl ?_ hL)
  refine wpAny_bind (wpAny_newList ?_ hL)
  have hsz : ((s.heap.push (seqObj "list" #[] 0)).update s.heap.objs.size (Obj.mapSeq (· ++ vs.toArray))).objs.size = s.heap.objs.size + 1 := by
    rw [Heap.size_update, size_push']
  show wpAny _ _ _ _ _ { s with heap := copyHeap s.heap vs }
  rw [hsz]
  refine wpAny_bind (wpAny_holding (wpAny_call_entry_kw slot_list_sort ⟨_, copyHeap_at s.heap vs, rfl⟩ entry_list_sort ?body (ha2 _)))
  case body =>
    show wpAny (model prog w) A.in1.in1 (Builtin.«list.sort» ⟨[.ref (s.heap.objs.size + 1)], kw⟩) _ _ _
    refine wpAny_mono (body _) (fun f s' hf => ?_) fun _ _ e => e
    obtain ⟨rfl, hq⟩ := hf
    exact ⟨_, rfl, wpAny_pure ⟨_, rfl, hq⟩⟩
theorem sorted_valsT {l : Addr} {vs : List Value} {Q : Value → Shared → Prop} (hl : s.heap.IsTuple l vs.toArray) (S : SortsAt prog w A.in1.in1 { s with heap := sortingHeap (copyHeap s.heap vs) (s.heap.objs.size + 1) vs } κ vs) (hL : vs.length ≤ sizeLine)
    (h : Q (.ref (s.heap.objs.size + 1)) { s with heap := sortedAll s.heap vs (sortVals κ false vs vs).toArray }) : wpAny (model prog w) A (call (.builtin "sorted") [.ref l]) Q E s :=
  sorted_of_sortT hl hL (args_sorted1 _) (fun _ => args_list_sort _) fun _ => list_sort_vals (s := { s with heap := copyHeap s.heap vs }) (copyHeap_at s.heap vs) S hL ⟨rfl, h⟩
variable {β : Type} {vs : List Value} {bs : List β} {enc : β → PyData} {R : Value → β → Prop}
theorem sorted_dataT {l : Addr} {Q : Value → Shared → Prop} (hl : s.heap.IsTuple l vs.toArray) (e : EachIs R vs bs) (er : EachIs (fun v b => ∃ as, Reads s.heap v (enc b) as) vs bs) (hal : AllAlike (bs.map enc)) (hk : Sortable (bs.map enc)) (hL : bs.length ≤ sizeLine)
    (hu : ∀ b, b ∈ bs → A.units + 2 + (enc b).depth < cLine) (h : ∀ out, out.length = bs.length → EachIs R out (bs.mergeSort (dataLe false enc)) → Q (.ref (s.heap.objs.size + 1)) { s with heap := sortedAll s.heap vs (List.toArray out) }) :
    wpAny (model prog w) A (call (.builtin "sorted") [.ref l]) Q E s := by
  have er' : EachIs (fun v b => ∃ as, Reads (sortingHeap (copyHeap s.heap vs) (s.heap.objs.size + 1) vs) v (enc b) as) vs bs := er.mono fun _ _ ⟨as, r⟩ => ⟨as, PyProof.Rows.Reads.keeps (fun _ _ => sorting_copy_old) r⟩
  exact sorted_valsT hl (SortsAt.data (s := { s with heap := sortingHeap (copyHeap s.heap vs) (s.heap.objs.size + 1) vs }) (each_map (R := fun v d => ∃ as, Reads (sortingHeap (copyHeap s.heap vs) (s.heap.objs.size + 1) vs) v d as) enc er') hal hk (bound_map hu)) (by rw [e.length]; exact hL)
    (h _ (by rw [sortVals_length false rfl]; exact e.length) (sortVals_data false e er' hal))
end
end SortT
end

section
set_option Elab.async false
set_option linter.all false
set_option maxRecDepth 100000
set_option maxHeartbeats 4000000
/-! SortS: a list that comes out strictly in order by insertion is the sorted list. -/
namespace PV
def insT {α : Type} (le : α → α → Bool) (a : α) : List α → List α
  | [] => [a]
  | b :: r => if le a b = true then a :: b :: r else b :: insT le a r
def isortT {α : Type} (le : α → α → Bool) : List α → List α
  | [] => []
  | a :: r => insT le a (isortT le r)
/-- strictly in order, each with each behind it -/
def strictT {α : Type} (le : α → α → Bool) : List α → Bool
  | [] => true
  | a :: r => le a a && r.all (fun b => le a b && !le b a) && strictT le r
theorem insT_perm {α : Type} (le : α → α → Bool) (a : α) : ∀ l : List α, (insT le a l).Perm (a :: l)
  | [] => .refl _
  | b :: r => by
    unfold insT
    split
    · exact .refl _
    · exact ((insT_perm le a r).cons b).trans (.swap a b r)
theorem isortT_perm {α : Type} (le : α → α → Bool) : ∀ l : List α, (isortT le l).Perm l
  | [] => .refl _
  | a :: r => (insT_perm le a _).trans ((isortT_perm le r).cons a)
theorem strictT_is {α : Type} {le : α → α → Bool} : ∀ {l : List α}, strictT le l = true → l.Pairwise (fun a b => le a b = true ∧ le b a = false) ∧ ∀ a ∈ l, le a a = true
  | [], _ => ⟨.nil, fun _ h => absurd h List.not_mem_nil⟩
  | a :: r, h => by
    unfold strictT at h
    rw [Bool.and_eq_true, Bool.and_eq_true, List.all_eq_true] at h
    obtain ⟨p, q⟩ := strictT_is h.2
    refine ⟨List.pairwise_cons.mpr ⟨fun b hb => ?_, p⟩, fun b hb => ?_⟩
    · have := h.1.2 b hb
      rw [Bool.and_eq_true, Bool.not_eq_true'] at this
      exact this
    · rcases List.mem_cons.mp hb with rfl | hb
      · exact h.1.1
      · exact q b hb
theorem perm_mapT {α β : Type} {f : α → β} {ys : List β} {xs : List α} (p : ys.Perm (xs.map f)) : ∃ m : List α, m.Perm xs ∧ ys = m.map f := by
  generalize hz : xs.map f = zs at p
  induction p generalizing xs with
  | nil =>
    cases xs with
    | nil => exact ⟨[], .refl _, rfl⟩
    | cons _ _ => cases hz
  | @cons a l1 l2 _ ih =>
    cases xs with
    | nil => cases hz
    | cons x r =>
      cases hz
      obtain ⟨m, pm, rfl⟩ := ih rfl
      exact ⟨x :: m, pm.cons x, rfl⟩
  | @swap a b l =>
    cases xs with
    | nil => cases hz
    | cons x r =>
      cases r with
      | nil => cases hz
      | cons y r =>
        cases hz
        exact ⟨y :: x :: r, .swap x y r, rfl⟩
  | @trans l1 l2 l3 _ _ ih1 ih2 =>
    obtain ⟨m, pm, e⟩ := ih2 hz
    obtain ⟨m', pm', e'⟩ := ih1 e.symm
    exact ⟨m', pm'.trans pm, e'⟩
theorem sort_strict {α : Type} [Inhabited α] {le : α → α → Bool} {l l' : List α} (p : l.Perm l') (h : strictT le l' = true) : l.mergeSort le = l' := by
  obtain ⟨s, rf⟩ := strictT_is h
  have e0 : l' = (List.range l'.length).map fun i => l'.getD i default := by
    apply List.ext_getElem?
    intro i
    by_cases hi : i < l'.length
    · rw [List.getElem?_map, List.getElem?_range hi, List.getElem?_eq_getElem hi]
      simp [List.getD_eq_getElem?_getD, List.getElem?_eq_getElem hi]
    · rw [List.getElem?_eq_none (by omega), List.getElem?_eq_none (by simp; omega)]
  have p2 : l.Perm ((List.range l'.length).map fun i => l'.getD i default) := by rw [← e0]; exact p
  obtain ⟨m, pm, rfl⟩ := perm_mapT p2
  have hm : ∀ i ∈ m, i < l'.length := fun i hi => List.mem_range.mp (pm.mem_iff.mp hi)
  have at1 : ∀ i, i < l'.length → ∃ hi : i < l'.length, l'.getD i default = l'[i] := fun i hi => ⟨hi, by simp [List.getD_eq_getElem?_getD, List.getElem?_eq_getElem hi]⟩
  have key : ∀ a ∈ m, ∀ b ∈ m, decide (a ≤ b) = le (l'.getD a default) (l'.getD b default) := fun a ha b hb => by
    obtain ⟨h1, e1⟩ := at1 a (hm a ha)
    obtain ⟨h2, e2⟩ := at1 b (hm b hb)
    rw [e1, e2]
    rcases Nat.lt_trichotomy a b with z | z | z
    · rw [decide_eq_true (by omega), ((List.pairwise_iff_getElem.mp s) a b h1 h2 z).1]
    · subst z
      rw [decide_eq_true (Nat.le_refl _), rf _ (List.getElem_mem h1)]
    · rw [decide_eq_false (by omega), ((List.pairwise_iff_getElem.mp s) b a h2 h1 z).2]
  rw [← List.map_mergeSort (r := fun a b => decide (a ≤ b)) (s := le) key]
  have em : m.mergeSort (fun a b => decide (a ≤ b)) = List.range l'.length := by
    refine List.Perm.eq_of_pairwise (le := fun a b => a ≤ b) (fun a b _ _ h1 h2 => Nat.le_antisymm h1 h2) ?_ ?_ ((List.mergeSort_perm m _).trans pm)
    · exact (List.pairwise_mergeSort (fun a b c h1 h2 => by rw [decide_eq_true_eq] at *; omega) (fun a b => by rw [Bool.or_eq_true, decide_eq_true_eq, decide_eq_true_eq]; omega) m).imp fun h => of_decide_eq_true h
    · exact (List.pairwise_lt_range).imp fun h => Nat.le_of_lt h
  rw [em, ← e0]
/-- sorted, by insertion where that comes out strictly -/
def sortT {α : Type} (le : α → α → Bool) (l : List α) : List α := if strictT le (isortT le l) = true then isortT le l else l.mergeSort le
theorem sortT_eq {α : Type} [Inhabited α] (le : α → α → Bool) (l : List α) : sortT le l = l.mergeSort le := by
  unfold sortT
  split
  · rename_i h
    exact (sort_strict (isortT_perm le l).symm h).symm
  · rfl
end PV
end

section
set_option Elab.async false
set_option linter.all false
set_option maxRecDepth 100000
set_option maxHeartbeats 4000000
/-! V4: truth, len, conversions, sum, sorted, min, max, isinstance, subscripts, slices. -/
namespace PV
open PySem PySem.Spec PyProof.Rows L2 GX GxR PG C8
open PySem.W (EachIs)

/-! ### truth -/
def tru : D → Hs → Option Bool
  | .non, _ => some false
  | .bl b, _ => some b
  | .int i, _ => some (i != 0)
  | .str s, _ => if decide (s.length ≤ 100000) then some ((s.length : Int) != 0) else none
  | .tup xs, _ => some (!xs.isEmpty)
  | .ref n, h => match h[n]? with
    | some (.lst xs) => some (!xs.isEmpty)
    | some (.dct xs) => some (!xs.isEmpty)
    | none => none
  | .scr xs, _ => some (!xs.isEmpty)
  | _, _ => none
/-- the items of a list or a tuple -/
def seqD : D → Hs → Option (List D)
  | .tup xs, _ => some xs
  | .scr xs, _ => some (xs.map D.int)
  | .ref n, h => match h[n]? with
    | some (.lst xs) => some xs
    | _ => none
  | _, _ => none
section
variable {g : G} {X : Cx} {l : L} {j : Nat} {ρ : List Addr} {H : Hp} {h : Hs}
theorem isEmpty_iff {xs : List D} {vs : List V} (i : IsL g H ρ xs vs) : (!xs.isEmpty) = !vs.isEmpty := by
  have := i.length
  cases xs <;> cases vs <;> first | rfl | cases this
theorem isEmpty_kvs {xs : List (Key × D)} {vs : List (Key × V)} (i : IsKV g H ρ xs vs) : (!xs.isEmpty) = !vs.isEmpty := by
  cases xs with
  | nil => rw [IsKV] at i; rw [i]; rfl
  | cons x xs => rw [IsKV] at i; obtain ⟨v, r, e, _⟩ := i; rw [e]; rfl
theorem map_isEmpty {α β : Type} (f : α → β) (xs : List α) : (xs.map f).isEmpty = xs.isEmpty := by cases xs <;> rfl
theorem tru_of (hr : HR g ρ H h) {d : D} {v : V} {k : Bool} (i : Is g H ρ d v) (t : tru d h = some k) : TruV g.K v H k := by
  cases d with
  | non => rw [Is] at i; subst i; cases t; rfl
  | bl b => rw [Is] at i; subst i; cases t; rfl
  | int b => rw [Is] at i; subst i; cases t; rfl
  | str s =>
    rw [Is] at i; subst i
    rw [tru] at t
    split at t
    · rename_i hl
      cases t
      exact ⟨line_of (of_decide_eq_true hl), rfl⟩
    · cases t
  | tup xs =>
    rw [Is] at i
    obtain ⟨a, vs, rfl, h1, h2⟩ := i
    cases t
    exact .inr (.inl ⟨vs, h1, isEmpty_iff h2⟩)
  | ref n =>
    rw [Is] at i
    obtain ⟨a, h1, rfl⟩ := i
    rw [tru] at t
    split at t
    · rename_i xs e
      cases t
      obtain ⟨vs, y1, y2⟩ := seqL_of hr h1 e
      exact .inl ⟨vs, SqL.of y1, isEmpty_iff y2⟩
    · rename_i xs e
      cases t
      obtain ⟨vs, y1, y2⟩ := seq_of hr h1 e
      exact .inr (.inr ⟨vs, y1, isEmpty_kvs y2⟩)
    · cases t
  | fn x => cases t
  | ty x => cases t
  | scr xs =>
    rw [Is] at i
    obtain ⟨rfl, rfl⟩ := i
    cases t
    exact .inl ⟨_, hr.scr.seqL, by rw [map_isEmpty]⟩
/-- a list or a tuple -/
theorem seq_at (hr : HR g ρ H h) {d : D} {v : V} {xs : List D} (i : Is g H ρ d v) (t : seqD d h = some xs) : ∃ a vs, v = .ref a ∧ (SqL g.K H a vs ∨ SqT g.K H a vs) ∧ IsL g H ρ xs vs := by
  cases d with
  | tup ys =>
    rw [Is] at i
    obtain ⟨a, vs, rfl, h1, h2⟩ := i
    cases t
    exact ⟨a, vs, rfl, .inr h1, h2⟩
  | ref n =>
    rw [Is] at i
    obtain ⟨a, h1, rfl⟩ := i
    rw [seqD] at t
    split at t
    · rename_i ys e
      cases t
      obtain ⟨vs, y1, y2⟩ := seqL_of hr h1 e
      exact ⟨a, vs, rfl, .inl (SqL.of y1), y2⟩
    · cases t
  | scr ys =>
    rw [Is] at i
    obtain ⟨rfl, rfl⟩ := i
    cases t
    exact ⟨g.sc, _, rfl, .inl hr.scr.seqL, IsL.ints⟩
  | _ => cases t
end

/-! ### calls of built-ins by values -/
def one (f : D → Hs → Res D) : OpN
  | [d], h => f d h
  | _, _ => .bad
def two (f : D → D → Hs → Res D) : OpN
  | [d, e], h => f d e h
  | _, _ => .bad
@[reducible] def opt {α β : Type} (o : Option α) (f : α → Res β) : Res β :=
  match o with
  | some a => f a
  | none => .bad
/-- under a test -/
@[reducible] def chk {β : Type} (b : Bool) (r : Res β) : Res β := if b = true then r else .bad
def intD : D → Option Int
  | .int i => some i
  | _ => none
def refD : D → Option Nat
  | .ref n => some n
  | _ => none
def lstD : D → Hs → Option (List D)
  | .ref n, h => seqD (.ref n) h
  | .scr xs, _ => some (xs.map D.int)
  | _, _ => none
def dctD (d : D) (h : Hs) : Option (List (Key × D)) := (refD d).bind fun n => match h[n]? with
  | some (.dct kvs) => some kvs
  | _ => none
def lenD (d : D) (h : Hs) : Option Nat :=
  match seqD d h with
  | some xs => some xs.length
  | none => (dctD d h).map List.length
def oLen : OpN := one fun d h => opt (lenD d h) fun n => .ok (.int n) h
def oList : OpN := one fun d h => opt (seqD d h) fun xs => mk (.lst xs) h
def oTuple : OpN := one fun d h => opt (seqD d h) fun xs => .ok (.tup xs) h
def intsOf : List D → Option (List Int)
  | [] => some []
  | x :: r => (intD x).bind fun i => (intsOf r).map (i :: ·)
def oSum : OpN := one fun d h => opt (lstD d h) fun xs => opt (intsOf xs) fun ns => .ok (.int ns.sum) h
def toInt : D → Option Int
  | .int i => some i
  | .bl b => some (if b then 1 else 0)
  | _ => none
def oInt : OpN := one fun d h => opt (toInt d) fun i => .ok (.int i) h
def oAbs : OpN := one fun d h => opt (intD d) fun i => .ok (.int (if i < 0 then -i else i)) h
def oDivmod : OpN := two fun d e h => opt (intD d) fun i => opt (intD e) fun k => chk (decide (0 < k) && !Builtin.divisionGoesByPylong i k) (.ok (.tup [.int (i / k), .int (i % k)]) h)
/-- data that can be put in order -/
def alikeD (xs : List D) : Bool := (xs.all fun x => xs.all fun y => PySem.W.alike (py0 x) (py0 y)) && xs.all fun x => SeqAt.shaped (py0 x)
def D.tupNE : D → Bool
  | .tup (_ :: _) => true
  | _ => false
def D.plainS : D → Bool
  | .int _ => true
  | .str _ => true
  | .bl _ => true
  | _ => false
def sortable (xs : List D) : Bool := alikeD xs && (xs.all D.tupNE || xs.all D.plainS)
def leD (a b : D) : Bool := !PySem.W.dataLt (py0 b) (py0 a)
def oSorted : OpN := one fun d h => opt (seqD d h) fun xs => chk (sortable xs && decide (xs.length ≤ 100000)) (mk (.lst (sortT leD xs)) h)
def ltD (a b : D) : Bool := PySem.W.dataLt (py0 a) (py0 b)
def minDs (x : D) (xs : List D) : D := xs.foldl (fun a y => if ltD y a then y else a) x
def maxDs (x : D) (xs : List D) : D := xs.foldl (fun a y => if ltD a y then y else a) x
def consD : List D → Option (D × List D)
  | [] => none
  | x :: xs => some (x, xs)
def best1 (f : D → List D → D) : D → Hs → Res D := fun d h => opt (lstD d h) fun xs => opt (consD xs) fun p => chk (alikeD xs && xs.all fun d => !d.isNon) (.ok (f p.1 p.2) h)
def best2 (f : Int → Int → Int) : D → D → Hs → Res D := fun d e h => opt (intD d) fun i => opt (intD e) fun k => .ok (.int (f i k)) h
def oneTwo (f : D → Hs → Res D) (f2 : D → D → Hs → Res D) : OpN
  | [d], h => f d h
  | [d, e], h => f2 d e h
  | _, _ => .bad
def oMin : OpN := oneTwo (best1 minDs) (best2 fun i k => if k < i then k else i)
def oMax : OpN := oneTwo (best1 maxDs) (best2 fun i k => if k > i then k else i)
def tyN : D → Hs → Option String
  | .non, _ => some "NoneType"
  | .bl _, _ => some "bool"
  | .int _, _ => some "int"
  | .str _, _ => some "str"
  | .tup _, _ => some "tuple"
  | .scr _, _ => some "list"
  | .ref n, h => match h[n]? with
    | some (.lst _) => some "list"
    | some (.dct _) => some "dict"
    | none => none
  | _, _ => none
def kitAnyB (a : String) : List String → Option Bool
  | [] => some false
  | b :: r => match kitB a b with
    | some true => some true
    | some false => kitAnyB a r
    | none => none
def tysOf : List D → Option (List String)
  | [] => some []
  | .ty b :: r => (tysOf r).map (b :: ·)
  | _ => none
def isiB (a : String) : D → Option Bool
  | .ty b => kitB a b
  | .tup ts => (tysOf ts).bind (kitAnyB a)
  | _ => none
def oIsi : OpN := two fun d e h => opt (tyN d h) fun a => opt (isiB a e) fun r => .ok (.bl r) h

section
variable {g : G} {X : Cx} {l : L} {j : Nat} {ρ : List Addr} {H : Hp} {h : Hs} {Q : VK}
theorem isL1 {d : D} {xs : List V} (i : IsL g H ρ [d] xs) : ∃ v, xs = [v] ∧ Is g H ρ d v := by
  rw [IsL] at i
  obtain ⟨v, r, e, h1, h2⟩ := i
  rw [IsL] at h2
  exact ⟨v, by rw [e, h2], h1⟩
theorem isL2 {d e : D} {xs : List V} (i : IsL g H ρ [d, e] xs) : ∃ v u, xs = [v, u] ∧ Is g H ρ d v ∧ Is g H ρ e u := by
  rw [IsL] at i
  obtain ⟨v, r, e, h1, h2⟩ := i
  obtain ⟨u, e2, h3⟩ := isL1 h2
  exact ⟨v, u, by rw [e, e2], h1, h3⟩
theorem rDN.one {f : D → Hs → Res D} {xs : List V} (q : rDN g (one f) xs H Q) : ∃ v ρ h d, xs = [v] ∧ HR g ρ H h ∧ Is g H ρ d v ∧ PostE g (f d h) ρ H Q := by
  obtain ⟨ρ, h, ds, hr, i, p⟩ := q
  match ds, i, p with
  | [d], i, p => obtain ⟨v, e, i1⟩ := isL1 i; exact ⟨v, ρ, h, d, e, hr, i1, p⟩
  | [], _, p => exact p.elim
  | _ :: _ :: _, _, p => exact p.elim
theorem rDN.two {f : D → D → Hs → Res D} {xs : List V} (q : rDN g (two f) xs H Q) : ∃ v u ρ h d e, xs = [v, u] ∧ HR g ρ H h ∧ Is g H ρ d v ∧ Is g H ρ e u ∧ PostE g (f d e h) ρ H Q := by
  obtain ⟨ρ, h, ds, hr, i, p⟩ := q
  match ds, i, p with
  | [d, e], i, p => obtain ⟨v, u, e1, i1, i2⟩ := isL2 i; exact ⟨v, u, ρ, h, d, e, e1, hr, i1, i2, p⟩
  | [], _, p => exact p.elim
  | [_], _, p => exact p.elim
  | _ :: _ :: _ :: _, _, p => exact p.elim
theorem rDN.oneTwo {f : D → Hs → Res D} {f2 : D → D → Hs → Res D} {xs : List V} (q : rDN g (oneTwo f f2) xs H Q) : rDN g (PV.one f) xs H Q ∨ rDN g (PV.two f2) xs H Q := by
  obtain ⟨ρ, h, ds, hr, i, p⟩ := q
  match ds, i, p with
  | [d], i, p => exact .inl ⟨ρ, h, [d], hr, i, p⟩
  | [d, e], i, p => exact .inr ⟨ρ, h, [d, e], hr, i, p⟩
  | [], _, p => exact p.elim
  | _ :: _ :: _ :: _, _, p => exact p.elim
theorem Post.opt {α β γ : Type} {R : Hp → List Addr → α → β → Prop} {o : Option γ} {f : γ → Res α} {Q : β → Hp → Prop} (p : Post g R (opt o f) ρ H Q) : ∃ a, o = some a ∧ Post g R (f a) ρ H Q := by
  cases o with
  | some a => exact ⟨a, rfl, p⟩
  | none => exact p.elim
theorem Post.chk {α β : Type} {R : Hp → List Addr → α → β → Prop} {b : Bool} {r : Res α} {Q : β → Hp → Prop} (p : Post g R (chk b r) ρ H Q) : b = true ∧ Post g R r ρ H Q := Post.ite p
theorem intD_is {d : D} {i : Int} {v : V} (h : intD d = some i) (x : Is g H ρ d v) : v = .int i := by
  cases d with
  | int k => cases h; rw [Is] at x; exact x
  | _ => cases h
theorem seqLen {a : Addr} {vs : List V} (s : SqL g.K H a vs ∨ SqT g.K H a vs) : LenV g.K (.ref a) H vs.length := s.elim (fun z => .inl ⟨_, z, rfl⟩) fun z => .inr ⟨_, z, rfl⟩
theorem IsKV.length : ∀ {xs : List (Key × D)} {vs : List (Key × V)}, IsKV g H ρ xs vs → xs.length = vs.length
  | [], _, i => by rw [IsKV] at i; rw [i]; rfl
  | x :: xs, vs, i => by rw [IsKV] at i; obtain ⟨v, r, e, _, q⟩ := i; rw [e, List.length_cons, List.length_cons, IsKV.length q]
theorem dct_at (hr : HR g ρ H h) {d : D} {v : V} {kvs : List (Key × D)} (i : Is g H ρ d v) (t : dctD d h = some kvs) : ∃ n a vs, d = .ref n ∧ v = .ref a ∧ ρ[n]? = some a ∧ h[n]? = some (.dct kvs) ∧ H a = some (.dK vs) ∧ IsKV g H ρ kvs vs := by
  cases d with
  | ref n =>
    rw [Is] at i
    obtain ⟨a, h1, rfl⟩ := i
    have t : (match h[n]? with | some (.dct kvs) => some kvs | _ => none) = some kvs := t
    split at t
    · rename_i ys e
      cases t
      obtain ⟨vs, y1, y2⟩ := seq_of hr h1 e
      exact ⟨n, a, vs, rfl, rfl, h1, e, y1, y2⟩
    · cases t
  | _ => cases t
theorem oc_len (c : Ct g X l j) : CallR X (.builtin "len") (rDN g oLen) := by
  refine PV.CallR.imp (CallR.or call_len call_lenD) fun xs H Q q => ?_
  obtain ⟨v, ρ, h, d, rfl, hr, i1, p⟩ := rDN.one q
  obtain ⟨n, e, p⟩ := p.opt
  unfold lenD at e
  split at e
  · rename_i ys e1
    cases e
    obtain ⟨a, vs, rfl, h1, h2⟩ := seq_at hr i1 e1
    exact .inl ⟨_, vs.length, rfl, by rw [c.K]; exact seqLen h1, p.same hr (by rw [Is, h2.length])⟩
  · cases e1 : dctD d h with
    | none => rw [e1] at e; cases e
    | some kvs =>
      rw [e1] at e
      cases e
      obtain ⟨m, a, vs, _, rfl, _, _, y1, y2⟩ := dct_at hr i1 e1
      exact .inr ⟨a, vs, rfl, y1, p.same hr (by rw [Is, y2.length])⟩
theorem oc_list (c : Ct g X l j) : CallR X (.type "list") (rDN g oList) := by
  refine PV.CallR.imp call_list_of fun xs H Q q => ?_
  obtain ⟨v, ρ, h, d, rfl, hr, i1, p⟩ := rDN.one q
  obtain ⟨ys, e, p⟩ := p.opt
  obtain ⟨a, vs, rfl, h1, h2⟩ := seq_at hr i1 e
  exact ⟨a, vs, rfl, by rw [c.K]; exact h1, fun q hq => p.newL hr h2 hq⟩
theorem oc_tuple (c : Ct g X l j) : CallR X (.type "tuple") (rDN g oTuple) := by
  refine PV.CallR.imp call_tuple_of fun xs H Q q => ?_
  obtain ⟨v, ρ, h, d, rfl, hr, i1, p⟩ := rDN.one q
  obtain ⟨ys, e, p⟩ := p.opt
  obtain ⟨a, vs, rfl, h1, h2⟩ := seq_at hr i1 e
  refine ⟨a, vs, rfl, ?_⟩
  rw [c.K]
  rcases h1 with h1 | h1
  · exact .inl ⟨h1, fun q hq => p.newT hr h2 hq⟩
  · exact .inr ⟨h1, p.same hr (by rw [Is]; exact ⟨a, vs, rfl, h1, h2⟩)⟩
theorem intsOf_eq : ∀ {xs : List D} {ns : List Int}, intsOf xs = some ns → xs = ns.map D.int
  | [], ns, h => by cases h; rfl
  | x :: r, ns, h => by
    rw [intsOf] at h
    cases x with
    | int i =>
      cases q : intsOf r with
      | none => rw [q] at h; cases h
      | some ms => rw [q] at h; cases h; rw [intsOf_eq q]; rfl
    | _ => cases h
/-- the list at a reference -/
theorem lst_at (hr : HR g ρ H h) {d : D} {v : V} {xs : List D} (i : Is g H ρ d v) (t : lstD d h = some xs) : ∃ a vs, v = .ref a ∧ SqL g.K H a vs ∧ IsL g H ρ xs vs := by
  cases d with
  | ref n =>
    rw [Is] at i
    obtain ⟨a, h1, rfl⟩ := i
    have t : seqD (.ref n) h = some xs := t
    rw [seqD] at t
    split at t
    · rename_i ys e
      cases t
      obtain ⟨vs, y1, y2⟩ := seqL_of hr h1 e
      exact ⟨a, vs, rfl, SqL.of y1, y2⟩
    · cases t
  | scr ys =>
    rw [Is] at i
    obtain ⟨rfl, rfl⟩ := i
    cases t
    exact ⟨g.sc, _, rfl, hr.scr.seqL, IsL.ints⟩
  | _ => cases t
theorem oc_sum (c : Ct g X l j) : CallR X (.builtin "sum") (rDN g oSum) := by
  refine PV.CallR.imp (cr_sum c.calm) fun xs H Q q => ?_
  obtain ⟨v, ρ, h, d, rfl, hr, i1, p⟩ := rDN.one q
  obtain ⟨ys, e, p1⟩ := p.opt
  obtain ⟨ns, e2, p2⟩ := p1.opt
  obtain ⟨a, vs, rfl, h1, h2⟩ := lst_at hr i1 e
  have e3 := intsOf_eq e2
  subst e3
  have e4 := h2.ints_eq
  subst e4
  exact ⟨a, ns, rfl, by rw [c.K]; exact h1, p2.same hr (by rw [Is])⟩
theorem oc_int : CallR X (.type "int") (rDN g oInt) := by
  refine PV.CallR.imp call_int1 fun xs H Q q => ?_
  obtain ⟨v, ρ, h, d, rfl, hr, i1, p⟩ := rDN.one q
  obtain ⟨k, e, p1⟩ := p.opt
  cases d with
  | int i => cases e; rw [Is] at i1; subst i1; exact .inl ⟨_, rfl, p1.same hr (by rw [Is])⟩
  | bl b => cases e; rw [Is] at i1; subst i1; exact .inr ⟨b, rfl, p1.same hr (by rw [Is])⟩
  | _ => cases e
theorem oc_abs : CallR X (.builtin "abs") (rDN g oAbs) := by
  refine PV.CallR.imp call_abs fun xs H Q q => ?_
  obtain ⟨v, ρ, h, d, rfl, hr, i1, p⟩ := rDN.one q
  obtain ⟨k, e, p⟩ := p.opt
  have := intD_is e i1
  subst this
  exact ⟨k, rfl, p.same hr (by rw [Is])⟩
theorem oc_divmod : CallR X (.builtin "divmod") (rDN g oDivmod) := by
  refine PV.CallR.imp call_divmodW fun xs H Q q => ?_
  obtain ⟨v, u, ρ, h, d, e, rfl, hr, i1, i2, p⟩ := rDN.two q
  obtain ⟨i, e1, p⟩ := p.opt
  obtain ⟨k, e2, p⟩ := p.opt
  obtain ⟨hb, p⟩ := p.chk
  have := intD_is e1 i1
  subst this
  have := intD_is e2 i2
  subst this
  simp only [Bool.and_eq_true, decide_eq_true_eq, Bool.not_eq_true'] at hb
  exact ⟨i, k, rfl, hb, fun q hq => p.newT (vs := [.int (i / k), .int (i % k)]) hr (IsL.cons (by rw [Is]) (IsL.cons (by rw [Is]) IsL.nil)) hq⟩

/-! ### isinstance -/
theorem tyN_of (hr : HR g ρ H h) {d : D} {v : V} {a : String} (i : Is g H ρ d v) (t : tyN d h = some a) : TyX g.K H v (.type a) := by
  cases d with
  | non => cases t; rw [Is] at i; subst i; exact .base .non
  | bl b => cases t; rw [Is] at i; subst i; exact .base (.bl b)
  | int b => cases t; rw [Is] at i; subst i; exact .base (.int b)
  | str b => cases t; rw [Is] at i; subst i; exact .base (.str b)
  | tup xs =>
    cases t
    rw [Is] at i
    obtain ⟨b, vs, rfl, h1, _⟩ := i
    rcases h1 with (h1 | ⟨o, h1⟩) | ⟨o, its, n, k1, k2, _⟩
    · exact .base (.tup h1)
    · exact .fTuple h1
    · exact .kTuple k1 k2
  | ref n =>
    rw [Is] at i
    obtain ⟨b, h1, rfl⟩ := i
    rw [tyN] at t
    split at t
    · rename_i ys e
      cases t
      obtain ⟨vs, y1, y2⟩ := seqL_of hr h1 e
      exact .base (.lst y1)
    · rename_i ys e
      cases t
      obtain ⟨vs, y1, y2⟩ := seq_of hr h1 e
      exact .base (.dK y1)
    · cases t
  | scr ys =>
    cases t
    rw [Is] at i
    obtain ⟨rfl, rfl⟩ := i
    rcases hr.scr with ⟨o, its, n, k1, k2, _⟩ | ⟨_, u, e, z | ⟨w, z⟩⟩
    · exact .kList k1 k2
    · subst z; exact .base (.lst e)
    · subst z; exact .base (.frz e)
  | fn x => cases t
  | ty x => cases t
theorem kitAny_of {K : PySem.W.Frag} {a : String} : ∀ {ts : List String} {r : Bool}, kitAnyB a ts = some r → PySem.W.kitAny K (.type a) (ts.map Value.type) = some r
  | [], r, e => by cases e; rfl
  | b :: ts, r, e => by
    rw [kitAnyB] at e
    cases q : kitB a b with
    | none => rw [q] at e; cases e
    | some k =>
      rw [q] at e
      cases k with
      | true => cases e; exact kitAny_cons (kit_ty q) (fun z => by cases z) fun _ => rfl
      | false => exact kitAny_cons (kit_ty q) (fun _ => kitAny_of e) fun z => by cases z
theorem tys_is : ∀ {ts : List D} {bs : List String} {vs : List V}, tysOf ts = some bs → IsL g H ρ ts vs → Paired ClsV vs (bs.map Value.type)
  | [], bs, vs, e, i => by cases e; rw [IsL] at i; subst i; exact .nil
  | .ty b :: r, bs, vs, e, i => by
    rw [tysOf] at e
    cases q : tysOf r with
    | none => rw [q] at e; cases e
    | some cs =>
      rw [q] at e
      cases e
      rw [IsL] at i
      obtain ⟨v, u, e1, h1, h2⟩ := i
      rw [Is] at h1
      subst e1
      subst h1
      exact .cons (.ty b) (tys_is q h2)
  | .non :: _, _, _, e, _ => by cases e
  | .bl _ :: _, _, _, e, _ => by cases e
  | .int _ :: _, _, _, e, _ => by cases e
  | .str _ :: _, _, _, e, _ => by cases e
  | .tup _ :: _, _, _, e, _ => by cases e
  | .ref _ :: _, _, _, e, _ => by cases e
  | .fn _ :: _, _, _, e, _ => by cases e
/-- isinstance with a tuple of types, wherever that stands -/
theorem call_isiA {X : Cx} : CallR X (.builtin "isinstance") (fun xs H Q => ∃ (x : V) (tp : Addr) (cs : List V) (t : Value) (us : List Value) (b : Bool), xs = [x, .ref tp] ∧ SqT X.K H tp cs ∧ Paired ClsV cs us ∧ TyX X.K H x t ∧ PySem.W.kitAny X.K t us = some b ∧ Q (.bl b) H) := by
  intro pins s σ H xs us Q I r h
  obtain ⟨x, tp, cs, t, ws, b, rfl, hT, k, ty, e, q⟩ := h
  obtain ⟨u1, u2, rfl, r1, r2⟩ := vals2 r
  cases (show u2 = Value.ref tp from r2)
  obtain ⟨P, Z, p, hx⟩ := kit_of I r1 ty
  obtain ⟨its, rv, ⟨o, h1, h2, n, h3⟩, _⟩ := I.tuple hT
  have e3 := ClsV.all k rv
  subst e3
  obtain ⟨oc, od, dt, sl⟩ := o
  simp only at h2 h3
  subst h2 h3
  exact PySem.W.kia_tup Z I.kIn p h1 e hx fun tk => ⟨.bl b, H, I.tok tk, rfl, q⟩
theorem oc_isi (c : Ct g X l j) : CallR X (.builtin "isinstance") (rDN g oIsi) := by
  refine PV.CallR.imp (CallR.or call_isi call_isiA) fun xs H Q q => ?_
  obtain ⟨v, u, ρ, h, d, e, rfl, hr, i1, i2, p⟩ := rDN.two q
  obtain ⟨a, e1, p1⟩ := p.opt
  obtain ⟨r, e2, p2⟩ := p1.opt
  have t1 := tyN_of hr i1 e1
  rw [c.K]
  cases e with
  | ty b =>
    rw [Is] at i2
    subst i2
    exact .inl ⟨v, _, _, _, r, rfl, .ty b, t1, kit_ty e2, p2.same hr (by rw [Is])⟩
  | tup ts =>
    rw [Is] at i2
    obtain ⟨tp, vs, rfl, h1, h2⟩ := i2
    have e2 : (tysOf ts).bind (kitAnyB a) = some r := e2
    cases q2 : tysOf ts with
    | none => rw [q2] at e2; cases e2
    | some bs =>
      rw [q2] at e2
      exact .inr ⟨v, tp, vs, _, _, r, rfl, h1, tys_is q2 h2, t1, kitAny_of e2, p2.same hr (by rw [Is])⟩
  | _ => cases e2

/-! ### sorted, min, max -/
theorem pyWL_map (f : Nat → PyData) (xs : List D) : pyWL f xs = xs.map (pyW f) := by
  induction xs with
  | nil => rw [pyWL]; rfl
  | cons x r ih => rw [pyWL, ih]; rfl
theorem all_reads {s : Shared} {pins : List (Addr × Obj)} {σ : L2.St} (I : Inv X pins σ H s) (hK : X.K = g.K) : ∀ (ds : List D) (vs : List V) (its : List Value), IsL g H ρ ds vs → Vals vs its → (∀ d ∈ ds, SeqAt.shaped (py0 d) = true) →
    EachIs (fun (v : Value) (p : V × D) => RelV p.1 v) its (vs.zip ds) ∧ EachIs (fun (v : Value) (p : V × D) => ∃ as, Reads s.heap v (py0 p.2) as) its (vs.zip ds)
  | [], vs, its, i, r, _ => by rw [IsL] at i; subst i; cases r; exact ⟨.nil, .nil⟩
  | d :: ds, vs, its, i, r, hs => by
    rw [IsL] at i
    obtain ⟨v, w, e, h1, h2⟩ := i
    subst e
    cases r with
    | cons r1 r2 =>
      obtain ⟨a, b⟩ := all_reads I hK ds w _ h2 r2 fun d hd => hs d (List.mem_cons_of_mem _ hd)
      refine ⟨.cons r1 a, .cons ?_ b⟩
      exact Dp.reads I _ v _ (by rw [hK]; exact dp0 h1 (SeqAt.canLay_of_shaped (hs d List.mem_cons_self))) r1
theorem each_vals {out : List Value} {ps : List (V × D)} (e : EachIs (fun (v : Value) (p : V × D) => RelV p.1 v) out ps) : Vals (ps.map (·.1)) out := by
  induction e with
  | nil => exact .nil
  | cons h _ ih => exact .cons h ih
theorem isL_zip : ∀ {ds : List D} {vs : List V}, IsL g H ρ ds vs → ∀ ps : List (V × D), (∀ p ∈ ps, p ∈ vs.zip ds) → IsL g H ρ (ps.map (·.2)) (ps.map (·.1)) := fun {ds vs} i ps hp => by
  have one : ∀ p ∈ vs.zip ds, Is g H ρ p.2 p.1 := by
    clear hp
    intro p hp
    obtain ⟨k, hk⟩ := List.mem_iff_getElem?.mp hp
    rw [List.getElem?_zip_eq_some] at hk
    obtain ⟨d, h1, h2⟩ := i.get' hk.1
    rw [hk.2] at h1
    cases h1
    exact h2
  induction ps with
  | nil => exact IsL.nil
  | cons p r ih => exact IsL.cons (one p (hp p List.mem_cons_self)) (ih fun q hq => hp q (List.mem_cons_of_mem _ hq))
theorem zip_snd {vs : List V} {ds : List D} (h : ds.length = vs.length) : (vs.zip ds).map (·.2) = ds := by
  exact List.map_snd_zip (by omega)
theorem alikeD_shaped {xs : List D} (h : alikeD xs = true) : ∀ d ∈ xs, SeqAt.shaped (py0 d) = true := by
  unfold alikeD at h
  rw [Bool.and_eq_true] at h
  exact List.all_eq_true.mp h.2
theorem alikeD_alike {xs : List D} (h : alikeD xs = true) : ∀ d ∈ xs, ∀ e ∈ xs, PySem.W.alike (py0 d) (py0 e) = true := by
  unfold alikeD at h
  rw [Bool.and_eq_true] at h
  exact fun d hd e he => List.all_eq_true.mp (List.all_eq_true.mp h.1 d hd) e he
theorem sortable_is {xs : List D} {vs : List V} (hl : xs.length = vs.length) (h : sortable xs = true) : PySem.W.AllAlike ((vs.zip xs).map fun p => py0 p.2) ∧ PySem.W.Sortable ((vs.zip xs).map fun p => py0 p.2) := by
  unfold sortable at h
  rw [Bool.and_eq_true, Bool.or_eq_true] at h
  have hm : ∀ p ∈ vs.zip xs, p.2 ∈ xs := fun p hp => (List.of_mem_zip (a := p.1) (b := p.2) hp).2
  refine ⟨fun d hd e he => ?_, ?_⟩
  · obtain ⟨p, hp, rfl⟩ := List.mem_map.mp hd
    obtain ⟨q, hq, rfl⟩ := List.mem_map.mp he
    exact alikeD_alike h.1 _ (hm p hp) _ (hm q hq)
  · rcases h.2 with z | z
    · refine .inl fun d hd => ?_
      obtain ⟨p, hp, rfl⟩ := List.mem_map.mp hd
      have := List.all_eq_true.mp z _ (hm p hp)
      cases q : p.2 with
      | tup ys =>
        rw [q] at this
        cases ys with
        | nil => cases this
        | cons y r => exact ⟨py0 y, r.map py0, by show PyData.tuple (pyWL _ (y :: r)) = _; rw [pyWL_map]; rfl⟩
      | _ => rw [q] at this; cases this
    · refine .inr fun d hd => ?_
      obtain ⟨p, hp, rfl⟩ := List.mem_map.mp hd
      have := List.all_eq_true.mp z _ (hm p hp)
      cases q : p.2 with
      | int i => exact ⟨fun e => (nomatch (show PyData.int i = .none from e)), fun xs e => (nomatch (show PyData.int i = .tuple xs from e))⟩
      | str i => exact ⟨fun e => (nomatch (show PyData.str i = .none from e)), fun xs e => (nomatch (show PyData.str i = .tuple xs from e))⟩
      | bl i => exact ⟨fun e => (nomatch (show PyData.bool i = .none from e)), fun xs e => (nomatch (show PyData.bool i = .tuple xs from e))⟩
      | _ => rw [q] at this; cases this
theorem oc_sorted (c : Ct g X l j) : CallR X (.builtin "sorted") (rDN g oSorted) := by
  intro pins s σ H xs us Q I r q
  obtain ⟨v, ρ, h, d, rfl, hr, i1, p⟩ := rDN.one q
  obtain ⟨ys, e, p1⟩ := p.opt
  obtain ⟨hb, p2⟩ := p1.chk
  rw [Bool.and_eq_true, decide_eq_true_eq] at hb
  obtain ⟨hb, hz⟩ := hb
  have hsh : ∀ d ∈ ys, SeqAt.shaped (py0 d) = true := alikeD_shaped (by unfold sortable at hb; rw [Bool.and_eq_true] at hb; exact hb.1)
  obtain ⟨al, so⟩ := sortable_is (vs := ys.map fun _ => V.non) (by rw [List.length_map]) hb
  rw [sortT_eq] at p2
  have fin : ∀ (vs : List V) (its : List Value), IsL g H ρ ys vs → Vals vs its → (∃ out0 : Unit, True) → ∀ out : List Value, EachIs (fun (v : Value) (p : V × D) => RelV p.1 v) out ((vs.zip ys).mergeSort (PySem.W.dataLe false fun p : V × D => py0 p.2)) →
      EP X pins σ Q (.ref (s.heap.objs.size + 1)) { s with heap := PyProof.Rows.sortedAll s.heap its (List.toArray out) } := fun vs its h2 rv _ out eo => by
    have len := h2.length
    have hlz : (vs.zip ys).length = ys.length := by rw [List.length_zip, len, Nat.min_self]
    have eS : ((vs.zip ys).mergeSort (PySem.W.dataLe false fun p : V × D => py0 p.2)).map (·.2) = ys.mergeSort leD := by
      have := PySem.W.sort_maps (r := PySem.W.dataLe false fun p : V × D => py0 p.2) (s := leD) (fun p : V × D => p.2) (l := vs.zip ys) (fun _ _ _ _ => rfl)
      rw [this, zip_snd len]
    have hP : ((vs.zip ys).mergeSort (PySem.W.dataLe false fun p : V × D => py0 p.2)).Perm (vs.zip ys) := List.mergeSort_perm _ _
    have hi := isL_zip h2 _ fun p hp => hP.mem_iff.mp hp
    rw [eS] at hi
    obtain ⟨ep, he'⟩ := PyProof.Rows.sortedAll_at s.heap its out.toArray
    have hf : H (s.heap.objs.size + 1) = none := I.hok.fresh (Nat.le_succ _)
    refine ⟨.ref _, upd H (s.heap.objs.size + 1) (.lst (((vs.zip ys).mergeSort (PySem.W.dataLe false fun p : V × D => py0 p.2)).map (·.1))), I.laid (t' := s.toks) (fun _ _ => PyProof.Rows.sortedAll_old) (Nat.le_succ _) ⟨?_, out, ep, each_vals eo, he'⟩, rfl, p2.newL hr hi hf⟩
    rw [List.length_map, hP.length_eq, hlz]
    exact line_of hz
  have u64 := c.u64
  have bnd : ∀ vs : List V, ∀ p ∈ vs.zip ys, X.A.units + 2 + (py0 p.2).depth < cLine := fun vs p hp => by
    have := SeqAt.depth_of_shaped (hsh p.2 (List.of_mem_zip (a := p.1) (b := p.2) hp).2)
    have u64' := c.room.un
    omega
  have lst : (e' : lstD d h = some ys) → wpAny (model X.prog X.w) X.A (call (.builtin "sorted") us) (EP X pins σ Q) X.xe s := fun e' => by
    obtain ⟨a, vs, rfl, h1, h2⟩ := lst_at hr i1 e'
    obtain ⟨its, rv, hl, hz2⟩ := I.list (by rw [c.K]; exact h1)
    rw [Vals.ref1 r]
    have len := h2.length
    have hlz : (vs.zip ys).length = ys.length := by rw [List.length_zip, len, Nat.min_self]
    obtain ⟨e1, e2⟩ := all_reads I c.K ys vs its h2 rv hsh
    obtain ⟨al, so⟩ := sortable_is len hb
    exact PySem.W.sorted_data (R := fun (v : Value) (p : V × D) => RelV p.1 v) (enc := fun p : V × D => py0 p.2) hl.isList e1 e2 al so (by rw [hlz]; exact line_of hz) (bnd vs) fun out ho eo => fin vs its h2 rv ⟨(), trivial⟩ out eo
  cases d with
  | tup xs =>
    cases e
    rw [Is] at i1
    obtain ⟨b, vs, rfl, y1, h2⟩ := i1
    obtain ⟨its, rv, hl, hz2⟩ := I.tuple (by rw [c.K]; exact y1)
    rw [Vals.ref1 r]
    have len := h2.length
    have hlz : (vs.zip ys).length = ys.length := by rw [List.length_zip, len, Nat.min_self]
    obtain ⟨e1, e2⟩ := all_reads I c.K ys vs its h2 rv hsh
    obtain ⟨al, so⟩ := sortable_is len hb
    exact SortT.sorted_dataT (R := fun (v : Value) (p : V × D) => RelV p.1 v) (enc := fun p : V × D => py0 p.2) hl e1 e2 al so (by rw [hlz]; exact line_of hz) (bnd vs) fun out ho eo => fin vs its h2 rv ⟨(), trivial⟩ out eo
  | ref n => exact lst e
  | scr ns => exact lst e
  | _ => cases e
mutual
theorem py0_inj : ∀ (a b : D), (py0 a).canLay0 = true → py0 a = py0 b → a = b
  | .non, b, _, e => by cases b <;> first | rfl | exact nomatch (show PyData.none = _ from e)
  | .bl x, b, _, e => by cases b <;> first | (cases (show PyData.bool x = PyData.bool _ from e); rfl) | exact nomatch (show PyData.bool x = _ from e)
  | .int x, b, _, e => by cases b <;> first | (cases (show PyData.int x = PyData.int _ from e); rfl) | exact nomatch (show PyData.int x = _ from e)
  | .str x, b, _, e => by cases b <;> first | (cases (show PyData.str x = PyData.str _ from e); rfl) | exact nomatch (show PyData.str x = _ from e)
  | .tup xs, b, c, e => by
    cases b with
    | tup ys =>
      have e' : PyData.tuple (pyWL (fun _ => .dict []) xs) = PyData.tuple (pyWL (fun _ => .dict []) ys) := e
      rw [py0L_inj xs ys (by have c' : (PyData.tuple (pyWL (fun _ => .dict []) xs)).canLay0 = true := c; rw [PyData.canLay0] at c'; exact c') (PyData.tuple.inj e')]
    | non => exact nomatch (show PyData.tuple _ = PyData.none from e)
    | bl y => exact nomatch (show PyData.tuple _ = PyData.bool y from e)
    | int y => exact nomatch (show PyData.tuple _ = PyData.int y from e)
    | str y => exact nomatch (show PyData.tuple _ = PyData.str y from e)
    | ref y => exact nomatch (show PyData.tuple _ = PyData.dict [] from e)
    | fn y => exact nomatch (show PyData.tuple _ = PyData.dict [] from e)
    | ty y => exact nomatch (show PyData.tuple _ = PyData.dict [] from e)
    | scr y => exact nomatch (show PyData.tuple _ = PyData.dict [] from e)
  | .ref _, _, c, _ => by have c' : (PyData.dict []).canLay0 = true := c; rw [PyData.canLay0] at c'; cases c'
  | .fn _, _, c, _ => by have c' : (PyData.dict []).canLay0 = true := c; rw [PyData.canLay0] at c'; cases c'
  | .ty _, _, c, _ => by have c' : (PyData.dict []).canLay0 = true := c; rw [PyData.canLay0] at c'; cases c'
  | .scr _, _, c, _ => by have c' : (PyData.dict []).canLay0 = true := c; rw [PyData.canLay0] at c'; cases c'
theorem py0L_inj : ∀ (a b : List D), PyData.canLayAll0 (pyWL (fun _ => .dict []) a) = true → pyWL (fun _ => .dict []) a = pyWL (fun _ => .dict []) b → a = b
  | [], [], _, _ => rfl
  | [], _ :: _, _, e => by rw [pyWL, pyWL] at e; cases e
  | _ :: _, [], _, e => by rw [pyWL, pyWL] at e; cases e
  | x :: xs, y :: ys, c, e => by
    rw [pyWL, pyWL] at e
    rw [pyWL, PyData.canLayAll0, Bool.and_eq_true] at c
    injection e with e1 e2
    rw [py0_inj x y c.1 e1, py0L_inj xs ys c.2 e2]
end
theorem foldD (f : PyData → PyData → Bool) (fd : D → D → Bool) (hf : ∀ a b, fd a b = f (py0 a) (py0 b)) : ∀ (xs : List D) (x : D),
    (xs.map py0).foldl (fun a y => if f a y then y else a) (py0 x) = py0 (xs.foldl (fun a y => if fd a y then y else a) x) ∧ (xs.foldl (fun a y => if fd a y then y else a) x) ∈ x :: xs
  | [], x => ⟨rfl, by simp⟩
  | y :: ys, x => by
    rw [List.map_cons, List.foldl_cons, List.foldl_cons, ← hf]
    by_cases h : fd x y = true
    · rw [if_pos h, if_pos h]
      obtain ⟨a, b⟩ := foldD f fd hf ys y
      exact ⟨a, List.mem_cons_of_mem _ b⟩
    · rw [if_neg h, if_neg h]
      obtain ⟨a, b⟩ := foldD f fd hf ys x
      refine ⟨a, ?_⟩
      rcases List.mem_cons.mp b with z | z
      · rw [z]; simp
      · exact List.mem_cons_of_mem _ (List.mem_cons_of_mem _ z)
theorem depthAll_of {xs : List D} (h : ∀ d ∈ xs, SeqAt.shaped (py0 d) = true) : PyData.depthAll (xs.map py0) ≤ 64 := by
  induction xs with
  | nil => simp [PyData.depthAll]
  | cons x r ih =>
    rw [List.map_cons, PyData.depthAll]
    have := SeqAt.depth_of_shaped (h x List.mem_cons_self)
    have := ih fun d hd => h d (List.mem_cons_of_mem _ hd)
    omega
/-- the best of a list: by the library's rule for it -/
theorem best_of {id : String} {fD : PyData → List PyData → PyData} {fd : D → D → Bool} {f : PyData → PyData → Bool} (hf : ∀ a b, fd a b = f (py0 a) (py0 b)) (hD : ∀ x xs, fD x xs = xs.foldl (fun a y => if f a y then y else a) x)
    (rule : ∀ {A : Around} {E : Value → Shared → Prop} {s : Shared} {l : Addr} {vs : Array Value} {x : PyData} {xs : List PyData} {as : List Addr} {Q : Value → Shared → Prop}, A.handled = none → s.heap.IsList l vs → ReadsAll s.heap vs.toList (x :: xs) as → PySem.W.AlikeAll (x :: xs) → A.units + 1 + PyData.depthAll (x :: xs) < cLine →
      (∀ (i : Nat) v h' tk bs, vs[i]? = some v → Reads h' v (fD x xs) bs → (∀ b o, s.heap.get? b = some o → h'.get? b = some o) → Q v { s with heap := h', toks := tk }) → wpAny (model X.prog X.w) A (call (.builtin id) [.ref l]) Q E s)
    (c : Ct g X l j) : CallR X (.builtin id) (rDN g (one (best1 fun x xs => xs.foldl (fun a y => if fd a y then y else a) x))) := by
  intro pins s σ H xs us Q I r q
  obtain ⟨v, ρ, h, d, rfl, hr, i1, p⟩ := rDN.one q
  obtain ⟨ys, e, p1⟩ := p.opt
  obtain ⟨⟨y, r0⟩, e1, p2⟩ := p1.opt
  obtain ⟨hb, p3⟩ := p2.chk
  rw [Bool.and_eq_true] at hb
  obtain ⟨hb, hn⟩ := hb
  obtain ⟨a, vs, rfl, h1, h2⟩ := lst_at hr i1 e
  obtain ⟨its, rv, hl, hz2⟩ := I.list (by rw [c.K]; exact h1)
  rw [Vals.ref1 r]
  have len := h2.length
  have hsh := alikeD_shaped hb
  obtain ⟨e2, e3⟩ := all_reads I c.K ys vs its h2 rv hsh
  have ey : ys = y :: r0 := by
    cases ys with
    | nil => cases e1
    | cons _ _ => cases e1; rfl
  obtain ⟨as, hR⟩ := PySem.W.each_readsAll (fun p : V × D => py0 p.2) e3
  have em : (vs.zip ys).map (fun p : V × D => py0 p.2) = ys.map py0 := by
    have := congrArg (List.map py0) (zip_snd len)
    rw [List.map_map] at this
    exact this
  rw [em, ey, List.map_cons] at hR
  refine rule (I.ok.hd c.calm) hl.isList (by simpa using hR) ⟨fun d hd d' hd' => ?_, fun d hd z => ?_⟩ ?_ fun i v h' tk bs hv hrd kp => ?_
  · rw [← List.map_cons, ← ey] at hd hd'
    obtain ⟨x1, m1, rfl⟩ := List.mem_map.mp hd
    obtain ⟨x2, m2, rfl⟩ := List.mem_map.mp hd'
    exact alikeD_alike hb _ m1 _ m2
  · rw [← List.map_cons, ← ey] at hd
    obtain ⟨x1, m1, rfl⟩ := List.mem_map.mp hd
    have := List.all_eq_true.mp hn _ m1
    cases x1 with
    | non => cases this
    | ref n => exact nomatch (show PyData.dict [] = .none from z)
    | bl b => exact nomatch (show PyData.bool b = .none from z)
    | int b => exact nomatch (show PyData.int b = .none from z)
    | str b => exact nomatch (show PyData.str b = .none from z)
    | tup b => exact nomatch (show PyData.tuple _ = .none from z)
    | fn b => exact nomatch (show PyData.dict [] = .none from z)
    | ty b => exact nomatch (show PyData.dict [] = .none from z)
    | scr b => exact nomatch (show PyData.dict [] = .none from z)
  · have := depthAll_of hsh
    rw [ey, List.map_cons] at this
    have u := c.room.un
    omega
  · rw [hD] at hrd
    obtain ⟨f1, f2⟩ := foldD f fd hf r0 y
    rw [f1] at hrd
    have hv2 : its[i]? = some v := by simpa using hv
    obtain ⟨hi, ei⟩ := List.getElem?_eq_some_iff.mp hv2
    have hi2 : i < vs.length := by rw [rv.length]; exact hi
    obtain ⟨w', ew, rw'⟩ := rv.get (List.getElem?_eq_getElem hi2)
    rw [hv2] at ew
    cases ew
    obtain ⟨di, hdi, ii⟩ := h2.get' (List.getElem?_eq_getElem hi2)
    have mdi := List.mem_of_getElem? hdi
    have cl := SeqAt.canLay_of_shaped (hsh di mdi)
    obtain ⟨as2, rd2⟩ := Dp.reads I _ _ _ (by rw [c.K]; exact dp0 ii cl) rw'
    have eq : di = (r0.foldl (fun a y => if fd a y then y else a) y) := by
      refine py0_inj _ _ cl ?_
      exact PySem.W.alike_unique _ _ _ _ _ (alikeD_alike hb _ mdi _ (by rw [ey]; exact f2)) (PyProof.Rows.Reads.keeps kp rd2) hrd
    have I1 : Inv X pins σ H { s with heap := h', toks := tk } := I.kept kp
    refine ⟨_, H, I1, rw', ?_⟩
    rw [eq] at ii
    exact p3.same hr ii
theorem oc_min (c : Ct g X l j) : CallR X (.builtin "min") (rDN g oMin) := by
  have b : CallR X (.builtin "min") (rDN g (one (best1 minDs))) := best_of (fD := PySem.W.minD) (fd := fun a y => ltD y a) (f := fun a y => PySem.W.dataLt y a) (fun _ _ => rfl) (fun _ _ => rfl) (fun h1 h2 h3 h4 h5 h6 => PySem.W.min_list_data h1 h2 h3 h4 h5 h6) c
  refine PV.CallR.imp (CallR.or b (call_min2 c.calm)) fun xs H Q q => ?_
  rcases rDN.oneTwo q with q | q
  · exact .inl q
  · obtain ⟨v, u, ρ, h, d, e, rfl, hr, i1, i2, p⟩ := rDN.two q
    obtain ⟨i, e1, p1⟩ := p.opt
    obtain ⟨k, e2, p2⟩ := p1.opt
    have := intD_is e1 i1
    subst this
    have := intD_is e2 i2
    subst this
    exact .inr ⟨i, k, rfl, p2.same hr (by rw [Is])⟩
theorem oc_max (c : Ct g X l j) : CallR X (.builtin "max") (rDN g oMax) := by
  have b : CallR X (.builtin "max") (rDN g (one (best1 maxDs))) := best_of (fD := PySem.W.maxD) (fd := fun a y => ltD a y) (f := fun a y => PySem.W.dataLt a y) (fun _ _ => rfl) (fun _ _ => rfl) (fun h1 h2 h3 h4 h5 h6 => PySem.W.max_list_data h1 h2 h3 h4 h5 h6) c
  refine PV.CallR.imp (CallR.or b (call_max2 c.calm)) fun xs H Q q => ?_
  rcases rDN.oneTwo q with q | q
  · exact .inl q
  · obtain ⟨v, u, ρ, h, d, e, rfl, hr, i1, i2, p⟩ := rDN.two q
    obtain ⟨i, e1, p1⟩ := p.opt
    obtain ⟨k, e2, p2⟩ := p1.opt
    have := intD_is e1 i1
    subst this
    have := intD_is e2 i2
    subst this
    exact .inr ⟨i, k, rfl, p2.same hr (by rw [Is])⟩
end
end PV
end

section
set_option Elab.async false
set_option linter.all false
set_option maxRecDepth 100000
set_option maxHeartbeats 4000000
/-! V5: subscripts, in, slices, stores. -/
namespace PV
open PySem PySem.Spec PyProof.Rows L2 GX GxR PG C8
open PySem.W (EachIs)

def keyD : D → Option Key
  | .int i => some (.inl i)
  | .str s => some (.inr s)
  | _ => none
def getK (kvs : List (Key × D)) (k : Key) : Option D := (kvs.find? fun kv => decide (kv.1 = k)).map (·.2)
def putD (kvs : List (Key × D)) (k : Key) (v : D) : List (Key × D) := if (kvs.any fun kv => decide (kv.1 = k)) then kvs.map fun kv => if kv.1 = k then (kv.1, v) else kv else kvs ++ [(k, v)]
/-- o[i] -/
def gIx : Op2 := fun d e h =>
  match dctD d h with
  | some kvs => opt (keyD e) fun k => opt (getK kvs k) fun v => .ok v h
  | none => opt (seqD d h) fun xs => opt (intD e) fun i => opt (atI xs i) fun v => .ok v h
def D.flat : D → Bool
  | .non => true
  | .bl _ => true
  | .int _ => true
  | .str _ => true
  | _ => false
def eqD (x y : D) : Bool := PyData.eqv (py0 x) (py0 y)
def D.isRef : D → Bool
  | .ref _ => true
  | _ => false
/-- x in c -/
def inD (d e : D) (h : Hs) : Option Bool :=
  match dctD e h with
  | some kvs => (keyD d).map fun k => (getK kvs k).isSome
  | none => (seqD e h).bind fun xs =>
    if (d.flat && xs.all D.flat) || (e.isRef && SeqAt.shaped (py0 d) && SeqAt.shaped (.list (xs.map py0))) then some (xs.any fun y => eqD y d) else none
def gIn : Op2 := fun d e h => opt (inD d e h) fun b => .ok (.bl b) h
def gNotIn : Op2 := fun d e h => opt (inD d e h) fun b => .ok (.bl (!b)) h
def cutD (xs : List D) (lo hi : Option Int) : List D := (xs.drop (HT.sIx xs.length 0 lo)).take (HT.sIx xs.length xs.length hi - HT.sIx xs.length 0 lo)
/-- o[lo:hi] -/
def slD (d : D) (lo hi : Option Int) (h : Hs) : Res D := opt (seqD d h) fun xs =>
  match d with
  | .tup _ => .ok (.tup (cutD xs lo hi)) h
  | _ => mk (.lst (cutD xs lo hi)) h
/-- o[i] = v -/
def setD (d e v : D) (h : Hs) : Option Hs := (refD d).bind fun n => h[n]?.bind fun o =>
  match o with
  | .lst xs => (intD e).bind fun i => (ixN xs.length i).map fun j => h.set n (.lst (xs.set j v))
  | .dct kvs => (keyD e).bind fun k => if decide (kvs.length < 100000) then some (h.set n (.dct (putD kvs k v))) else none

section
variable {g : G} {X : Cx} {l : L} {j : Nat} {ρ : List Addr} {H : Hp} {h : Hs} {Q : VK}
theorem key_is {d : D} {v : V} {k : Key} (e : keyD d = some k) (i : Is g H ρ d v) : v = kV k := by
  cases d with
  | int n => cases e; rw [Is] at i; exact i
  | str n => cases e; rw [Is] at i; exact i
  | _ => cases e
theorem getK_is : ∀ {kvs : List (Key × D)} {vs : List (Key × V)} (k : Key), IsKV g H ρ kvs vs → (∀ d, getK kvs k = some d → ∃ v, valV vs k = some v ∧ Is g H ρ d v) ∧ (valV vs k).isSome = (getK kvs k).isSome
  | [], vs, k, i => by rw [IsKV] at i; subst i; exact ⟨fun d e => (nomatch e), rfl⟩
  | x :: r, vs, k, i => by
    rw [IsKV] at i
    obtain ⟨v, w, e, h1, h2⟩ := i
    subst e
    by_cases hk : x.1 = k
    · rw [valV_pos hk]
      have e2 : getK (x :: r) k = some x.2 := by simp [getK, List.find?_cons, hk]
      rw [e2]
      exact ⟨fun d e => by cases e; exact ⟨v, rfl, h1⟩, rfl⟩
    · rw [valV_neg hk]
      have e2 : getK (x :: r) k = getK r k := by simp [getK, List.find?_cons, hk]
      rw [e2]
      exact getK_is k h2
theorem any_is : ∀ {kvs : List (Key × D)} {vs : List (Key × V)} (k : Key), IsKV g H ρ kvs vs → (vs.any fun kv => decide (kv.1 = k)) = kvs.any fun kv => decide (kv.1 = k)
  | [], vs, k, i => by rw [IsKV] at i; subst i; rfl
  | x :: r, vs, k, i => by
    rw [IsKV] at i
    obtain ⟨v, w, e, h1, h2⟩ := i
    subst e
    rw [List.any_cons, List.any_cons, any_is k h2]
theorem map_is {v : V} {d : D} (hv : Is g H ρ d v) : ∀ {kvs : List (Key × D)} {vs : List (Key × V)} (k : Key), IsKV g H ρ kvs vs → IsKV g H ρ (kvs.map fun kv => if kv.1 = k then (kv.1, d) else kv) (vs.map fun kv => if kv.1 = k then (kv.1, v) else kv)
  | [], vs, k, i => by rw [IsKV] at i; subst i; rw [List.map_nil, List.map_nil, IsKV]
  | x :: r, vs, k, i => by
    rw [IsKV] at i
    obtain ⟨u, w, e, h1, h2⟩ := i
    subst e
    rw [List.map_cons, List.map_cons, IsKV]
    by_cases hk : x.1 = k
    · exact ⟨v, _, by simp [hk], by simpa [hk] using hv, map_is hv k h2⟩
    · exact ⟨u, _, by simp [hk], by simpa [hk] using h1, map_is hv k h2⟩
theorem snoc_is {v : V} {d : D} (hv : Is g H ρ d v) : ∀ {kvs : List (Key × D)} {vs : List (Key × V)} (k : Key), IsKV g H ρ kvs vs → IsKV g H ρ (kvs ++ [(k, d)]) (vs ++ [(k, v)])
  | [], vs, k, i => by rw [IsKV] at i; subst i; rw [List.nil_append, List.nil_append, IsKV]; exact ⟨v, [], rfl, hv, by rw [IsKV]⟩
  | x :: r, vs, k, i => by
    rw [IsKV] at i
    obtain ⟨u, w, e, h1, h2⟩ := i
    subst e
    rw [List.cons_append, List.cons_append, IsKV]
    exact ⟨u, _, rfl, h1, snoc_is hv k h2⟩
theorem put_is {v : V} {d : D} (hv : Is g H ρ d v) {kvs : List (Key × D)} {vs : List (Key × V)} (k : Key) (i : IsKV g H ρ kvs vs) : IsKV g H ρ (putD kvs k d) (putK vs k v) := by
  unfold putD putK
  rw [any_is k i]
  split
  · exact map_is hv k i
  · exact snoc_is hv k i
theorem atI_is {xs : List D} {vs : List V} {i : Int} {d : D} (x : IsL g H ρ xs vs) (e : atI xs i = some d) : ∃ v, atI vs i = some v ∧ Is g H ρ d v := by
  unfold atI at e ⊢
  rw [x.length] at e
  cases q : ixN vs.length i with
  | none => rw [q] at e; cases e
  | some k => rw [q] at e; exact x.get e
theorem ix_dct (hu : X.A.units + 1 < cLine) : IxR X (fun x y H Q => ∃ a v, x = .ref a ∧ DGet H a y (some v) ∧ Q v H) := by
  intro value slice pins s σ H x y v u Q I rx ry ⟨a, z, e, gt, q⟩ hs
  subst e
  cases rx
  have hT := dict_typeIs I gt
  unfold subscriptTail
  refine wpAny_bind ?_
  rw [getitemInPython_of_ne hT.not_modules]
  refine wpAny_bind (wpAny_specialOf hT PySem.F.slot_dict_getitem.lookup ?_)
  have fin : wpAny (model X.prog X.w) X.A (subscripted slice false (.ref a) u) (fun r s₃ => wpAny (model X.prog X.w) X.A (letTemporaryGo value (.ref a) r >>= fun _ => pure r) (EP X pins σ Q) X.xe s₃) X.xe s := by
    rw [hs]
    exact wpAny_operating (wpAny_mono (d_getItem hu I gt ry fun w' s3 I3 rw' => (⟨z, H, I3, rw', q⟩ : EP X pins σ Q w' s3)) (fun r s₃ h₃ => wpAny_bind (wpAny_letTemporaryGo (wpAny_pure h₃))) fun _ _ x => x)
  first
    | exact wpAny_pure (wpAny_bind fin)
    | exact wpAny_bind (wpAny_pure (wpAny_bind fin))
    | exact wpAny_bind fin
theorem Ct.u1 (c : Ct g X l j) : X.A.units + 1 < cLine := by have := c.room.units; omega
theorem oi_ix (c : Ct g X l j) : IxR X (rD2 g gIx) := by
  refine PV.IxR.imp (IxR.or (ix_dct c.u1) (IxR.or ix_list ix_tup)) fun x y H Q ⟨ρ, h, d, e, hr, i1, i2, p⟩ => ?_
  have p : Post g (Is g) (match dctD d h with | some kvs => opt (keyD e) fun k => opt (getK kvs k) fun v => .ok v h | none => opt (seqD d h) fun xs => opt (intD e) fun i => opt (atI xs i) fun v => .ok v h) ρ H Q := p
  split at p
  · rename_i kvs e0
    obtain ⟨k, ek, p1⟩ := p.opt
    obtain ⟨v, ev, p2⟩ := p1.opt
    obtain ⟨n, a, vs, rfl, rfl, _, _, y1, y2⟩ := dct_at hr i1 e0
    have := key_is ek i2
    subst this
    obtain ⟨w, ew, iw⟩ := (getK_is k y2).1 v ev
    exact .inl ⟨a, w, rfl, .inl ⟨vs, k, .inl y1, rfl, ew.symm⟩, p2.same hr iw⟩
  · obtain ⟨xs, e0, p1⟩ := p.opt
    obtain ⟨k, ek, p2⟩ := p1.opt
    obtain ⟨v, ev, p3⟩ := p2.opt
    have := intD_is ek i2
    subst this
    obtain ⟨a, vs, rfl, h1, h2⟩ := seq_at hr i1 e0
    obtain ⟨w, ew, iw⟩ := atI_is h2 ev
    rw [c.K]
    rcases h1 with h1 | h1
    · exact .inr (.inl ⟨a, vs, k, w, rfl, rfl, h1, ew, p3.same hr iw⟩)
    · exact .inr (.inr ⟨a, vs, k, w, rfl, rfl, h1, ew, p3.same hr iw⟩)
/-! ### in -/
theorem flat_is {d : D} {v : V} (i : Is g H ρ d v) (f : d.flat = true) : flatV v = true := by
  cases d <;> first | (rw [Is] at i; rw [i]; rfl) | cases f
theorem flats_is : ∀ {ds : List D} {vs : List V}, IsL g H ρ ds vs → ds.all D.flat = true → vs.all flatV = true
  | [], vs, i, _ => by rw [IsL] at i; rw [i]; rfl
  | d :: ds, vs, i, f => by
    rw [IsL] at i
    obtain ⟨v, r, e, h1, h2⟩ := i
    rw [List.all_cons, Bool.and_eq_true] at f
    rw [e, List.all_cons, flat_is h1 f.1, flats_is h2 f.2]
    rfl
theorem eqV_is {d e : D} {v u : V} (i : Is g H ρ d v) (k : Is g H ρ e u) (fd : d.flat = true) (fe : e.flat = true) : eqV v u = eqD d e := by
  cases d <;> first | cases fd | skip
  all_goals (cases e <;> first | cases fe | skip)
  all_goals (rw [Is] at i; rw [Is] at k; rw [i, k]; unfold eqD py0; simp only [pyW, eqV, PyData.eqv])
theorem inV_is {d : D} {v : V} (i : Is g H ρ d v) (fd : d.flat = true) : ∀ {ds : List D} {vs : List V}, IsL g H ρ ds vs → ds.all D.flat = true → inV v vs = ds.any fun y => eqD y d
  | [], vs, k, _ => by rw [IsL] at k; rw [k]; rfl
  | e :: ds, vs, k, f => by
    rw [IsL] at k
    obtain ⟨u, r, e1, h1, h2⟩ := k
    rw [List.all_cons, Bool.and_eq_true] at f
    have ih := inV_is i fd h2 f.2
    unfold inV at ih ⊢
    rw [e1, List.any_cons, List.any_cons, ih, eqV_is h1 i f.1 fd]
theorem in_cases (hr : HR g ρ H h) {d e : D} {x y : V} {b : Bool} (i1 : Is g H ρ d x) (i2 : Is g H ρ e y) (q : inD d e h = some b) :
    (∃ a o, y = .ref a ∧ DGet H a x o ∧ o.isSome = b) ∨ (∃ a vs, y = .ref a ∧ (SqL g.K H a vs ∨ SqT g.K H a vs) ∧ flatV x = true ∧ vs.all flatV = true ∧ inV x vs = b) ∨
      (∃ (pd : PyData) (ds : List PyData), Dp g.K H x pd ∧ Dp g.K H y (.list ds) ∧ SeqAt.shaped pd = true ∧ SeqAt.shaped (.list ds) = true ∧ (ds.any fun z => PyData.eqv z pd) = b) := by
  unfold inD at q
  split at q
  · rename_i kvs e0
    obtain ⟨n, a, vs, rfl, rfl, _, _, y1, y2⟩ := dct_at hr i2 e0
    cases ek : keyD d with
    | none => rw [ek] at q; cases q
    | some k =>
      rw [ek] at q
      cases q
      have := key_is ek i1
      subst this
      exact .inl ⟨a, _, rfl, .inl ⟨vs, k, .inl y1, rfl, rfl⟩, (getK_is k y2).2⟩
  · cases e0 : seqD e h with
    | none => rw [e0] at q; cases q
    | some xs =>
      rw [e0] at q
      have q : (if ((d.flat && xs.all D.flat) || (e.isRef && SeqAt.shaped (py0 d) && SeqAt.shaped (.list (xs.map py0)))) = true then some (xs.any fun y => eqD y d) else none) = some b := q
      split at q
      · rename_i hc
        cases q
        rw [Bool.or_eq_true] at hc
        rcases hc with hc | hc
        · rw [Bool.and_eq_true] at hc
          obtain ⟨a, vs, rfl, h1, h2⟩ := seq_at hr i2 e0
          exact .inr (.inl ⟨a, vs, rfl, h1, flat_is i1 hc.1, flats_is h2 hc.2, inV_is i1 hc.1 h2 hc.2⟩)
        · rw [Bool.and_eq_true, Bool.and_eq_true] at hc
          obtain ⟨⟨hc1, hc2⟩, hc3⟩ := hc
          cases e with
          | ref n =>
            obtain ⟨a, vs, rfl, h1, h2⟩ := lst_at hr i2 (show lstD (.ref n) h = some xs from e0)
            refine .inr (.inr ⟨py0 d, xs.map py0, dp0 i1 (SeqAt.canLay_of_shaped hc2), .lst h1 ?_, hc2, hc3, ?_⟩)
            · rw [← pyWL_map]
              refine dpWL no0 xs vs h2 ?_
              have := SeqAt.canLay_of_shaped hc3
              rw [PyData.canLay0, ← pyWL_map] at this
              exact this
            · rw [List.any_map]; rfl
          | _ => cases hc1
      · cases q
theorem op_dIn (hu : X.A.units + 1 < cLine) : OpR X (compareOp .In) (fun x y H Q => ∃ a o, y = .ref a ∧ DGet H a x o ∧ Q (.bl o.isSome) H) := by
  intro pins s σ H x y v u Q I rx ry ⟨a, o, e, gt, q⟩
  subst e
  cases ry
  exact d_in hu I gt rx fun s3 I3 => ⟨.bl o.isSome, H, I3, rfl, q⟩
theorem op_dNotIn (hu : X.A.units + 1 < cLine) : OpR X (compareOp .NotIn) (fun x y H Q => ∃ a o, y = .ref a ∧ DGet H a x o ∧ Q (.bl (!o.isSome)) H) := by
  intro pins s σ H x y v u Q I rx ry ⟨a, o, e, gt, q⟩
  subst e
  cases ry
  exact d_notIn hu I gt rx fun s3 I3 => ⟨.bl (!o.isSome), H, I3, rfl, q⟩
theorem Ct.u65 (c : Ct g X l j) : X.A.units + 65 < cLine := by have := c.room.un; omega
theorem od_in (c : Ct g X l j) : OpR X (compareOp .In) (rD2 g gIn) := by
  refine PV.OpR.imp (OpR.or (op_dIn c.u1) (OpR.or op_in_seq (op_inD c.u65))) fun x y H Q ⟨ρ, h, d, e, hr, i1, i2, p⟩ => ?_
  obtain ⟨b, eb, p1⟩ := p.opt
  rw [c.K]
  rcases in_cases hr i1 i2 eb with ⟨a, o, z1, z2, z3⟩ | ⟨a, vs, z1, z2, z3, z4, z5⟩ | ⟨pd, ds, z1, z2, z3, z4, z5⟩
  · exact .inl ⟨a, o, z1, z2, (by rw [z3]; exact p1.same hr (by rw [Is]))⟩
  · exact .inr (.inl ⟨a, vs, z1, z2, z3, z4, (by rw [z5]; exact p1.same hr (by rw [Is]; rfl))⟩)
  · exact .inr (.inr ⟨pd, ds, z1, z2, z3, z4, by rw [z5]; exact p1.same hr (by rw [Is])⟩)
theorem od_notIn (c : Ct g X l j) : OpR X (compareOp .NotIn) (rD2 g gNotIn) := by
  refine PV.OpR.imp (OpR.or (op_dNotIn c.u1) (OpR.or op_notIn_seq (op_notInD c.u65))) fun x y H Q ⟨ρ, h, d, e, hr, i1, i2, p⟩ => ?_
  obtain ⟨b, eb, p1⟩ := p.opt
  rw [c.K]
  rcases in_cases hr i1 i2 eb with ⟨a, o, z1, z2, z3⟩ | ⟨a, vs, z1, z2, z3, z4, z5⟩ | ⟨pd, ds, z1, z2, z3, z4, z5⟩
  · exact .inl ⟨a, o, z1, z2, (by rw [z3]; exact p1.same hr (by rw [Is]))⟩
  · exact .inr (.inl ⟨a, vs, z1, z2, z3, z4, (by rw [z5]; exact p1.same hr (by rw [Is]; rfl))⟩)
  · exact .inr (.inr ⟨pd, ds, z1, z2, z3, z4, by rw [z5]; exact p1.same hr (by rw [Is])⟩)

/-! ### slices -/
theorem IsL.cut {xs : List D} {vs : List V} (i : IsL g H ρ xs vs) (lo hi : Option Int) : IsL g H ρ (cutD xs lo hi) (cutV vs lo hi) := by
  unfold cutD cutV
  rw [i.length]
  exact (i.drop _).take _
def rSlD (g : G) : V → Option Int → Option Int → Hp → VK → Prop := fun x lo hi H Q => ∃ ρ h d, HR g ρ H h ∧ Is g H ρ d x ∧ PostE g (slD d lo hi h) ρ H Q
theorem SlR.imp {r r' : V → Option Int → Option Int → Hp → VK → Prop} (o : SlR X r) (i : ∀ x lo hi H Q, r' x lo hi H Q → r x lo hi H Q) : SlR X r' := fun pins s σ H x v vl vu lo hi sl Q I rx hs pl pu q => o pins s σ H x v vl vu lo hi sl Q I rx hs pl pu (i _ _ _ _ _ q)
theorem os_sl (c : Ct g X l j) : SlR X (rSlD g) := by
  refine PV.SlR.imp (L2.SlR.or sl_list sl_tupA) fun x lo hi H Q ⟨ρ, h, d, hr, i1, p⟩ => ?_
  obtain ⟨xs, e0, p1⟩ := p.opt
  rw [c.K]
  cases d with
  | tup ys =>
    have e1 : some ys = some xs := e0
    cases e1
    have j1 := i1
    rw [Is] at i1
    obtain ⟨a, vs, rfl, h1, h2⟩ := i1
    refine .inr ⟨a, vs, rfl, h1, fun hw => ?_, fun _ q hq => Post.newT p1 hr (h2.cut lo hi) hq⟩
    have : cutD xs lo hi = xs := by
      unfold cutD
      rw [h2.length, hw.1, hw.2]
      simp [← h2.length]
    have p1 : Post g (Is g) (.ok (.tup (cutD xs lo hi)) h) ρ H Q := p1
    rw [this] at p1
    exact p1.same hr j1
  | ref n =>
    obtain ⟨a, vs, rfl, h1, h2⟩ := lst_at hr i1 (show lstD (.ref n) h = some xs from e0)
    exact .inl ⟨a, vs, rfl, h1, fun q hq => Post.newL p1 hr (h2.cut lo hi) hq⟩
  | scr ns =>
    obtain ⟨a, vs, rfl, h1, h2⟩ := lst_at hr i1 (show lstD (.scr ns) h = some xs from e0)
    exact .inl ⟨a, vs, rfl, h1, fun q hq => Post.newL p1 hr (h2.cut lo hi) hq⟩
  | _ => cases e0

/-! ### stores -/
/-- what is wanted of a heap behind a store -/
def PostH (g : G) (o : Option Hs) (ρ : List Addr) (H : Hp) (Q : Hp → Prop) : Prop := match o with
  | some h' => ∀ ρ' H', Tr g.tb ρ H ρ' H' → HR g ρ' H' h' → Q H'
  | none => False
def rSetD (g : G) : TSet := fun o i v H Q => ∃ ρ h d e w, HR g ρ H h ∧ Is g H ρ d o ∧ Is g H ρ e i ∧ Is g H ρ w v ∧ PostH g (setD d e w h) ρ H Q
theorem pset_d (c : Ct g X l j) : PSet X (rSetD g) := by
  intro pins s σ H o i v ov iv u Q I ro ri rv ⟨ρ, h, d, e, w, hr, i1, i2, i3, p⟩
  cases d with
  | ref n =>
    rw [Is] at i1
    obtain ⟨a, ha, rfl⟩ := i1
    cases q : h[n]? with
    | none => unfold setD at p; simp only [refD, Option.bind_some, q] at p; exact p.elim
    | some ob =>
      have hob := seq_of hr ha q
      cases ob with
      | lst xs =>
        obtain ⟨vs, y1, y2⟩ := hob
        have es : setD (.ref n) e w h = (intD e).bind fun i => (ixN xs.length i).map fun j => h.set n (.lst (xs.set j w)) := by unfold setD; simp only [refD, Option.bind_some, q]
        rw [es] at p
        cases ei : intD e with
        | none => rw [ei] at p; exact p.elim
        | some k =>
          have := intD_is ei i2
          subst this
          cases ej : ixN xs.length k with
          | none => rw [ei] at p; simp only [Option.bind_some, ej] at p; exact p.elim
          | some m =>
            rw [ei] at p
            simp only [Option.bind_some, ej, Option.map_some] at p
            have t0 : Tr g.tb ρ H ρ (upd H a (.lst (vs.set m v))) := Tr.set hr.tabs (List.mem_of_getElem? ha) y1 rfl (fun _ z => by cases z)
            obtain ⟨t, hr2⟩ := hr.set (o := .lst (vs.set m v)) (u' := .lst (xs.set m w)) ha q rfl rfl ⟨_, upd_same, (IsL.set i3 m y2).mono t0⟩
            exact set_list pins s σ H _ _ _ _ _ _ Q I ro ri rv ⟨a, vs, k, m, rfl, rfl, y1, by rw [← y2.length]; exact ej, p ρ _ t hr2⟩
      | dct kvs =>
        obtain ⟨vs, y1, y2⟩ := hob
        have es : setD (.ref n) e w h = (keyD e).bind fun k => if decide (kvs.length < 100000) then some (h.set n (.dct (putD kvs k w))) else none := by unfold setD; simp only [refD, Option.bind_some, q]
        rw [es] at p
        cases ek : keyD e with
        | none => rw [ek] at p; exact p.elim
        | some k =>
          rw [ek] at p
          simp only [Option.bind_some] at p
          split at p
          · rename_i hl
            rw [decide_eq_true_eq] at hl
            have := key_is ek i2
            subst this
            have t0 : Tr g.tb ρ H ρ (upd H a (.dK (putK vs k v))) := Tr.set hr.tabs (List.mem_of_getElem? ha) y1 rfl (fun _ z => by cases z)
            obtain ⟨t, hr2⟩ := hr.set (o := .dK (putK vs k v)) (u' := .dct (putD kvs k w)) ha q rfl rfl ⟨_, upd_same, (put_is i3 k y2).mono t0⟩
            cases ro
            refine d_setItem c.u1 I (DPut.k y1 (by rw [← y2.length, sizeLine_eq]; omega)) ri rv fun s4 I4 => ⟨_, I4, p ρ _ t hr2⟩
          · exact p.elim
  | _ => exact p.elim
end
end PV
end

section
set_option Elab.async false
set_option linter.all false
set_option maxRecDepth 100000
set_option maxHeartbeats 4000000
/-! VEn: for i, x in enumerate(t), t a tuple. -/
namespace PySem.EnT
open PySem PySem.Spec PySem.W PyProof.Rows
theorem meets_enum1 {v : Value} {o : Obj} {H : Heap → Prop} (B : Begins v o H) :
    Meets (Builtin.«enumerate.__new__» ⟨[.type "enumerate", v], []⟩) (fun _ R s => H s.heap ∧
      R (.ok (.ret (.ref (s.heap.push o).objs.size))) { s with heap := (s.heap.push o).push { cls := .type "enumerate", data := .fields #[.none, .bool false, .ref s.heap.objs.size, rawInt 0, .none, .none] } }) :=
  .of_wp fun prog w A R s h => by
    obtain ⟨hp, g, d, tk, os⟩ := s; obtain ⟨h1, h⟩ := h
    have hsub := sub_enumerate
    have q1 : ∀ {A' : Around} {E : Value → Shared → Prop} {Q : Value → Shared → Prop}, Q (.ref hp.objs.size) ⟨hp.push o, g, d, tk, os⟩ → wpAny (model prog w) A' (pyIter v) Q E ⟨hp, g, d, tk, os⟩ :=
      fun q => B.iter prog w _ _ ⟨hp, g, d, tk, os⟩ _ h1 q
    wp_walk using q1
    refine wpAny_stack_any fun st => wpAny_pure ?_
    split
    · rename_i c _ _ _ _ _
      cases (c == Value.type "enumerate")
      · wp_walk using q1
        exact ⟨_, rfl, h⟩
      · wp_walk using q1
        exact ⟨_, rfl, h⟩
    · wp_walk using q1
      exact ⟨_, rfl, h⟩
section
variable {prog : Program} {w : World} {A : Around} {E : Value → Shared → Prop} {s : Shared}
theorem enum_begins1 {v : Value} {o : Obj} {H : Heap → Prop} {Q : Value → Shared → Prop} (B : Begins v o H) (h1 : H s.heap)
    (h : ∀ h', IsEnum h' (s.heap.objs.size + 1) s.heap.objs.size 0 .none → h'.get? s.heap.objs.size = some o → h'.objs.size = s.heap.objs.size + 2 →
      (∀ b o, s.heap.get? b = some o → h'.get? b = some o) → Q (.ref (s.heap.objs.size + 1)) { s with heap := h' }) :
    wpAny (model prog w) A (call (.type "enumerate") [v]) Q E s := by
  refine callType_new F.called_enumerate (by decide) (F.typeCall_enumerate_1 _) (F.newCall_enumerate_1 _) (fun obj => F.args_object_init_2 obj _) F.entry_enumerate_new
    (meets_enum1 B) ⟨h1, ?_⟩
  have hz : (s.heap.push o).objs.size = s.heap.objs.size + 1 := Heap.size_push ..
  show _ ∧ _
  rw [hz]
  have he : IsEnum ((s.heap.push o).push { cls := .type "enumerate", data := .fields #[.none, .bool false, .ref s.heap.objs.size, rawInt 0, .none, .none] }) (s.heap.objs.size + 1) s.heap.objs.size 0 .none := by
    have := Heap.get?_push_size (s.heap.push o) (o := { cls := .type "enumerate", data := .fields #[.none, .bool false, .ref s.heap.objs.size, rawInt 0, .none, .none] }) rfl
    rw [hz] at this; exact this
  refine ⟨⟨_, he, rfl⟩, h _ he (Heap.get?_push_of_some _ (Heap.get?_push_size _ B.free)) (by rw [Heap.size_push, hz]) fun b o x => Heap.get?_push_of_some _ (Heap.get?_push_of_some _ x)⟩
end
end PySem.EnT
namespace EnT
open PySem PySem.Spec PyProof.Rows L2
def IteT (K : PySem.W.Frag) (a : Addr) : It :=
  ⟨fun i H => ∃ (xs : List V) (x : V), SqT K H a xs ∧ xs[i]? = some x, fun i H v H' => ∃ T x, v = .ref T ∧ H T = none ∧ H' = upd H T (.tup [.int (i : Nat), x]) ∧ ∀ xs, SqT K H a xs → xs[i]? = some x, fun i H => ∃ xs : List V, SqT K H a xs ∧ xs.length = i⟩
theorem turn_enumT {P : Program} {w : World} {K : PySem.W.Frag} {elts : List Expr} {kk : Nat} {tpos : Pos} (a e it : Addr) :
    Turn P w K (.Tuple elts kk tpos) (IteT K a) [e, it] e (fun i h => (∃ old, IsEnum h e it ((i : Nat) : Int) old) ∧ h.IsTupleIter it a i ∧ e ≠ it ∧ a ≠ it ∧ a ≠ e) where
  mem := by simp
  obj := fun i h st b hb => by
    obtain ⟨⟨old, he⟩, ⟨o, ho, hc, hd⟩, _⟩ := st
    have e' : b = e ∨ b = it := by simpa using hb
    rcases e' with z | z
    · rw [z]; exact ⟨_, he, fun v q => nomatch q⟩
    · rw [z]; exact ⟨o, ho, fun v q => by rw [hd] at q; cases q⟩
  keep := fun i h h' st k => let ⟨⟨old, he⟩, hi, hne⟩ := st; ⟨⟨old, k e (by simp) _ he⟩, hi.at fun o q => k it (by simp) o q, hne⟩
  item := by
    intro X hP hw hK hc i pins s σ H E I hf st hg
    subst hP hw hK
    obtain ⟨⟨old, he⟩, hit, hne, hai, hae⟩ := st
    obtain ⟨xs, x, hq, hx⟩ := hg
    obtain ⟨its, rv, p, hz⟩ := I.tuple hq
    obtain ⟨u, hu, ru⟩ := rv.get hx
    have hel : e < s.heap.objs.size := Heap.lt_size he
    have hil : it < s.heap.objs.size := by obtain ⟨_, q, _⟩ := hit; exact Heap.lt_size q
    have hd : X.A.in1.handled = none := I.ok.hd hc
    have D := Draws.tuple (prog := X.prog) (w := X.w) (A := X.A.in1) hd it a hai its.toArray
    have hlt : i < its.toArray.size := by
      have := (List.getElem?_eq_some_iff.mp hu).1
      simpa using this
    refine wpAny_pyNext_enum_itemD D he ⟨hit, p⟩ hlt hne (by simp; exact ⟨hne, fun z => hae z.symm⟩) fun x' h' tk hx' ho hst' hT hsz hk => ?_
    have hx2 : x' = u := by
      have h1 : its.toArray[i]? = some x' := hx'
      have h2 : its.toArray[i]? = some u := by simpa using hu
      exact Option.some.inj (h1.symm.trans h2)
    subst hx2
    refine ⟨_, rfl, wpAny_letOwnedTupleGo_enum (s := { s with heap := h', toks := tk + 1 }) ho fun h'' he' sb => ?_⟩
    have hT2 : h''.get? s.heap.objs.size = some { cls := .type "tuple", data := .seq #[.int i tk, x'] } := (sb.2 _ (Nat.ne_of_gt hel)).trans hT
    have new : ObjOk X.prog X.w (upd H s.heap.objs.size (.tup [.int (i : Nat), x])) h'' s.heap.objs.size (.tup [.int (i : Nat), x]) :=
      ⟨by show 2 ≤ sizeLine; decide, [.int i tk, x'], .cons ⟨_, rfl⟩ (.cons ru .nil), ⟨_, hT2, rfl, _, rfl⟩⟩
    have I1 : Inv X pins σ (upd H s.heap.objs.size (.tup [.int (i : Nat), x])) { s with heap := h'', toks := tk + 1 } :=
      I.turnedNew (ch := [e, it]) (fun b ob hb q => (sb.2 b (fun z => hb (by simp [z]))).trans (hk b ob (fun z => hb (by simp [z])) (fun z => hb (by simp [z])) q)) hf (Nat.le_refl _) new
    refine ⟨.ref s.heap.objs.size, _, I1, rfl, ⟨_, x, rfl, I.hok.fresh (Nat.le_refl _), rfl, fun ys hy => by rw [I.tuple_inj hy hq]; exact hx⟩, ⟨⟨x', ?_⟩, hst'.1.at fun o q => (sb.2 it (Ne.symm hne)).trans q, hne, hai, hae⟩, fun b hb => ?_⟩
    · have e1 : ((i + 1 : Nat) : Int) = (i : Int) + 1 := by omega
      rw [e1]; exact he'
    · have hb' : b < s.heap.objs.size := by
        have e' : b = e ∨ b = it := by simpa using hb
        rcases e' with z | z
        · rw [z]; exact hel
        · rw [z]; exact hil
      rw [upd_ne (Nat.ne_of_lt hb')]
      exact (hf b hb).1
  done := by
    intro X hP hw hK hc i pins s σ H E I hf st hg
    subst hP hw hK
    obtain ⟨⟨old, he⟩, hit, hne, hai, hae⟩ := st
    obtain ⟨xs, hq, hx⟩ := hg
    obtain ⟨its, rv, p, hz⟩ := I.tuple hq
    obtain ⟨f0, f1, f2, f3, f4, f5⟩ := hf it (by simp)
    have hl := rv.length
    have hd : X.A.in1.handled = none := I.ok.hd hc
    have D := Draws.tuple (prog := X.prog) (w := X.w) (A := X.A.in1) hd it a hai its.toArray
    have hi : i = its.toArray.size := by rw [List.size_toArray, ← hl, hx]
    subst hi
    exact wpAny_pyNext_enum_endD D he ⟨hit, p⟩ fun h' eb => ⟨rfl, I.turned (t' := s.toks) (fun b o hb q => eb b o hb q) f0 f1 f3 f4 f5⟩
  self := fun A i s Q E st h => let ⟨⟨_, he⟩, _⟩ := st; wpAny_pyIter_enum he h
/-- enumerate of a list or a tuple -/
def iEnumA (K : PySem.W.Frag) (ta : TA) : TI := fun σ H R => ta σ H fun vs H1 => ∃ a xs, vs = [.ref a] ∧ ((SqL K H1 a xs ∧ R (Ite K a) H1) ∨ (SqT K H1 a xs ∧ R (IteT K a) H1))
theorem pi_enumA {X : Cx} {e : Expr} {ta : TA} {p pos tpos : Pos} {elts : List Expr} {kk : Nat} (hg : Gl X "enumerate") (hm : X.mg "enumerate" = none) (ha : PA X [e] ta) (hs : starEach [e] X.env = [(false, eval e X.env)] := by rfl) :
    PI X (.Tuple elts kk tpos) (.Call (.Name "enumerate" p) [e] [] pos) (iEnumA X.K ta) := by
  refine ⟨fun pins s σ H R I h => ?_⟩
  refine Call_ (ld_blt I hg hm boot_enumerate (PyProof.Rows.callWith_type1 (thn (ha.run pos pins s σ H _ I h) fun us s1 ⟨vs, H1, I1, r1, q1⟩ => ?_) hs rfl))
  obtain ⟨a, xs, ex, q1⟩ := q1
  subst ex
  cases r1 with
  | cons r rr =>
    cases rr
    cases r
    rcases q1 with ⟨hq, q⟩ | ⟨hq, q⟩
    · obtain ⟨its, rv, p', hz⟩ := I1.list hq
      refine call_enumerate_list p'.isList fun h' he hit hsz hk => wpAny_pyIter_enum he ?_
      have I2 : Inv X pins σ H1 { s1 with heap := h' } := I1.kept (t' := s1.toks) hk
      refine ⟨s1.heap.objs.size + 1, [s1.heap.objs.size + 1, s1.heap.objs.size], _, _, H1, rfl, I2, turn_enum a (s1.heap.objs.size + 1) s1.heap.objs.size, ⟨⟨.none, he⟩, hit, Nat.succ_ne_self _⟩, fun b hb => ?_, q⟩
      have e' : b = s1.heap.objs.size + 1 ∨ b = s1.heap.objs.size := by simpa using hb
      have hle : s1.heap.objs.size ≤ b := by
        rcases e' with z | z
        · rw [z]; exact Nat.le_add_right _ _
        · rw [z]; exact Nat.le_refl _
      exact I1.fpOk hle (I1.hok.fresh hle)
    · obtain ⟨its, rv, p', hz⟩ := I1.tuple hq
      have hal : a < s1.heap.objs.size := by obtain ⟨_, e, _⟩ := p'; exact Heap.lt_size e
      refine PySem.EnT.enum_begins1 (begins_tuple a its.toArray) p' fun h' he hit hsz hk => wpAny_pyIter_enum he ?_
      have I2 : Inv X pins σ H1 { s1 with heap := h' } := I1.kept (t' := s1.toks) hk
      refine ⟨s1.heap.objs.size + 1, [s1.heap.objs.size + 1, s1.heap.objs.size], _, _, H1, rfl, I2, turn_enumT a (s1.heap.objs.size + 1) s1.heap.objs.size, ⟨⟨.none, he⟩, ⟨_, hit, rfl, rfl⟩, Nat.succ_ne_self _, Nat.ne_of_lt hal, Nat.ne_of_lt (Nat.lt_succ_of_lt hal)⟩, fun b hb => ?_, q⟩
      have e' : b = s1.heap.objs.size + 1 ∨ b = s1.heap.objs.size := by simpa using hb
      have hle : s1.heap.objs.size ≤ b := by
        rcases e' with z | z
        · rw [z]; exact Nat.le_add_right _ _
        · rw [z]; exact Nat.le_refl _
      exact I1.fpOk hle (I1.hok.fresh hle)
end EnT
end

section
set_option Elab.async false
set_option linter.all false
set_option maxRecDepth 100000
set_option maxHeartbeats 4000000
/-! V6: what is walked; for, while, comprehensions. -/
namespace PV
open PySem PySem.Spec PyProof.Rows L2 GX GxR PG C8
open PySem.W (EachIs)

/-- what a loop walks: items that stay; a list of ours as it stands; pairs of an index and an item; pairs of items -/
inductive Src where
  | items (xs : List D)
  | at_ (n : Nat)
  | enT (xs : List D)
  | enL (n : Nat)
  | rev (n len : Nat)
  | zpL (n m : Nat)
/-- the i-th item: nothing is said; no more; an item -/
def Src.get : Src → Hs → Nat → Option (Option D)
  | .items xs, _, i => some xs[i]?
  | .enT xs, _, i => if i ≤ xs.length then some (xs[i]?.map fun x => .tup [.int i, x]) else none
  | .enL n, h, i => match h[n]? with
    | some (.lst xs) => some (xs[i]?.map fun x => .tup [.int i, x])
    | _ => none
  | .zpL n m, h, i => match h[n]?, h[m]? with
    | some (.lst xs), some (.lst ys) => some (match xs[i]?, ys[i]? with
      | some x, some y => some (.tup [x, y])
      | _, _ => none)
    | _, _ => none
  | .rev n len, h, i => if i < len then match h[n]? with
      | some (.lst xs) => xs[len - 1 - i]?.map some
      | _ => none
    else some none
  | .at_ n, h, i => match h[n]? with
    | some (.lst xs) => some xs[i]?
    | _ => none
def Src.size : Src → Hs → Nat
  | .items xs, _ => xs.length
  | .enT xs, _ => xs.length
  | .enL n, h => match h[n]? with
    | some (.lst xs) => xs.length
    | _ => 0
  | .rev _ len, _ => len
  | .zpL n _, h => match h[n]? with
    | some (.lst xs) => xs.length
    | _ => 0
  | .at_ n, h => match h[n]? with
    | some (.lst xs) => xs.length
    | _ => 0
abbrev Iv := CF → Env' → Hs → Res Src
/-- an iterator that hands out a source's items -/
structure SrcR (g : G) (H0 : Hp) (ρ0 : List Addr) (s : Src) (J : It) : Prop where
  go : ∀ (i : Nat) (H : Hp) (ρ : List Addr) (h : Hs) (d : D), Kp ρ0 H0 ρ H → HR g ρ H h → s.get h i = some (some d) → J.go i H
  yld : ∀ (i : Nat) (H : Hp) (ρ : List Addr) (h : Hs) (d : D) (v : V) (H' : Hp), Kp ρ0 H0 ρ H → HR g ρ H h → s.get h i = some (some d) → J.yld i H v H' → (H' = H ∨ ∃ p xs, H p = none ∧ H' = upd H p (.tup xs)) ∧ Is g H' ρ d v
  stop : ∀ (i : Nat) (H : Hp) (ρ : List Addr) (h : Hs), Kp ρ0 H0 ρ H → HR g ρ H h → s.get h i = some none → J.stop i H
/-- behind a turn's item -/
theorem yld_tr {g : G} {H H' : Hp} {ρ : List Addr} {h : Hs} (hr : HR g ρ H h) (e : H' = H ∨ ∃ p xs, H p = none ∧ H' = upd H p (.tup xs)) : Tr g.tb ρ H ρ H' ∧ HR g ρ H' h := by
  rcases e with e | ⟨p, xs, hp, e⟩
  · subst e; exact ⟨Tr.refl hr.tabs, hr⟩
  · subst e; exact ⟨Tr.new hr.tabs hp, hr.new hp⟩
def PostI (g : G) (r : Res Src) (ρ : List Addr) (H : Hp) (R : It → Hp → Prop) : Prop :=
  match r with
  | .ok s h' => ∀ (J : It) (ρ' : List Addr) (H' : Hp), Tr g.tb ρ H ρ' H' → HR g ρ' H' h' → SrcR g H' ρ' s J → R J H'
  | _ => False
def wpI (g : G) (C : CF) (f : Iv) : TI := fun σ H R => ∃ ρ h env, HR g ρ H h ∧ EnvR g H ρ env σ ∧ PostI g (f C env h) ρ H R
section
variable {g : G} {X : Cx} {l : L} {j : Nat} {ρ ρ' ρ1 : List Addr} {H H' H1 : Hp} {h h1 : Hs} {C : CF}
theorem PI.imp {tg iter : Expr} {wi wi' : TI} (p : PI X tg iter wi) (i : ∀ σ H R, wi' σ H R → wi σ H R) : PI X tg iter wi' := ⟨fun pins s σ H R I q => p.run pins s σ H R I (i σ H R q)⟩
theorem PostI.tr {r : Res Src} {R : It → Hp → Prop} (t : Tr g.tb ρ H ρ1 H1) (p : PostI g r ρ H R) : PostI g r ρ1 H1 R := by
  cases r with
  | ok d h => exact fun J ρ' H' t' => p J ρ' H' (t.trans t')
  | err => exact p
  | bad => exact p
theorem PostI.bind {α β : Type} {R' : Hp → List Addr → α → β → Prop} {r : Res α} {f : α → Hs → Res Src} {R : It → Hp → Prop} (p : PostI g (r.bind f) ρ H R) :
    Post g R' r ρ H fun v H1 => ∃ ρ1 h1 d, Tr g.tb ρ H ρ1 H1 ∧ HR g ρ1 H1 h1 ∧ R' H1 ρ1 d v ∧ r = .ok d h1 ∧ PostI g (f d h1) ρ1 H1 R := by
  cases r with
  | ok d h => exact fun v ρ' H' t hr hi => ⟨ρ', h, d, t, hr, hi, rfl, p.tr t⟩
  | err => exact p
  | bad => exact p
theorem PostI.opt {γ : Type} {o : Option γ} {f : γ → Res Src} {R : It → Hp → Prop} (p : PostI g (opt o f) ρ H R) : ∃ a, o = some a ∧ PostI g (f a) ρ H R := by
  cases o with
  | some a => exact ⟨a, rfl, p⟩
  | none => exact p.elim
theorem PostI.chk {b : Bool} {r : Res Src} {R : It → Hp → Prop} (p : PostI g (chk b r) ρ H R) : b = true ∧ PostI g r ρ H R := by
  cases b with
  | true => exact ⟨rfl, p⟩
  | false => exact p.elim
theorem PostI.same {s : Src} {R : It → Hp → Prop} (p : PostI g (.ok s h) ρ H R) (hr : HR g ρ H h) {J : It} (x : SrcR g H ρ s J) : R J H := p J ρ H (Tr.refl hr.tabs) hr x

/-! ### the sources -/
def srcD : D → Hs → Option Src
  | .tup xs, _ => some (.items xs)
  | .scr xs, _ => some (.items (xs.map D.int))
  | .ref n, h => match h[n]? with
    | some (.lst _) => some (.at_ n)
    | _ => none
  | _, _ => none
def iVal (a : Ev) : Iv := fun C env h => (a C env h).bind fun d h1 => opt (srcD d h1) fun s => .ok s h1
theorem src_tup (K : g.K = g.K) {a : Addr} {vs : List V} {xs : List D} (h1 : SqT g.K H a vs) (h2 : IsL g H ρ xs vs) : SrcR g H ρ (.items xs) (Itt g.K a) := by
  refine ⟨fun i H1 ρ1 h d k _ e => ?_, fun i H1 ρ1 h d v H' k _ e y => ?_, fun i H1 ρ1 h k _ e => ?_⟩
  · have e : xs[i]? = some d := Option.some.inj e
    obtain ⟨v, hv, _⟩ := h2.get e
    exact ⟨vs, v, k.seqT h1, hv⟩
  · have e : xs[i]? = some d := Option.some.inj e
    obtain ⟨v', hv, iv⟩ := h2.get e
    obtain ⟨e1, y⟩ := y
    have := y vs (k.seqT h1)
    rw [hv] at this
    cases this
    subst e1
    exact ⟨.inl rfl, Is.kp k _ _ iv⟩
  · have e : xs[i]? = none := Option.some.inj e
    refine ⟨vs, k.seqT h1, ?_⟩
    rw [← h2.length]
    exact List.getElem?_eq_none_iff.mp e
theorem src_lst {n : Nat} {a : Addr} (ha : ρ[n]? = some a) : SrcR g H ρ (.at_ n) (Itl g.K a) := by
  have at1 : ∀ {ρ1 : List Addr} {H1 : Hp} {h : Hs} {i : Nat} {o : Option D}, Kp ρ H ρ1 H1 → HR g ρ1 H1 h → (Src.at_ n).get h i = some o → ∃ xs vs, SqL g.K H1 a vs ∧ IsL g H1 ρ1 xs vs ∧ xs[i]? = o := fun {ρ1 H1 h i o} k hr e => by
    have ha1 : ρ1[n]? = some a := by
      obtain ⟨r, e⟩ := k.pre
      rw [← e, List.getElem?_append_left (List.getElem?_eq_some_iff.mp ha).1]
      exact ha
    have e : (match h[n]? with | some (.lst xs) => some xs[i]? | _ => none) = some o := e
    split at e
    · rename_i xs q
      obtain ⟨vs, y1, y2⟩ := seqL_of hr ha1 q
      exact ⟨xs, vs, SqL.of y1, y2, Option.some.inj e⟩
    · cases e
  refine ⟨fun i H1 ρ1 h d k hr e => ?_, fun i H1 ρ1 h d v H' k hr e y => ?_, fun i H1 ρ1 h k hr e => ?_⟩
  · obtain ⟨xs, vs, h1, h2, h3⟩ := at1 k hr e
    obtain ⟨v, hv, _⟩ := h2.get h3
    exact ⟨vs, v, h1, hv⟩
  · obtain ⟨xs, vs, h1, h2, h3⟩ := at1 k hr e
    obtain ⟨v', hv, iv⟩ := h2.get h3
    obtain ⟨e1, y⟩ := y
    have := y vs h1
    rw [hv] at this
    cases this
    subst e1
    exact ⟨.inl rfl, iv⟩
  · obtain ⟨xs, vs, h1, h2, h3⟩ := at1 k hr e
    refine ⟨vs, h1, ?_⟩
    rw [← h2.length]
    exact List.getElem?_eq_none_iff.mp h3
theorem src_scr : SrcR g H ρ (.items (g.ns.map D.int)) (Itl g.K g.sc) := by
  have at1 : ∀ {ρ1 : List Addr} {H1 : Hp} {h : Hs}, HR g ρ1 H1 h → SqL g.K H1 g.sc (g.ns.map V.int) := fun hr => hr.scr.seqL
  have ix : ∀ {H1 : Hp} {ρ1 : List Addr}, IsL g H1 ρ1 (g.ns.map D.int) (g.ns.map V.int) := IsL.ints
  refine ⟨fun i H1 ρ1 h d k hr e => ?_, fun i H1 ρ1 h d v H' k hr e y => ?_, fun i H1 ρ1 h k hr e => ?_⟩
  · have e : (g.ns.map D.int)[i]? = some d := Option.some.inj e
    obtain ⟨v, hv, _⟩ := (ix (H1 := H1) (ρ1 := ρ1)).get e
    exact ⟨_, v, at1 hr, hv⟩
  · have e : (g.ns.map D.int)[i]? = some d := Option.some.inj e
    obtain ⟨v', hv, iv⟩ := (ix (H1 := H1) (ρ1 := ρ1)).get e
    obtain ⟨e1, y⟩ := y
    have := y _ (at1 hr)
    rw [hv] at this
    cases this
    subst e1
    exact ⟨.inl rfl, iv⟩
  · have e : (g.ns.map D.int)[i]? = none := Option.some.inj e
    refine ⟨_, at1 hr, ?_⟩
    rw [← (ix (H1 := H1) (ρ1 := ρ1)).length]
    exact List.getElem?_eq_none_iff.mp e
def iSeq (K : PySem.W.Frag) (tl : TE) : TI := fun σ H R => tl σ H fun x H1 => ∃ a, x = .ref a ∧ (((∃ xs, SqL K H1 a xs) ∧ R (Itl K a) H1) ∨ ((∃ xs, SqT K H1 a xs) ∧ R (Itt K a) H1))
theorem pi_seq {tg e : Expr} {tl : TE} (hl : PE X e tl) : PI X tg e (iSeq X.K tl) := by
  refine ⟨fun pins s σ H R I hq => ?_⟩
  refine thn (hl.run pins s σ H _ I hq) fun v s1 ⟨x, H1, I1, r1, q1⟩ => ?_
  obtain ⟨a, e, q⟩ := q1
  subst e
  cases r1
  rcases q with ⟨⟨xs, hq⟩, q⟩ | ⟨⟨xs, hq⟩, q⟩
  · obtain ⟨its, rv, p, hz⟩ := I1.list hq
    refine wpAny_pyIter_list p.isList ?_
    refine ⟨s1.heap.objs.size, [s1.heap.objs.size], _, _, H1, rfl, I1.kept (t' := s1.toks) fun b o e => Heap.get?_push_of_some _ e, turn_list a _, ⟨_, Heap.get?_push_size _ rfl, rfl, rfl⟩, fun b hb => ?_, q⟩
    have e : b = s1.heap.objs.size := by simpa using hb
    subst e
    exact I1.fpOk (Nat.le_refl _) (I1.hok.fresh (Nat.le_refl _))
  · obtain ⟨its, rv, p, hz⟩ := I1.tuple hq
    refine wpAny_pyIter_tuple (show s1.heap.IsTuple a its.toArray from p) ?_
    refine ⟨s1.heap.objs.size, [s1.heap.objs.size], _, _, H1, rfl, I1.kept (t' := s1.toks) fun b o e => Heap.get?_push_of_some _ e, turn_tuple a _, ⟨_, Heap.get?_push_size _ rfl, rfl, rfl⟩, fun b hb => ?_, q⟩
    have e : b = s1.heap.objs.size := by simpa using hb
    subst e
    exact I1.fpOk (Nat.le_refl _) (I1.hok.fresh (Nat.le_refl _))
theorem i_val (c : Ct g X l j) {tg e : Expr} {a : Ev} (he : PE X e (wpE g C a)) : PI X tg e (wpI g C (iVal a)) := by
  refine PV.PI.imp (pi_seq he) fun σ H R ⟨ρ, h, env, hr, hv, p⟩ => ?_
  rw [c.K]
  refine ⟨ρ, h, env, hr, hv, (PostI.bind (R' := Is g) p).mono fun x H1 ⟨ρ1, h1, d, t, hr1, i1, _, p1⟩ => ?_⟩
  obtain ⟨s, es, p2⟩ := p1.opt
  cases d with
  | tup xs =>
    rw [Is] at i1
    obtain ⟨b, vs, rfl, y1, y2⟩ := i1
    cases es
    exact ⟨b, rfl, .inr ⟨⟨vs, y1⟩, p2.same hr1 (src_tup rfl y1 y2)⟩⟩
  | ref n =>
    rw [Is] at i1
    obtain ⟨b, y1, rfl⟩ := i1
    have es : (match h1[n]? with | some (.lst _) => some (.at_ n) | _ => none) = some s := es
    split at es
    · rename_i q
      cases es
      obtain ⟨vs, z1, z2⟩ := seqL_of hr1 y1 q
      exact ⟨b, rfl, .inl ⟨⟨vs, SqL.of z1⟩, p2.same hr1 (src_lst y1)⟩⟩
    · cases es
  | scr ns =>
    rw [Is] at i1
    obtain ⟨rfl, rfl⟩ := i1
    cases es
    exact ⟨g.sc, rfl, .inl ⟨⟨_, hr1.scr.seqL⟩, p2.same hr1 src_scr⟩⟩
  | _ => cases es

/-! ### enumerate, reversed -/
theorem src_enT {a : Addr} {vs : List V} {xs : List D} (h1 : SqT g.K H a vs) (h2 : IsL g H ρ xs vs) : SrcR g H ρ (.enT xs) (EnT.IteT g.K a) := by
  have gt : ∀ {i : Nat} {h : Hs} {o : Option D}, (Src.enT xs).get h i = some o → i ≤ xs.length ∧ o = xs[i]?.map fun x => .tup [.int i, x] := fun {i h o} e => by
    have e : (if i ≤ xs.length then some (xs[i]?.map fun x => D.tup [.int i, x]) else none) = some o := e
    split at e
    · rename_i q; exact ⟨q, (Option.some.inj e).symm⟩
    · cases e
  refine ⟨fun i H1 ρ1 h d k _ e => ?_, fun i H1 ρ1 h d v H' k hr e y => ?_, fun i H1 ρ1 h k _ e => ?_⟩
  · obtain ⟨_, e⟩ := gt e
    obtain ⟨x, hx, _⟩ := Option.map_eq_some_iff.mp e.symm
    obtain ⟨v, hv, _⟩ := h2.get hx
    exact ⟨vs, v, k.seqT h1, hv⟩
  · obtain ⟨_, e⟩ := gt e
    obtain ⟨x, hx, ed⟩ := Option.map_eq_some_iff.mp e.symm
    obtain ⟨v', hv, iv⟩ := h2.get hx
    obtain ⟨T, u, ev, hT, eH, q⟩ := y
    have := q vs (k.seqT h1)
    rw [hv] at this
    cases this
    subst ev eH ed
    refine ⟨.inr ⟨T, _, hT, rfl⟩, ?_⟩
    have t : Tr g.tb ρ1 H1 ρ1 (upd H1 T (.tup [.int (i : Nat), v'])) := Tr.new hr.tabs hT
    rw [Is]
    refine ⟨T, _, rfl, SqT.of upd_same, IsL.mono (ds := [D.int (i : Nat), x]) (vs := [V.int (i : Nat), v']) (IsL.cons (by rw [Is]) (IsL.cons (Is.kp k _ _ iv) IsL.nil)) t⟩
  · obtain ⟨hi, e⟩ := gt e
    have : xs[i]? = none := Option.map_eq_none_iff.mp e.symm
    have := List.getElem?_eq_none_iff.mp this
    refine ⟨vs, k.seqT h1, ?_⟩
    rw [← h2.length]
    omega
theorem at_l {n : Nat} {a : Addr} (ha : ρ[n]? = some a) {ρ1 : List Addr} {H1 : Hp} {h : Hs} {xs : List D} (k : Kp ρ H ρ1 H1) (hr : HR g ρ1 H1 h) (e : h[n]? = some (.lst xs)) : ∃ vs, SqL g.K H1 a vs ∧ IsL g H1 ρ1 xs vs := by
  have ha1 : ρ1[n]? = some a := by
    obtain ⟨r, e⟩ := k.pre
    rw [← e, List.getElem?_append_left (List.getElem?_eq_some_iff.mp ha).1]
    exact ha
  obtain ⟨vs, y1, y2⟩ := seqL_of hr ha1 e
  exact ⟨vs, SqL.of y1, y2⟩
theorem src_enL {n : Nat} {a : Addr} (ha : ρ[n]? = some a) : SrcR g H ρ (.enL n) (Ite g.K a) := by
  have gt : ∀ {i : Nat} {h : Hs} {o : Option D}, (Src.enL n).get h i = some o → ∃ xs, h[n]? = some (.lst xs) ∧ o = xs[i]?.map fun x => .tup [.int i, x] := fun {i h o} e => by
    have e : (match h[n]? with | some (.lst xs) => some (xs[i]?.map fun x => D.tup [.int i, x]) | _ => none) = some o := e
    split at e
    · rename_i xs q; exact ⟨xs, q, (Option.some.inj e).symm⟩
    · cases e
  refine ⟨fun i H1 ρ1 h d k hr e => ?_, fun i H1 ρ1 h d v H' k hr e y => ?_, fun i H1 ρ1 h k hr e => ?_⟩
  · obtain ⟨xs, q, e⟩ := gt e
    obtain ⟨vs, h1, h2⟩ := at_l ha k hr q
    obtain ⟨x, hx, _⟩ := Option.map_eq_some_iff.mp e.symm
    obtain ⟨v, hv, _⟩ := h2.get hx
    exact ⟨vs, v, h1, hv⟩
  · obtain ⟨xs, q, e⟩ := gt e
    obtain ⟨vs, h1, h2⟩ := at_l ha k hr q
    obtain ⟨x, hx, ed⟩ := Option.map_eq_some_iff.mp e.symm
    obtain ⟨v', hv, iv⟩ := h2.get hx
    obtain ⟨T, u, ev, hT, eH, q⟩ := y
    have := q vs h1
    rw [hv] at this
    cases this
    subst ev eH ed
    refine ⟨.inr ⟨T, _, hT, rfl⟩, ?_⟩
    have t : Tr g.tb ρ1 H1 ρ1 (upd H1 T (.tup [.int (i : Nat), v'])) := Tr.new hr.tabs hT
    rw [Is]
    refine ⟨T, _, rfl, SqT.of upd_same, IsL.mono (ds := [D.int (i : Nat), x]) (vs := [V.int (i : Nat), v']) (IsL.cons (by rw [Is]) (IsL.cons iv IsL.nil)) t⟩
  · obtain ⟨xs, q, e⟩ := gt e
    obtain ⟨vs, h1, h2⟩ := at_l ha k hr q
    have : xs[i]? = none := Option.map_eq_none_iff.mp e.symm
    have := List.getElem?_eq_none_iff.mp this
    refine ⟨vs, h1, ?_⟩
    rw [← h2.length]
    exact this
theorem src_rev {n m : Nat} {a : Addr} (ha : ρ[n]? = some a) : SrcR g H ρ (.rev n m) (Itv g.K a m) := by
  have gt : ∀ {i : Nat} {h : Hs} {o : Option D}, (Src.rev n m).get h i = some o → (i < m ∧ ∃ xs d, h[n]? = some (.lst xs) ∧ xs[m - 1 - i]? = some d ∧ o = some d) ∨ (m ≤ i ∧ o = none) := fun {i h o} e => by
    have e : (if i < m then match h[n]? with | some (.lst xs) => xs[m - 1 - i]?.map some | _ => none else some none) = some o := e
    split at e
    · rename_i hi
      split at e
      · rename_i xs q
        obtain ⟨d, hd, e⟩ := Option.map_eq_some_iff.mp e
        exact .inl ⟨hi, xs, d, q, hd, e.symm⟩
      · cases e
    · exact .inr ⟨by omega, (Option.some.inj e).symm⟩
  refine ⟨fun i H1 ρ1 h d k hr e => ?_, fun i H1 ρ1 h d v H' k hr e y => ?_, fun i H1 ρ1 h k hr e => ?_⟩
  · rcases gt e with ⟨hi, xs, d', q, hd, e⟩ | ⟨_, e⟩
    · obtain ⟨vs, h1, h2⟩ := at_l ha k hr q
      obtain ⟨v, hv, _⟩ := h2.get hd
      exact ⟨hi, vs, v, h1, hv⟩
    · cases e
  · rcases gt e with ⟨hi, xs, d', q, hd, e⟩ | ⟨_, e⟩
    · cases e
      obtain ⟨vs, h1, h2⟩ := at_l ha k hr q
      obtain ⟨v', hv, iv⟩ := h2.get hd
      obtain ⟨e1, y⟩ := y
      have := y vs h1
      rw [hv] at this
      cases this
      subst e1
      exact ⟨.inl rfl, iv⟩
    · cases e
  · rcases gt e with ⟨hi, xs, d', q, hd, e⟩ | ⟨hi, _⟩
    · cases e
    · exact hi
def enD : D → Hs → Option Src
  | .tup xs, _ => some (.enT xs)
  | .ref n, h => match h[n]? with
    | some (.lst _) => some (.enL n)
    | _ => none
  | _, _ => none
def rvD : D → Hs → Option Src
  | .tup xs, _ => some (.items xs.reverse)
  | .ref n, h => match h[n]? with
    | some (.lst xs) => some (.rev n xs.length)
    | _ => none
  | _, _ => none
def iEnm (a : Ev) : Iv := fun C env h => (a C env h).bind fun d h1 => opt (enD d h1) fun s => .ok s h1
def iRevV (a : Ev) : Iv := fun C env h => (a C env h).bind fun d h1 => opt (rvD d h1) fun s => .ok s h1
theorem src_rvT {a : Addr} {vs : List V} {xs : List D} (h1 : SqT g.K H a vs) (h2 : IsL g H ρ xs vs) : SrcR g H ρ (.items xs.reverse) (RT.ItvT g.K a vs.length) := by
  have hl := h2.length
  have rv : ∀ {i : Nat}, i < vs.length → xs.reverse[i]? = xs[vs.length - 1 - i]? := fun {i} hi => by
    rw [List.getElem?_reverse (by omega), hl]
  refine ⟨fun i H1 ρ1 h d k _ e => ?_, fun i H1 ρ1 h d v H' k _ e y => ?_, fun i H1 ρ1 h k _ e => ?_⟩
  · have e : xs.reverse[i]? = some d := Option.some.inj e
    have hi : i < vs.length := by
      have := (List.getElem?_eq_some_iff.mp e).1
      rw [List.length_reverse, hl] at this
      exact this
    rw [rv hi] at e
    obtain ⟨v, hv, _⟩ := h2.get e
    exact ⟨hi, vs, v, k.seqT h1, hv⟩
  · have e : xs.reverse[i]? = some d := Option.some.inj e
    have hi : i < vs.length := by
      have := (List.getElem?_eq_some_iff.mp e).1
      rw [List.length_reverse, hl] at this
      exact this
    rw [rv hi] at e
    obtain ⟨v', hv, iv⟩ := h2.get e
    obtain ⟨e1, y⟩ := y
    have := y vs (k.seqT h1)
    rw [hv] at this
    cases this
    subst e1
    exact ⟨.inl rfl, Is.kp k _ _ iv⟩
  · have e : xs.reverse[i]? = none := Option.some.inj e
    have := List.getElem?_eq_none_iff.mp e
    rw [List.length_reverse, hl] at this
    exact this
theorem i_enm (c : Ct g X l j) (hg : Gl X "enumerate") (hm : X.mg "enumerate" = none) {e : Expr} {a : Ev} {elts : List Expr} {kk : Nat} {p pos tpos : Pos} (he : PE X e (wpE g C a)) (hs : starEach [e] X.env = [(false, eval e X.env)]) : PI X (.Tuple elts kk tpos) (.Call (.Name "enumerate" p) [e] [] pos) (wpI g C (iEnm a)) := by
  refine PV.PI.imp (EnT.pi_enumA hg hm (pa_cons he pa_nil hs) hs) fun σ H R ⟨ρ, h, env, hr, hv, p⟩ => ?_
  refine ⟨ρ, h, env, hr, hv, (PostI.bind (R' := Is g) p).mono fun x H1 ⟨ρ1, h1, d, t, hr1, i1, _, p1⟩ => ?_⟩
  obtain ⟨s, es, p2⟩ := p1.opt
  rw [c.K]
  cases d with
  | tup xs =>
    rw [Is] at i1
    obtain ⟨b, vs, rfl, y1, y2⟩ := i1
    cases es
    exact ⟨b, vs, rfl, .inr ⟨y1, p2.same hr1 (src_enT y1 y2)⟩⟩
  | ref n =>
    rw [Is] at i1
    obtain ⟨b, y1, rfl⟩ := i1
    have es : (match h1[n]? with | some (.lst _) => some (.enL n) | _ => none) = some s := es
    split at es
    · rename_i q
      cases es
      obtain ⟨vs, z1, z2⟩ := seqL_of hr1 y1 q
      exact ⟨b, vs, rfl, .inl ⟨SqL.of z1, p2.same hr1 (src_enL y1)⟩⟩
    · cases es
  | _ => cases es
theorem i_revV (c : Ct g X l j) (hg : Gl X "reversed") (hm : X.mg "reversed" = none) {tg e : Expr} {a : Ev} {p pos : Pos} (he : PE X e (wpE g C a)) (hs : starEach [e] X.env = (false, eval e X.env) :: starEach [] X.env) : PI X tg (.Call (.Name "reversed" p) [e] [] pos) (wpI g C (iRevV a)) := by
  refine PV.PI.imp (RT.pi_revA hg hm he hs) fun σ H R ⟨ρ, h, env, hr, hv, p⟩ => ?_
  refine ⟨ρ, h, env, hr, hv, (PostI.bind (R' := Is g) p).mono fun x H1 ⟨ρ1, h1, d, t, hr1, i1, _, p1⟩ => ?_⟩
  obtain ⟨s, es, p2⟩ := p1.opt
  rw [c.K]
  cases d with
  | tup xs =>
    rw [Is] at i1
    obtain ⟨b, vs, rfl, y1, y2⟩ := i1
    cases es
    exact ⟨b, vs, rfl, .inr ⟨y1, p2.same hr1 (src_rvT y1 y2)⟩⟩
  | ref n =>
    rw [Is] at i1
    obtain ⟨b, y1, rfl⟩ := i1
    have es : (match h1[n]? with | some (.lst xs) => some (.rev n xs.length) | _ => none) = some s := es
    split at es
    · rename_i xs q
      cases es
      obtain ⟨vs, z1, z2⟩ := seqL_of hr1 y1 q
      refine ⟨b, vs, rfl, .inl ⟨SqL.of z1, ?_⟩⟩
      rw [← z2.length]
      exact p2.same hr1 (src_rev y1)
    · cases es
  | _ => cases es
/-! ### zip of two lists of ours, of two tuples -/
def zpD : D → D → Hs → Option Src
  | .tup xs, .tup ys, _ => some (.items (List.zipWith (fun x y => D.tup [x, y]) xs ys))
  | .ref n, .ref m, h => match h[n]?, h[m]? with
    | some (.lst _), some (.lst _) => some (.zpL n m)
    | _, _ => none
  | _, _, _ => none
def iZip (a b : Ev) : Iv := fun C env h => (a C env h).bind fun d h1 => (b C env h1).bind fun e h2 => opt (zpD d e h2) fun s => .ok s h2
theorem src_zpT {a b : Addr} {vs ws : List V} {xs ys : List D} (h1 : SqT g.K H a vs) (h2 : IsL g H ρ xs vs) (h3 : SqT g.K H b ws) (h4 : IsL g H ρ ys ws) : SrcR g H ρ (.items (List.zipWith (fun x y => D.tup [x, y]) xs ys)) (RZ.ItzT g.K a b) := by
  have gt : ∀ {i : Nat} {d : D}, (List.zipWith (fun x y => D.tup [x, y]) xs ys)[i]? = some d → ∃ x y, xs[i]? = some x ∧ ys[i]? = some y ∧ d = .tup [x, y] := fun {i d} e => by
    rw [List.getElem?_zipWith] at e
    cases ex : xs[i]? with
    | none => rw [ex] at e; cases e
    | some x =>
      rw [ex] at e
      cases ey : ys[i]? with
      | none => rw [ey] at e; cases e
      | some y =>
        rw [ey] at e
        cases e
        exact ⟨x, y, rfl, rfl, rfl⟩
  refine ⟨fun i H1 ρ1 h d k _ e => ?_, fun i H1 ρ1 h d v H' k hr e y => ?_, fun i H1 ρ1 h k _ e => ?_⟩
  · obtain ⟨x, y, ex, ey, _⟩ := gt (Option.some.inj e)
    obtain ⟨v, hv, _⟩ := h2.get ex
    obtain ⟨w, hw, _⟩ := h4.get ey
    exact ⟨vs, ws, v, w, k.seqT h1, k.seqT h3, hv, hw⟩
  · obtain ⟨x, y', ex, ey, rfl⟩ := gt (Option.some.inj e)
    obtain ⟨v', hv, iv⟩ := h2.get ex
    obtain ⟨w', hw, iw⟩ := h4.get ey
    obtain ⟨T, u, u2, ev, hT, eH, q1, q2⟩ := y
    have a1 := q1 vs (k.seqT h1)
    rw [hv] at a1
    cases a1
    have a2 := q2 ws (k.seqT h3)
    rw [hw] at a2
    cases a2
    subst ev eH
    refine ⟨.inr ⟨T, _, hT, rfl⟩, ?_⟩
    have t : Tr g.tb ρ1 H1 ρ1 (upd H1 T (.tup [v', w'])) := Tr.new hr.tabs hT
    rw [Is]
    refine ⟨T, _, rfl, SqT.of upd_same, IsL.mono (ds := [x, y']) (vs := [v', w']) (IsL.cons (Is.kp k _ _ iv) (IsL.cons (Is.kp k _ _ iw) IsL.nil)) t⟩
  · have e : (List.zipWith (fun x y => D.tup [x, y]) xs ys)[i]? = none := Option.some.inj e
    have hl := List.getElem?_eq_none_iff.mp e
    rw [List.length_zipWith, h2.length, h4.length] at hl
    exact ⟨vs, ws, k.seqT h1, k.seqT h3, by omega⟩
theorem src_zpL {n m : Nat} {a b : Addr} (ha : ρ[n]? = some a) (hb : ρ[m]? = some b) : SrcR g H ρ (.zpL n m) (Itz g.K a b) := by
  have gt : ∀ {i : Nat} {h : Hs} {o : Option D}, (Src.zpL n m).get h i = some o → ∃ xs ys, h[n]? = some (.lst xs) ∧ h[m]? = some (.lst ys) ∧ o = (match xs[i]?, ys[i]? with | some x, some y => some (.tup [x, y]) | _, _ => none) := fun {i h o} e => by
    have e : (match h[n]?, h[m]? with | some (.lst xs), some (.lst ys) => some (match xs[i]?, ys[i]? with | some x, some y => some (D.tup [x, y]) | _, _ => none) | _, _ => none) = some o := e
    split at e
    · rename_i xs ys q1 q2; exact ⟨xs, ys, q1, q2, (Option.some.inj e).symm⟩
    · cases e
  have gd : ∀ {xs ys : List D} {i : Nat} {d : D}, some d = (match xs[i]?, ys[i]? with | some x, some y => some (D.tup [x, y]) | _, _ => none) → ∃ x y, xs[i]? = some x ∧ ys[i]? = some y ∧ d = .tup [x, y] := fun {xs ys i d} e => by
    split at e
    · rename_i x y q1 q2; cases e; exact ⟨x, y, q1, q2, rfl⟩
    · cases e
  refine ⟨fun i H1 ρ1 h d k hr e => ?_, fun i H1 ρ1 h d v H' k hr e y => ?_, fun i H1 ρ1 h k hr e => ?_⟩
  · obtain ⟨xs, ys, q1, q2, e⟩ := gt e
    obtain ⟨x, y, ex, ey, _⟩ := gd e
    obtain ⟨vs, h1, h2⟩ := at_l ha k hr q1
    obtain ⟨ws, h3, h4⟩ := at_l hb k hr q2
    obtain ⟨v, hv, _⟩ := h2.get ex
    obtain ⟨w, hw, _⟩ := h4.get ey
    exact ⟨vs, ws, v, w, h1, h3, hv, hw⟩
  · obtain ⟨xs, ys, q1, q2, e⟩ := gt e
    obtain ⟨x, y', ex, ey, rfl⟩ := gd e
    obtain ⟨vs, h1, h2⟩ := at_l ha k hr q1
    obtain ⟨ws, h3, h4⟩ := at_l hb k hr q2
    obtain ⟨v', hv, iv⟩ := h2.get ex
    obtain ⟨w', hw, iw⟩ := h4.get ey
    obtain ⟨T, u, u2, ev, hT, eH, q3, q4⟩ := y
    have a1 := q3 vs h1
    rw [hv] at a1
    cases a1
    have a2 := q4 ws h3
    rw [hw] at a2
    cases a2
    subst ev eH
    refine ⟨.inr ⟨T, _, hT, rfl⟩, ?_⟩
    have t : Tr g.tb ρ1 H1 ρ1 (upd H1 T (.tup [v', w'])) := Tr.new hr.tabs hT
    rw [Is]
    exact ⟨T, _, rfl, SqT.of upd_same, IsL.mono (ds := [x, y']) (vs := [v', w']) (IsL.cons iv (IsL.cons iw IsL.nil)) t⟩
  · obtain ⟨xs, ys, q1, q2, e⟩ := gt e
    obtain ⟨vs, h1, h2⟩ := at_l ha k hr q1
    obtain ⟨ws, h3, h4⟩ := at_l hb k hr q2
    refine ⟨vs, ws, h1, h3, ?_⟩
    rw [← h2.length, ← h4.length]
    apply Classical.byContradiction
    intro z
    rw [not_or, Nat.not_le, Nat.not_le] at z
    rw [List.getElem?_eq_getElem z.1, List.getElem?_eq_getElem z.2] at e
    cases e
theorem i_zip (c : Ct g X l j) (hg : Gl X "zip") (hm : X.mg "zip" = none) {e e2 : Expr} {a b : Ev} {elts : List Expr} {kk : Nat} {p pos tpos : Pos} (he : PE X e (wpE g C a)) (he2 : PE X e2 (wpE g C b)) (hs : starEach [e, e2] X.env = (false, eval e X.env) :: starEach [e2] X.env) (hs2 : starEach [e2] X.env = [(false, eval e2 X.env)]) :
    PI X (.Tuple elts kk tpos) (.Call (.Name "zip" p) [e, e2] [] pos) (wpI g C (iZip a b)) := by
  refine PV.PI.imp (RZ.pi_zipA hg hm (pa_cons he (pa_cons he2 pa_nil hs2) hs) hs (by rw [hs2]; rfl)) fun σ H R ⟨ρ, h, env, hr, hv, p⟩ => ?_
  refine ⟨ρ, h, env, hr, hv, (PostI.bind (R' := Is g) p).mono fun x H1 ⟨ρ1, h1, d, t, hr1, i1, _, p1⟩ => ?_⟩
  refine ⟨ρ1, h1, env, hr1, hv.mono t, (PostI.bind (R' := Is g) p1).mono fun y H2 ⟨ρ2, h2, e', t2, hr2, i2, _, p2⟩ => ?_⟩
  have i1 := i1.mono t2
  obtain ⟨s, es, p3⟩ := p2.opt
  rw [c.K]
  cases d with
  | tup xs =>
    cases e' with
    | tup ys =>
      rw [Is] at i1 i2
      obtain ⟨a1, vs, rfl, y1, y2⟩ := i1
      obtain ⟨b1, ws, rfl, y3, y4⟩ := i2
      cases es
      exact ⟨a1, b1, vs, ws, rfl, .inr ⟨y1, y3, p3.same hr2 (src_zpT y1 y2 y3 y4)⟩⟩
    | _ => cases es
  | ref n =>
    cases e' with
    | ref m =>
      rw [Is] at i1 i2
      obtain ⟨a1, y1, rfl⟩ := i1
      obtain ⟨b1, y2, rfl⟩ := i2
      have es : (match h2[n]?, h2[m]? with | some (.lst _), some (.lst _) => some (.zpL n m) | _, _ => none) = some s := es
      split at es
      · rename_i q1 q2
        cases es
        obtain ⟨vs, z1, z2⟩ := seqL_of hr2 y1 q1
        obtain ⟨ws, z3, z4⟩ := seqL_of hr2 y2 q2
        exact ⟨a1, b1, vs, ws, rfl, .inl ⟨SqL.of z1, SqL.of z3, p3.same hr2 (src_zpL y1 y2)⟩⟩
      · cases es
    | _ => cases es
  | _ => cases es
/-! ### range -/
def rangeD (lo : Int) (n : Nat) : List D := (List.range n).map fun (k : Nat) => D.int (lo + k)
def rangeC (lo c : Int) (n : Nat) : List D := (List.range n).map fun (k : Nat) => D.int (lo + (k : Nat) * c)
def small62 (i : Int) : Bool := decide (i.natAbs.log2 < 62)
theorem log2_is {i : Int} {n : Nat} (h : i.natAbs.log2 < n) : -(2 ^ n) < i ∧ i < 2 ^ n := by
  have h1 : i.natAbs < 2 ^ n := by
    by_cases z : i.natAbs = 0
    · rw [z]; exact Nat.two_pow_pos n
    · exact (Nat.log2_lt z).mp h
  have h2 : ((2 ^ n : Nat) : Int) = 2 ^ n := by simp
  omega
/-- a range's two ends -/
abbrev Rv := CF → Env' → Hs → Res (Int × Int)
def rg1 (a : Ev) : Rv := fun C env h => (a C env h).bind fun d h1 => opt (intD d) fun n => .ok (0, n) h1
def rg2 (a b : Ev) : Rv := fun C env h => (a C env h).bind fun d h1 => (b C env h1).bind fun e h2 => opt (intD d) fun i => opt (intD e) fun k => .ok (i, k) h2
def rgOk (p : Int × Int) : Bool := small62 p.1 && small62 p.2
def iRng (r : Rv) : Iv := fun C env h => (r C env h).bind fun p h1 => chk (rgOk p) (.ok (.items (rangeD p.1 (p.2 - p.1).toNat)) h1)
def iRev (r : Rv) : Iv := fun C env h => (r C env h).bind fun p h1 => chk (rgOk p) (.ok (.items (rangeC (p.1 + (((p.2 - p.1).toNat : Nat) : Int) - 1) (-1) (p.2 - p.1).toNat)) h1)
theorem src_rngC (lo c : Int) (n : Nat) : SrcR g H ρ (.items (rangeC lo c n)) (Itc lo c n) := by
  have len : (rangeC lo c n).length = n := by simp [rangeC]
  refine ⟨fun i H1 ρ1 h d k _ e => ?_, fun i H1 ρ1 h d v H' k _ e y => ?_, fun i H1 ρ1 h k _ e => ?_⟩
  · have e : (rangeC lo c n)[i]? = some d := Option.some.inj e
    have := (List.getElem?_eq_some_iff.mp e).1
    rw [len] at this
    exact this
  · have e : (rangeC lo c n)[i]? = some d := Option.some.inj e
    have hi := (List.getElem?_eq_some_iff.mp e).1
    rw [len] at hi
    obtain ⟨e1, e2⟩ := y
    refine ⟨.inl e1, ?_⟩
    have : (rangeC lo c n)[i]? = some (.int (lo + (i : Nat) * c)) := by simp [rangeC, hi]
    rw [this] at e
    cases e
    rw [e2, Is]
  · have e : (rangeC lo c n)[i]? = none := Option.some.inj e
    have := List.getElem?_eq_none_iff.mp e
    rw [len] at this
    exact this
theorem src_rng (lo : Int) (n : Nat) : SrcR g H ρ (.items (rangeD lo n)) (Itr lo n) := by
  have len : (rangeD lo n).length = n := by simp [rangeD]
  refine ⟨fun i H1 ρ1 h d k _ e => ?_, fun i H1 ρ1 h d v H' k _ e y => ?_, fun i H1 ρ1 h k _ e => ?_⟩
  · have e : (rangeD lo n)[i]? = some d := Option.some.inj e
    have := (List.getElem?_eq_some_iff.mp e).1
    rw [len] at this
    exact this
  · have e : (rangeD lo n)[i]? = some d := Option.some.inj e
    have hi := (List.getElem?_eq_some_iff.mp e).1
    rw [len] at hi
    obtain ⟨e1, e2⟩ := y
    refine ⟨.inl e1, ?_⟩
    have : (rangeD lo n)[i]? = some (.int (lo + i)) := by simp [rangeD, hi]
    rw [this] at e
    cases e
    rw [e2, Is]
  · have e : (rangeD lo n)[i]? = none := Option.some.inj e
    have := List.getElem?_eq_none_iff.mp e
    rw [len] at this
    exact this
/-- the reading of a range -/
def wpR (g : G) (C : CF) (r : Rv) : L2.St → Hp → (Int → Int → Hp → Prop) → Prop := fun σ H Q => ∃ ρ h env, HR g ρ H h ∧ EnvR g H ρ env σ ∧ Post g (fun _ _ (a b : Int × Int) => b = a) (r C env h) ρ H (fun p H1 => ∃ ρ1 h1, Tr g.tb ρ H ρ1 H1 ∧ HR g ρ1 H1 h1 ∧ r C env h = .ok p h1 ∧ Q p.1 p.2 H1)
theorem wpR.rg1 {a : Ev} {σ : L2.St} {Q : Int → Int → Hp → Prop} (q : wpR g C (rg1 a) σ H Q) : tRg1 (wpE g C a) σ H Q := by
  obtain ⟨ρ, h, env, hr, hv, p⟩ := q
  refine ⟨ρ, h, env, hr, hv, (Post.bind (R := Is g) p).mono fun x H1 ⟨ρ1, h1, d, t, hr1, i1, _, p1⟩ => ?_⟩
  obtain ⟨n, en, p2⟩ := p1.opt
  obtain ⟨_, _, _, _, _, q⟩ := p2 (0, n) ρ1 H1 (Tr.refl hr1.tabs) hr1 rfl
  exact ⟨n, intD_is en i1, q⟩
theorem wpR.rg2 {a b : Ev} {σ : L2.St} {Q : Int → Int → Hp → Prop} (q : wpR g C (rg2 a b) σ H Q) : tRg2 (wpE g C a) (wpE g C b) σ H Q := by
  obtain ⟨ρ, h, env, hr, hv, p⟩ := q
  refine ⟨ρ, h, env, hr, hv, (Post.bind (R := Is g) p).mono fun x H1 ⟨ρ1, h1, d, t, hr1, i1, _, p1⟩ => ?_⟩
  refine ⟨ρ1, h1, env, hr1, hv.mono t, (Post.bind (R := Is g) p1).mono fun y H2 ⟨ρ2, h2, e, t2, hr2, i2, _, p2⟩ => ?_⟩
  obtain ⟨n, en, p3⟩ := p2.opt
  obtain ⟨m, em, p4⟩ := p3.opt
  obtain ⟨_, _, _, _, _, q⟩ := p4 (n, m) ρ2 H2 (Tr.refl hr2.tabs) hr2 rfl
  exact ⟨n, m, intD_is en (i1.mono t2), intD_is em i2, q⟩
/-- a range that stands in a call -/
theorem wpR.of {α β : Type} {R' : Hp → List Addr → α → β → Prop} {r : Rv} {f : Int × Int → Hs → Res α} {σ : L2.St} {Q : Int → Int → Hp → Prop} {Q' : β → Hp → Prop} {ρ : List Addr} {h : Hs} {env : Env'} (hr : HR g ρ H h) (hv : EnvR g H ρ env σ) (p : Post g R' ((r C env h).bind f) ρ H Q')
    (k : ∀ a b H1 ρ1 h1, Tr g.tb ρ H ρ1 H1 → HR g ρ1 H1 h1 → Post g R' (f (a, b) h1) ρ1 H1 Q' → Q a b H1) : wpR g C r σ H Q := by
  refine ⟨ρ, h, env, hr, hv, (Post.bind (R := fun _ _ (a b : Int × Int) => b = a) p).mono fun x H1 ⟨ρ1, h1, d, t, hr1, i1, e, p1⟩ => ?_⟩
  subst i1
  exact ⟨ρ1, h1, t, hr1, e, k _ _ H1 ρ1 h1 t hr1 p1⟩
theorem wpR.ofI {r : Rv} {f : Int × Int → Hs → Res Src} {σ : L2.St} {Q : Int → Int → Hp → Prop} {R : It → Hp → Prop} {ρ : List Addr} {h : Hs} {env : Env'} (hr : HR g ρ H h) (hv : EnvR g H ρ env σ) (p : PostI g ((r C env h).bind f) ρ H R)
    (k : ∀ a b H1 ρ1 h1, Tr g.tb ρ H ρ1 H1 → HR g ρ1 H1 h1 → PostI g (f (a, b) h1) ρ1 H1 R → Q a b H1) : wpR g C r σ H Q := by
  refine ⟨ρ, h, env, hr, hv, (PostI.bind (R' := fun _ _ (a b : Int × Int) => b = a) p).mono fun x H1 ⟨ρ1, h1, d, t, hr1, i1, e, p1⟩ => ?_⟩
  subst i1
  exact ⟨ρ1, h1, t, hr1, e, k _ _ H1 ρ1 h1 t hr1 p1⟩
theorem rgOk_is {p : Int × Int} (h : rgOk p = true) : -(2 ^ 62) ≤ p.1 ∧ p.1 < 2 ^ 62 ∧ -(2 ^ 62) ≤ p.2 ∧ p.2 < 2 ^ 62 := by
  unfold rgOk small62 at h
  simp only [Bool.and_eq_true, decide_eq_true_eq] at h
  have h1 := log2_is h.1
  have h2 := log2_is h.2
  exact ⟨Int.le_of_lt h1.1, h1.2, Int.le_of_lt h2.1, h2.2⟩
theorem i_rng1 (hg : Gl X "range") (hm : X.mg "range" = none) {tg a : Expr} {f : Ev} {p pos : Pos} (ha : PE X a (wpE g C f)) (hs : starEach [a] X.env = [(false, eval a X.env)]) : PI X tg (.Call (.Name "range" p) [a] [] pos) (wpI g C (iRng (rg1 f))) := by
  refine PV.PI.imp (pi_range1 hg hm (pa_cons ha pa_nil hs) hs) fun σ H R ⟨ρ, h, env, hr, hv, p⟩ => ?_
  have q : wpR g C (rg1 f) σ H (fun a b H1 => a = 0 → -(2 ^ 62) ≤ b ∧ b < 2 ^ 62 ∧ R (Itr 0 b.toNat) H1) := wpR.ofI hr hv p fun a b H1 ρ1 h1 t hr1 p1 ea => by
    subst ea
    obtain ⟨hb, p2⟩ := p1.chk
    have := rgOk_is hb
    refine ⟨this.2.2.1, this.2.2.2, ?_⟩
    have e : ((b - 0).toNat) = b.toNat := by rw [Int.sub_zero]
    have p2 : PostI g (.ok (.items (rangeD 0 (b - 0).toNat)) h1) ρ1 H1 R := p2
    rw [e] at p2
    exact p2.same hr1 (src_rng _ _)
  obtain ⟨ρ', h', env', hr', hv', p'⟩ := wpR.rg1 q
  refine ⟨ρ', h', env', hr', hv', p'.mono fun x H1 ⟨n, ex, q⟩ => ?_⟩
  subst ex
  obtain ⟨a1, a2, a3⟩ := q rfl
  exact ⟨n, rfl, a1, a2, a3⟩
theorem i_rng2 (hg : Gl X "range") (hm : X.mg "range" = none) {tg a b : Expr} {f1 f2 : Ev} {p pos : Pos} (ha : PE X a (wpE g C f1)) (hb : PE X b (wpE g C f2)) (hs : starEach [a, b] X.env = [(false, eval a X.env), (false, eval b X.env)]) (hs2 : starEach [b] X.env = [(false, eval b X.env)]) :
    PI X tg (.Call (.Name "range" p) [a, b] [] pos) (wpI g C (iRng (rg2 f1 f2))) := by
  refine PV.PI.imp (pi_range2 hg hm (pa_cons ha (pa_cons hb pa_nil hs2) (by rw [hs, hs2])) hs hs2) fun σ H R ⟨ρ, h, env, hr, hv, p⟩ => ?_
  have q : wpR g C (rg2 f1 f2) σ H (fun a b H1 => (-(2 ^ 62) ≤ a ∧ a < 2 ^ 62 ∧ -(2 ^ 62) ≤ b ∧ b < 2 ^ 62) ∧ R (Itr a (b - a).toNat) H1) := wpR.ofI hr hv p fun a b H1 ρ1 h1 t hr1 p1 => by
    obtain ⟨hb, p2⟩ := p1.chk
    exact ⟨rgOk_is hb, p2.same hr1 (src_rng _ _)⟩
  obtain ⟨ρ', h', env', hr', hv', p'⟩ := wpR.rg2 q
  refine ⟨ρ', h', env', hr', hv', p'.mono fun x H1 ⟨ρ1, h1, e1, hr1, hv1, p1⟩ => ⟨ρ1, h1, e1, hr1, hv1, p1.mono fun y H2 ⟨i, k, ex, ey, q1, q2⟩ => ⟨i, k, by rw [ex, ey], q1, q2⟩⟩⟩
theorem i_rev (hg : Gl X "reversed") (hm : X.mg "reversed" = none) {tg e : Expr} {r : Rv} {p pos : Pos} {t : L2.St → Hp → (Int → Int → Hp → Prop) → Prop} (he : PRg X e t) (ht : ∀ σ H Q, wpR g C r σ H Q → t σ H Q) (hs : starEach [e] X.env = (false, eval e X.env) :: starEach [] X.env) : PI X tg (.Call (.Name "reversed" p) [e] [] pos) (wpI g C (iRev r)) := by
  refine PV.PI.imp (pi_revR hg hm he hs) fun σ H R ⟨ρ, h, env, hr, hv, p⟩ => ht _ _ _ ?_
  exact wpR.ofI hr hv p fun a b H1 ρ1 h1 t hr1 p1 => by
    obtain ⟨hb, p2⟩ := p1.chk
    have := rgOk_is hb
    exact ⟨this.1, this.2.1, this.2.2.1, this.2.2.2, p2.same hr1 (src_rngC _ _ _)⟩
/-- list(range(..)), tuple(range(..)) -/
def eLstR (r : Rv) : Ev := fun C env h => (r C env h).bind fun p h1 => chk (rgOk p && decide ((p.2 - p.1).toNat ≤ 100000)) (mk (.lst (rangeD p.1 (p.2 - p.1).toNat)) h1)
def eTupR (r : Rv) : Ev := fun C env h => (r C env h).bind fun p h1 => chk (rgOk p && decide ((p.2 - p.1).toNat ≤ 100000)) (.ok (.tup (rangeD p.1 (p.2 - p.1).toNat)) h1)
theorem rgV_is (a b : Int) : IsL g H ρ (rangeD a (b - a).toNat) (rgV a b) := by
  have : rgV a b = (List.range (b - a).toNat).map fun (k : Nat) => V.int (a + k) := rfl
  rw [this]
  unfold rangeD
  induction List.range (b - a).toNat with
  | nil => exact IsL.nil
  | cons k r ih => exact IsL.cons (by rw [Is]) ih
end
end PV
end

section
set_option Elab.async false
set_option linter.all false
set_option maxRecDepth 100000
set_option maxHeartbeats 4000000
/-! V7: targets, statements, loops, list comprehensions. -/
namespace PV
open PySem PySem.Spec PyProof.Rows L2 GX GxR PG C8
open PySem.W (EachIs)

/-! ### targets -/
/-- a target: what it does, which names it stores -/
structure Tg where
  run : D → Env' → Hs → Res Env'
  slots : List Nat
def tgName (i : Nat) : Tg := ⟨fun d env h => .ok (env.set i (some d)) h, [i]⟩
def tgsRun : List Tg → List D → Env' → Hs → Res Env'
  | [], [], env, h => .ok env h
  | t :: ts, d :: ds, env, h => (t.run d env h).bind fun env1 h1 => tgsRun ts ds env1 h1
  | _, _, _, _ => .bad
def tupD : D → Option (List D)
  | .tup xs => some xs
  | _ => none
def tgTup (ts : List Tg) : Tg := ⟨fun d env h => opt (tupD d) fun xs => chk (decide (ts.length = xs.length)) (tgsRun ts xs env h), ts.flatMap Tg.slots⟩
/-- but for these slots -/
def ButFor (is : List Nat) (σ σ' : L2.St) : Prop := σ'.length = σ.length ∧ ∀ k, k ∉ is → σ'[k]? = σ[k]?
theorem ButFor.refl {is : List Nat} {σ : L2.St} : ButFor is σ σ := ⟨rfl, fun _ _ => rfl⟩
theorem ButFor.trans {is js : List Nat} {σ σ1 σ2 : L2.St} (a : ButFor is σ σ1) (b : ButFor js σ1 σ2) : ButFor (is ++ js) σ σ2 := ⟨b.1.trans a.1, fun k hk => by
  rw [List.mem_append, not_or] at hk
  rw [b.2 k hk.2, a.2 k hk.1]⟩
def PostG (g : G) (r : Res Env') (is : List Nat) (σ : L2.St) (ρ : List Addr) (H : Hp) (Q : L2.St → Hp → Prop) : Prop :=
  match r with
  | .ok env' h' => ∀ (σ' : L2.St) (ρ' : List Addr) (H' : Hp), Tr g.tb ρ H ρ' H' → HR g ρ' H' h' → EnvR g H' ρ' env' σ' → ButFor is σ σ' → Q σ' H'
  | _ => False
def wpG (g : G) (t : Tg) : TG := fun v σ H Q => ∃ ρ h env d, HR g ρ H h ∧ EnvR g H ρ env σ ∧ Is g H ρ d v ∧ PostG g (t.run d env h) t.slots σ ρ H Q
section
variable {g : G} {X : Cx} {l : L} {j : Nat} {ρ ρ' ρ1 : List Addr} {H H' H1 : Hp} {h h1 : Hs} {C : CF} {σ : L2.St} {env : Env'}
theorem PG.imp {tg : Expr} {t t' : TG} (p : PG X tg t) (i : ∀ v σ H Q, t' v σ H Q → t v σ H Q) : PG X tg t' := ⟨fun pins s σ H v u Q I r q => p.run pins s σ H v u Q I r (i v σ H Q q)⟩
theorem PGs.imp {tg : List Expr} {t t' : TGs} (p : PGs X tg t) (i : ∀ v σ H Q, t' v σ H Q → t v σ H Q) : PGs X tg t' := ⟨fun pins s σ H v u Q I r q => p.run pins s σ H v u Q I r (i v σ H Q q)⟩
theorem EnvR.set {d : D} {v : V} (e : EnvR g H ρ env σ) (i : Is g H ρ d v) (n : Nat) : EnvR g H ρ (env.set n (some d)) (σ.set n (some v)) := by
  refine ⟨by rw [List.length_set, List.length_set]; exact e.len, fun k u hk => ?_⟩
  by_cases hn : n = k
  · subst hn
    have hl := (List.getElem?_eq_some_iff.mp hk).1
    rw [List.length_set] at hl
    rw [List.getElem?_set_self hl] at hk
    cases hk
    exact ⟨v, List.getElem?_set_self (by rw [← e.len]; exact hl), i⟩
  · rw [List.getElem?_set_ne hn] at hk
    obtain ⟨w, h1, h2⟩ := e.at_ k u hk
    exact ⟨w, by rw [List.getElem?_set_ne hn]; exact h1, h2⟩
/-- a name that may be stored -/
def Sto (l : L) (x : Str) : Prop := l.sc.names.lookup x = some NameKind.local ∨ (l.sc.names.lookup x = some NameKind.cell ∧ x ∈ l.cl)
theorem Sto.loc (c : Ct g X l j) {x : Str} (h : Sto l x) : Loc X.env.scope x := by rw [c.sc]; exact h.imp id And.left
theorem Sto.fn (c : Ct g X l j) {x : Str} (h : Sto l x) : X.fn x = true ∨ X.env.scope.names.lookup x = some .local := by rw [c.sc]; exact h.elim .inr fun z => .inl (c.fn x z.2)
theorem g_name (c : Ct g X l j) {i : Nat} {x : Str} {pos : Pos} (hi : l.N[i]? = some x) (hx : Sto l x) : PG X (.Name x pos) (wpG g (tgName i)) := by
  refine PV.PG.imp (pg_name (X := X) (i := i) (by rw [c.N]; exact c.nd) (by rw [c.N]; exact hi) (hx.loc c) (hx.fn c)) fun v σ H Q ⟨ρ, h, env, d, hr, he, iv, p⟩ => ?_
  refine p _ ρ H (Tr.refl hr.tabs) hr (he.set iv i) ⟨List.length_set, fun k hk => ?_⟩
  have : i ≠ k := fun e => hk (by subst e; exact List.mem_singleton.mpr rfl)
  rw [List.getElem?_set_ne this]
/-- several targets -/
inductive GsOk (g : G) (X : Cx) : List Expr → List Tg → Prop where
  | nil : GsOk g X [] []
  | cons {e : Expr} {t : Tg} {es : List Expr} {ts : List Tg} (h : PG X e (wpG g t)) (hs : (assignEach (e :: es) X.env).map (·.2) = assign e X.env :: (assignEach es X.env).map (·.2)) (r : GsOk g X es ts) : GsOk g X (e :: es) (t :: ts)
def wpGs (g : G) (ts : List Tg) : TGs := fun vs σ H Q => ∃ ρ h env ds, HR g ρ H h ∧ EnvR g H ρ env σ ∧ IsL g H ρ ds vs ∧ PostG g (tgsRun ts ds env h) (ts.flatMap Tg.slots) σ ρ H Q
theorem PostG.bind {r : Res Env'} {f : Env' → Hs → Res Env'} {is js : List Nat} {Q : L2.St → Hp → Prop} (p : PostG g (r.bind f) (is ++ js) σ ρ H Q) :
    PostG g r is σ ρ H fun σ1 H1 => ∃ ρ1 h1 env1, Tr g.tb ρ H ρ1 H1 ∧ HR g ρ1 H1 h1 ∧ EnvR g H1 ρ1 env1 σ1 ∧ r = .ok env1 h1 ∧ PostG g (f env1 h1) js σ1 ρ1 H1 Q := by
  cases r with
  | ok e h =>
    intro σ1 ρ1 H1 t hr he bf
    refine ⟨ρ1, h, e, t, hr, he, rfl, ?_⟩
    have p : PostG g (f e h) (is ++ js) σ ρ H Q := p
    cases q : f e h with
    | ok e2 h2 =>
      rw [q] at p
      exact fun σ2 ρ2 H2 t2 hr2 he2 bf2 => p σ2 ρ2 H2 (t.trans t2) hr2 he2 (bf.trans bf2)
    | err => rw [q] at p; exact p
    | bad => rw [q] at p; exact p
  | err => exact p
  | bad => exact p
theorem PostG.mono {r : Res Env'} {is : List Nat} {Q Q' : L2.St → Hp → Prop} (p : PostG g r is σ ρ H Q) (i : ∀ σ H, Q σ H → Q' σ H) : PostG g r is σ ρ H Q' := by
  cases r with
  | ok e h => exact fun σ1 ρ1 H1 t hr he bf => i _ _ (p σ1 ρ1 H1 t hr he bf)
  | err => exact p
  | bad => exact p
theorem gs_of : ∀ {es : List Expr} {ts : List Tg}, GsOk g X es ts → PGs X es (wpGs g ts)
  | _, _, .nil => PV.PGs.imp pgs_nil fun vs σ H Q ⟨ρ, h, env, ds, hr, he, i, p⟩ => by
    cases ds with
    | nil =>
      rw [IsL] at i
      exact ⟨i, p σ ρ H (Tr.refl hr.tabs) hr he .refl⟩
    | cons _ _ => exact p.elim
  | _, _, .cons h1 hs r => PV.PGs.imp (pgs_cons h1 (gs_of r) hs) fun vs σ H Q ⟨ρ, h, env, ds, hr, he, i, p⟩ => by
    cases ds with
    | nil => exact p.elim
    | cons d ds =>
      rw [IsL] at i
      obtain ⟨v, w, e, i1, i2⟩ := i
      refine ⟨v, w, e, ρ, h, env, d, hr, he, i1, ?_⟩
      have p : PostG g ((Tg.run _ d env h).bind fun env1 h1 => tgsRun _ ds env1 h1) (_ ++ _) σ ρ H Q := p
      exact p.bind.mono fun σ1 H1 ⟨ρ1, h1, env1, t, hr1, he1, _, p1⟩ => ⟨ρ1, h1, env1, ds, hr1, he1, i2.mono t, p1⟩
theorem tupD_is {d : D} {v : V} {xs : List D} (e : tupD d = some xs) (i : Is g H ρ d v) : ∃ a vs, v = .ref a ∧ SqT g.K H a vs ∧ IsL g H ρ xs vs := by
  cases d with
  | tup ys =>
    cases e
    rw [Is] at i
    obtain ⟨a, vs, h1, h2, h3⟩ := i
    exact ⟨a, vs, h1, h2, h3⟩
  | _ => cases e
theorem PostG.opt {γ : Type} {o : Option γ} {f : γ → Res Env'} {is : List Nat} {Q : L2.St → Hp → Prop} (p : PostG g (opt o f) is σ ρ H Q) : ∃ a, o = some a ∧ PostG g (f a) is σ ρ H Q := by
  cases o with
  | some a => exact ⟨a, rfl, p⟩
  | none => exact p.elim
theorem PostG.chk {b : Bool} {r : Res Env'} {is : List Nat} {Q : L2.St → Hp → Prop} (p : PostG g (chk b r) is σ ρ H Q) : b = true ∧ PostG g r is σ ρ H Q := by
  cases b with
  | true => exact ⟨rfl, p⟩
  | false => exact p.elim
theorem GsOk.len : ∀ {es : List Expr} {ts : List Tg}, GsOk g X es ts → (assignEach es X.env).length = ts.length
  | _, _, .nil => rfl
  | _, _, .cons _ hs r => by
    have := congrArg List.length hs
    rw [List.length_map, List.length_cons, List.length_map, r.len] at this
    rw [this, List.length_cons]
theorem g_tup (c : Ct g X l j) {es : List Expr} {ts : List Tg} {k : Nat} {pos : Pos} (h : GsOk g X es ts) (hst : (assignEach es X.env).findIdx? (·.1) = none) : PG X (.Tuple es k pos) (wpG g (tgTup ts)) := by
  refine PV.PG.imp (pg_tup c.calm (gs_of h) h.len hst) fun v σ H Q ⟨ρ, h, env, d, hr, he, iv, p⟩ => ?_
  obtain ⟨xs, ex, p1⟩ := PostG.opt p
  obtain ⟨hb, p2⟩ := PostG.chk p1
  rw [decide_eq_true_eq] at hb
  obtain ⟨a, vs, rfl, h1, h2⟩ := tupD_is ex iv
  exact ⟨a, vs, rfl, by rw [c.K]; exact h1, by rw [← h2.length, hb], ρ, h, env, xs, hr, he, h2, p2⟩

/-! ### statements -/
end
@[reducible] def Res.toS {α : Type} (r : Res α) (f : α → Hs → RS) : RS :=
  match r with
  | .ok a h => f a h
  | .err c fs h => .err c fs h
  | .bad => .bad
/-- a statement, then another -/
@[reducible] def RS.seq (r : RS) (f : Env' → Hs → RS) : RS :=
  match r with
  | .nx e h => f e h
  | .rt d h => .rt d h
  | .bk e h => .bk e h
  | .ct e h => .ct e h
  | .err c fs h => .err c fs h
  | .bad => .bad
def sNil : Sv := fun _ env h => .nx env h
def sCons (a b : Sv) : Sv := fun C env h => (a C env h).seq fun e h1 => b C e h1
def sExpr (a : Ev) : Sv := fun C env h => (a C env h).toS fun _ h1 => .nx env h1
def sRet (a : Ev) : Sv := fun C env h => (a C env h).toS fun d h1 => .rt d h1
def sRetN : Sv := fun _ _ h => .rt .non h
def sAsg (a : Ev) (t : Tg) : Sv := fun C env h => (a C env h).toS fun d h1 => (t.run d env h1).toS fun e h2 => .nx e h2
def sIf (t : Tv) (a b : Sv) : Sv := fun C env h => (t C env h).toS fun k h1 => if k = true then a C env h1 else b C env h1
def sBreak : Sv := fun _ env h => .bk env h
def sCont : Sv := fun _ env h => .ct env h
def sBad : Sv := fun _ _ _ => .bad
/-- one turn's end: on with the next, or out -/
@[reducible] def RS.turn (r : RS) (f : Env' → Hs → RS) : RS :=
  match r with
  | .nx e h => f e h
  | .ct e h => f e h
  | .bk e h => .nx e h
  | .rt d h => .rt d h
  | .err c fs h => .err c fs h
  | .bad => .bad
def forS (C : CF) (src : Src) (t : Tg) (body : Sv) : Nat → Nat → Env' → Hs → RS
  | 0, _, _, _ => .bad
  | n + 1, i, env, h => match src.get h i with
    | none => .bad
    | some none => .nx env h
    | some (some d) => (t.run d env h).toS fun e h1 => (body C e h1).turn fun e h2 => forS C src t body n (i + 1) e h2
def sFor (it : Iv) (t : Tg) (body : Sv) : Sv := fun C env h => (it C env h).toS fun src h1 => forS C src t body (src.size h1 + 1) 0 env h1
def whileS (C : CF) (t : Tv) (body : Sv) : Nat → Env' → Hs → RS
  | 0, _, _ => .bad
  | n + 1, env, h => (t C env h).toS fun k h1 => if k = true then (body C env h1).turn fun e h2 => whileS C t body n e h2 else .nx env h1
def sWhile (t : Tv) (body : Sv) : Sv := fun C env h => whileS C t body 1000000 env h
section
variable {g : G} {X : Cx} {l : L} {j : Nat} {ρ ρ' ρ1 : List Addr} {H H' H1 : Hp} {h h1 : Hs} {C : CF} {σ : L2.St} {env : Env'} {pos : Pos}
theorem PostS.toS {α β : Type} {R : Hp → List Addr → α → β → Prop} {r : Res α} {f : α → Hs → RS} {Dd : Ends} (p : PostS g (r.toS f) ρ H Dd) :
    Post g R r ρ H fun v H1 => ∃ ρ1 h1 d, Tr g.tb ρ H ρ1 H1 ∧ HR g ρ1 H1 h1 ∧ R H1 ρ1 d v ∧ r = .ok d h1 ∧ PostS g (f d h1) ρ1 H1 Dd := by
  cases r with
  | ok d h => exact fun v ρ' H' t hr hi => ⟨ρ', h, d, t, hr, hi, rfl, p.tr t⟩
  | err => exact p
  | bad => exact p
theorem PostS.toG {r : Res Env'} {f : Env' → Hs → RS} {is : List Nat} {Dd : Ends} (p : PostS g (r.toS f) ρ H Dd) :
    PostG g r is σ ρ H fun σ1 H1 => ∃ ρ1 h1 e, Tr g.tb ρ H ρ1 H1 ∧ HR g ρ1 H1 h1 ∧ EnvR g H1 ρ1 e σ1 ∧ PostS g (f e h1) ρ1 H1 Dd := by
  cases r with
  | ok d h => exact fun σ' ρ' H' t hr he _ => ⟨ρ', h, d, t, hr, he, p.tr t⟩
  | err => exact p
  | bad => exact p
theorem PostS.toI {r : Res Src} {f : Src → Hs → RS} {Dd : Ends} (p : PostS g (r.toS f) ρ H Dd) :
    PostI g r ρ H fun J H1 => ∃ ρ1 h1 s, Tr g.tb ρ H ρ1 H1 ∧ HR g ρ1 H1 h1 ∧ SrcR g H1 ρ1 s J ∧ PostS g (f s h1) ρ1 H1 Dd := by
  cases r with
  | ok d h => exact fun J ρ' H' t hr x => ⟨ρ', h, d, t, hr, x, p.tr t⟩
  | err => exact p
  | bad => exact p
theorem ss_nil : PSs X [] (wpS g C sNil) := PV.PSs.imp pss_nil fun D σ H ⟨ρ, h, env, hr, he, p⟩ => p σ ρ H (Tr.refl hr.tabs) hr he
theorem ss_cons {st : Stmt} {rest : List Stmt} {a b : Sv} (h1 : PS X st (wpS g C a)) (h2 : PSs X rest (wpS g C b)) : PSs X (st :: rest) (wpS g C (sCons a b)) := by
  refine PV.PSs.imp (pss_cons h1 h2) fun D σ H ⟨ρ, h, env, hr, he, p⟩ => ⟨ρ, h, env, hr, he, ?_⟩
  have p : PostS g ((a C env h).seq fun e h1 => b C e h1) ρ H D := p
  cases q : a C env h with
  | nx e h1 => rw [q] at p; exact fun σ' ρ' H' t hr' he' => ⟨ρ', h1, e, hr', he', PostS.tr t p⟩
  | rt d h1 => rw [q] at p; exact p
  | bk e h1 => rw [q] at p; exact p
  | ct e h1 => rw [q] at p; exact p
  | err => rw [q] at p; exact p
  | bad => rw [q] at p; exact p
theorem s_pass : PS X (.Pass pos) (wpS g C sNil) := PV.PS.imp ps_pass fun D σ H ⟨ρ, h, env, hr, he, p⟩ => p σ ρ H (Tr.refl hr.tabs) hr he
theorem s_break : PS X (.Break pos) (wpS g C sBreak) := PV.PS.imp ps_break fun D σ H ⟨ρ, h, env, hr, he, p⟩ => p σ ρ H (Tr.refl hr.tabs) hr he
theorem s_cont : PS X (.Continue pos) (wpS g C sCont) := PV.PS.imp ps_continue fun D σ H ⟨ρ, h, env, hr, he, p⟩ => p σ ρ H (Tr.refl hr.tabs) hr he
theorem s_bad {st : Stmt} : PS X st (wpS g C sBad) := ⟨fun _ _ _ _ _ _ ⟨_, _, _, _, _, p⟩ => p.elim⟩
theorem s_expr {e : Expr} {a : Ev} (he : PE X e (wpE g C a)) (hs : swapsWith e none pos.line X.env = pure false) : PS X (.Expr e pos) (wpS g C (sExpr a)) := by
  refine PV.PS.imp (ps_expr he hs) fun D σ H ⟨ρ, h, env, hr, hv, p⟩ => ⟨ρ, h, env, hr, hv, (PostS.toS (R := Is g) p).mono fun x H1 ⟨ρ1, h1, d, t, hr1, i1, _, p1⟩ => ?_⟩
  exact p1 σ ρ1 H1 (Tr.refl hr1.tabs) hr1 (hv.mono t)
theorem s_ret {e : Expr} {a : Ev} (he : PE X e (wpE g C a)) : PS X (.Return (some e) pos) (wpS g C (sRet a)) := by
  refine PV.PS.imp (ps_ret he) fun D σ H ⟨ρ, h, env, hr, hv, p⟩ => ⟨ρ, h, env, hr, hv, (PostS.toS (R := Is g) p).mono fun x H1 ⟨ρ1, h1, d, t, hr1, i1, _, p1⟩ => ?_⟩
  exact p1 x ρ1 H1 (Tr.refl hr1.tabs) hr1 i1
theorem s_retN : PS X (.Return none pos) (wpS g C sRetN) := PV.PS.imp ps_retN fun D σ H ⟨ρ, h, env, hr, he, p⟩ => p .non ρ H (Tr.refl hr.tabs) hr (by rw [Is])
theorem asg_imp {a : Ev} {t : Tg} {D : Ends} (q : wpS g C (sAsg a t) D σ H) : tAsg (wpE g C a) (wpG g t) D σ H := by
  obtain ⟨ρ, h, env, hr, hv, p⟩ := q
  refine ⟨ρ, h, env, hr, hv, (PostS.toS (R := Is g) p).mono fun x H1 ⟨ρ1, h1, d, t, hr1, i1, _, p1⟩ => ?_⟩
  refine ⟨ρ1, h1, env, d, hr1, hv.mono t, i1, (PostS.toG p1).mono fun σ1 H2 ⟨ρ2, h2, e, t2, hr2, he2, p2⟩ => ?_⟩
  exact p2 σ1 ρ2 H2 (Tr.refl hr2.tabs) hr2 he2
theorem s_asg {e tg : Expr} {a : Ev} {t : Tg} (he : PE X e (wpE g C a)) (ht : PG X tg (wpG g t)) (hs : swapsWithSole [tg] e pos.line X.env = pure false) (hw : swappedStores [tg] e X.env = pure none) (h1 : (assignEach [tg] X.env).map (·.2) = [assign tg X.env]) :
    PS X (.Assign [tg] e pos) (wpS g C (sAsg a t)) := PV.PS.imp (ps_asg he ht hs hw h1) fun D σ H q => asg_imp q
theorem s_if {c : Expr} {p q : List Stmt} {t : Tv} {a b : Sv} (ht : PT X c (wpT g C t)) (ha : PSs X p (wpS g C a)) (hb : PSs X q (wpS g C b)) : PS X (.If c p q pos) (wpS g C (sIf t a b)) := by
  refine PV.PS.imp (ps_if ht ha hb) fun D σ H ⟨ρ, h, env, hr, hv, p⟩ => ⟨ρ, h, env, hr, hv, (PostS.toS (R := fun _ _ (b : Bool) c => c = b) p).mono fun x H1 ⟨ρ1, h1, d, t, hr1, i1, _, p1⟩ => ?_⟩
  subst i1
  cases x with
  | true => exact ⟨ρ1, h1, env, hr1, hv.mono t, p1⟩
  | false => exact ⟨ρ1, h1, env, hr1, hv.mono t, p1⟩
/-- a loop's body, one turn -/
theorem turn_of {body : Sv} {f : Env' → Hs → RS} {D : Ends} {N : L2.St → Hp → Prop} (hr : HR g ρ H h) (he : EnvR g H ρ env σ) (p : PostS g ((body C env h).turn f) ρ H D)
    (k : ∀ (σ' : L2.St) (ρ' : List Addr) (H' : Hp) (e' : Env') (h' : Hs), Tr g.tb ρ H ρ' H' → HR g ρ' H' h' → EnvR g H' ρ' e' σ' → PostS g (f e' h') ρ' H' D → N σ' H') : wpS g C body { D with nx := N, ct := N, bk := D.nx } σ H := by
  refine ⟨ρ, h, env, hr, he, ?_⟩
  cases q : body C env h with
  | nx e h1 => rw [q] at p; exact fun σ' ρ' H' t hr' he' => k σ' ρ' H' e h1 t hr' he' (PostS.tr t p)
  | ct e h1 => rw [q] at p; exact fun σ' ρ' H' t hr' he' => k σ' ρ' H' e h1 t hr' he' (PostS.tr t p)
  | bk e h1 => rw [q] at p; exact p
  | rt d h1 => rw [q] at p; exact p
  | err => rw [q] at p; exact p
  | bad => rw [q] at p; exact p
theorem s_for (c : Ct g X l j) {tg iter : Expr} {body : List Stmt} {it : Iv} {t : Tg} {b : Sv} (hi : PI X tg iter (wpI g C it)) (ht : PG X tg (wpG g t)) (hb : PSs X body (wpS g C b)) (hs : ∀ x, foldedSetIterable iter X.env x = pure x) :
    PS X (.For tg iter body [] pos) (wpS g C (sFor it t b)) := by
  refine PV.PS.imp (ps_for c.po c.calm hi ht hb hs) fun D σ H ⟨ρ, h, env, hr, hv, p⟩ => ⟨ρ, h, env, hr, hv, ?_⟩
  have q := PostS.toI (f := fun src h1 => forS C src t b (src.size h1 + 1) 0 env h1) p
  cases e0 : it C env h with
  | err => rw [e0] at q; exact q
  | bad => rw [e0] at q; exact q
  | ok s0 h0 =>
    rw [e0] at q
    intro J ρ1 H1 tr1 hr1 sr
    obtain ⟨ρ1', h1, s, t1, hr1', sr', p1⟩ := q J ρ1 H1 tr1 hr1 sr
    refine ⟨fun i m σ H => ∃ ρ h env, Kp ρ1' H1 ρ H ∧ HR g ρ H h ∧ EnvR g H ρ env σ ∧ PostS g (forS C s t b m i env h) ρ H D, ⟨_, ρ1', h1, env, Kp.refl, hr1', hv.mono t1, p1⟩, ?_⟩
    rintro i m σ H ⟨ρ, h, env, k, hr, he, p⟩
    cases m with
    | zero => exact p.elim
    | succ m =>
      rw [forS] at p
      split at p
      · exact p.elim
      · rename_i eg
        exact .inl ⟨sr'.stop i H ρ h k hr eg, p σ ρ H (Tr.refl hr.tabs) hr he⟩
      · rename_i d eg
        refine .inr ⟨sr'.go i H ρ h d k hr eg, fun σ' H' => ∃ ρ h env, Kp ρ1' H1 ρ H' ∧ HR g ρ H' h ∧ EnvR g H' ρ env σ' ∧ PostS g (forS C s t b m (i + 1) env h) ρ H' D, fun σ' H' z => ⟨m, Nat.lt_succ_self m, z⟩, fun x H' y => ?_⟩
        obtain ⟨y1, y2⟩ := sr'.yld i H ρ h d x H' k hr eg y
        obtain ⟨ty, hry⟩ := yld_tr hr y1
        refine ⟨ρ, h, env, d, hry, he.mono ty, y2, (PostS.toG (PostS.tr ty p)).mono fun σ1 H2 ⟨ρ2, h2, e2, t2, hr2, he2, p2⟩ => ?_⟩
        refine turn_of hr2 he2 p2 fun σ' ρ' H'' e' h' t' hr' he' p' => ?_
        exact ⟨ρ', h', e', ((k.trans ty.kp).trans t2.kp).trans t'.kp, hr', he', p'⟩
theorem s_while (c : Ct g X l j) {test : Expr} {body : List Stmt} {t : Tv} {b : Sv} (ht : PT X test (wpT g C t)) (hb : PSs X body (wpS g C b)) : PS X (.While test body [] pos) (wpS g C (sWhile t b)) := by
  refine PV.PS.imp (ps_while c.po ht hb) fun D σ H ⟨ρ, h, env, hr, hv, p⟩ => ?_
  refine ⟨fun m σ H => ∃ ρ h env, HR g ρ H h ∧ EnvR g H ρ env σ ∧ PostS g (whileS C t b m env h) ρ H D, ⟨_, ρ, h, env, hr, hv, p⟩, ?_⟩
  rintro m σ H ⟨ρ, h, env, hr, he, p⟩
  cases m with
  | zero => exact p.elim
  | succ m =>
    rw [whileS] at p
    refine ⟨ρ, h, env, hr, he, (PostS.toS (R := fun _ _ (b : Bool) c => c = b) p).mono fun x H1 ⟨ρ1, h1, d, t1, hr1, i1, _, p1⟩ => ?_⟩
    subst i1
    cases x with
    | true =>
      refine ⟨fun σ' H' => ∃ ρ h env, HR g ρ H' h ∧ EnvR g H' ρ env σ' ∧ PostS g (whileS C t b m env h) ρ H' D, fun σ' H' z => ⟨m, Nat.lt_succ_self m, z⟩, ?_⟩
      exact turn_of hr1 (he.mono t1) p1 fun σ' ρ' H'' e' h' t' hr' he' p' => ⟨ρ', h', e', hr', he', p'⟩
    | false => exact p1 σ ρ1 H1 (Tr.refl hr1.tabs) hr1 (he.mono t1)
end

/-! ### stores to items; op= -/
def sSetIx (a o i : Ev) : Sv := fun C env h => (a C env h).toS fun v h1 => (o C env h1).toS fun d h2 => (i C env h2).toS fun e h3 => match setD d e v h3 with
  | some h4 => .nx env h4
  | none => .bad
def getV (env : Env') (i : Nat) : Option D := (env[i]?).bind id
@[reducible] def optS {α : Type} (o : Option α) (f : α → RS) : RS := match o with
  | some a => f a
  | none => .bad
def sAug (i : Nat) (op : Op2) (a : Ev) : Sv := fun C env h => optS (getV env i) fun x => (a C env h).toS fun y h1 => (op x y h1).toS fun z h2 => .nx (env.set i (some z)) h2
def sAugIx (o i : Ev) (op : Op2) (a : Ev) : Sv := fun C env h => (o C env h).toS fun d h1 => (i C env h1).toS fun e h2 => (gIx d e h2).toS fun x h3 => (a C env h3).toS fun y h4 => (op x y h4).toS fun z h5 => match setD d e z h5 with
  | some h6 => .nx env h6
  | none => .bad
section
variable {g : G} {X : Cx} {l : L} {j : Nat} {ρ ρ' ρ1 : List Addr} {H H' H1 : Hp} {h h1 : Hs} {C : CF} {σ : L2.St} {env : Env'} {pos : Pos}
theorem setEnd {o : Option Hs} {D : Ends} (he : EnvR g H ρ env σ) (p : PostS g (match o with | some h4 => .nx env h4 | none => .bad) ρ H D) : PostH g o ρ H fun H' => D.nx σ H' := by
  cases o with
  | some h' => exact fun ρ' H' t hr => p σ ρ' H' t hr (he.mono t)
  | none => exact p
theorem s_setIx (c : Ct g X l j) {e o i : Expr} {tpos : Pos} {fa fo fi : Ev} (he : PE X e (wpE g C fa)) (ho : PE X o (wpE g C fo)) (hi : PE X i (wpE g C fi)) (hsl : ∀ a b d e, i ≠ .Slice a b d e)
    (hs : swapsWithSole [.Subscript o i tpos] e pos.line X.env = pure false) (hw : swappedStores [.Subscript o i tpos] e X.env = pure none) : PS X (.Assign [.Subscript o i tpos] e pos) (wpS g C (sSetIx fa fo fi)) := by
  have ha : ∀ v, assign (.Subscript o i tpos) X.env v = (do
      let ov ← holding [v] (eval o X.env)
      let iv ← holding [v, ov] (eval i X.env)
      standAt tpos
      holding [v, ov, iv] (setItem ov iv v)
      release [v, ov, iv] []) := by
    intro v
    cases i <;> first | rfl | exact absurd rfl (hsl _ _ _ _)
  refine PV.PS.imp (ps_asg he (pg_sub ho hi (pset_d c) ha) hs hw rfl) fun D σ H ⟨ρ, h, env, hr, hv, p⟩ => ?_
  refine ⟨ρ, h, env, hr, hv, (PostS.toS (R := Is g) p).mono fun x H1 ⟨ρ1, h1, d, t1, hr1, i1, _, p1⟩ => ?_⟩
  refine ⟨ρ1, h1, env, hr1, hv.mono t1, (PostS.toS (R := Is g) p1).mono fun y H2 ⟨ρ2, h2, d2, t2, hr2, i2, _, p2⟩ => ?_⟩
  refine ⟨ρ2, h2, env, hr2, (hv.mono t1).mono t2, (PostS.toS (R := Is g) p2).mono fun z H3 ⟨ρ3, h3, d3, t3, hr3, i3, _, p3⟩ => ?_⟩
  exact ⟨ρ3, h3, d2, d3, d, hr3, i2.mono t3, i3, (i1.mono t2).mono t3, setEnd (((hv.mono t1).mono t2).mono t3) p3⟩
theorem ip_of {op : Operator} {f : Op2} (o : OpR X (inplaceOp op) (rD2 g f)) : PIp X op (rD2 g f) := o
theorem s_aug (c : Ct g X l j) {i : Nat} {x : Str} {e : Expr} {op : Operator} {p' : Pos} {fa : Ev} {f : Op2} (hi : l.N[i]? = some x) (hx : Sto l x) (he : PE X e (wpE g C fa)) (ho : OpR X (inplaceOp op) (rD2 g f)) : PS X (.AugAssign (.Name x p') op e pos) (wpS g C (sAug i f fa)) := by
  refine PV.PS.imp (ps_aug (i := i) (by rw [c.N]; exact c.nd) (by rw [c.N]; exact hi) (hx.loc c) he (ip_of ho) (hx.fn c)) fun D σ H ⟨ρ, h, env, hr, hv, p⟩ => ?_
  have p : PostS g (optS (getV env i) fun x => (fa C env h).toS fun y h1 => (f x y h1).toS fun z h2 => .nx (env.set i (some z)) h2) ρ H D := p
  cases ev : getV env i with
  | none => rw [ev] at p; exact p.elim
  | some w =>
    rw [ev] at p
    have e0 : env[i]? = some (some w) := by
      unfold getV at ev
      cases q : env[i]? with
      | none => rw [q] at ev; cases ev
      | some u => rw [q] at ev; cases u with
        | none => cases ev
        | some u => cases ev; rfl
    obtain ⟨v, hv1, iv⟩ := hv.at_ i w e0
    refine ⟨v, hv1, ρ, h, env, hr, hv, (PostS.toS (R := Is g) p).mono fun y H1 ⟨ρ1, h1, d, t1, hr1, i1, _, p1⟩ => ?_⟩
    refine ⟨ρ1, h1, w, d, hr1, iv.mono t1, i1, (PostS.toS (R := Is g) p1).mono fun z H2 ⟨ρ2, h2, d2, t2, hr2, i2, _, p2⟩ => ?_⟩
    exact p2 _ ρ2 H2 (Tr.refl hr2.tabs) hr2 (((hv.mono t1).mono t2).set i2 i)
end
end PV
end

section
set_option Elab.async false
set_option linter.all false
set_option maxRecDepth 100000
set_option maxHeartbeats 4000000
/-! V8: list comprehensions. -/
namespace PV
open PySem PySem.Spec PyProof.Rows L2 GX GxR PG C8
open PySem.W (EachIs)

def wipeE (env : Env') : List Nat → Env'
  | [] => env
  | v :: vs => (wipeE env vs).set v none
/-- the items of a source, one after another; k takes each with what is made so far -/
def loopB {α : Type} (src : Src) (t : Tg) (env0 : Env') (k : Env' → Hs → α → Res α) : Nat → Nat → Hs → α → Res α
  | 0, _, _, _ => .bad
  | n + 1, i, h, acc => match src.get h i with
    | none => .bad
    | some none => .ok acc h
    | some (some d) => (t.run d env0 h).bind fun e h1 => (k e h1 acc).bind fun acc' h2 => loopB src t env0 k n (i + 1) h2 acc'
def tYesV : Tv := fun _ _ h => .ok true h
/-- one element more, under a test -/
def kOne (C : CF) (tt : Tv) (elt : Ev) : Env' → Hs → List D → Res (List D) := fun e h acc => (tt C e h).bind fun b h1 => if b = true then (elt C e h1).bind fun y h2 => chk (decide (acc.length < 100000)) (.ok (acc ++ [y]) h2) else .ok acc h1
def kTwo {α : Type} (C : CF) (tt : Tv) (it : Iv) (t : Tg) (vs : List Nat) (k : Env' → Hs → α → Res α) : Env' → Hs → α → Res α := fun e h acc => (tt C e h).bind fun b h1 => if b = true then (it C e h1).bind fun src h2 => loopB src t (wipeE e vs) k (src.size h2 + 1) 0 h2 acc else .ok acc h1
def eLC (it : Iv) (t : Tg) (own : List Nat) (tt : Tv) (elt : Ev) : Ev := fun C env h => (it C env h).bind fun src h1 => (loopB src t (wipeE env own) (kOne C tt elt) (src.size h1 + 1) 0 h1 []).bind fun xs h2 => mk (.lst xs) h2
def eLC2 (it : Iv) (t : Tg) (own : List Nat) (tt : Tv) (it1 : Iv) (t1 : Tg) (vs1 : List Nat) (tt1 : Tv) (elt : Ev) : Ev := fun C env h => (it C env h).bind fun src h1 => (loopB src t (wipeE env own) (kTwo C tt it1 t1 vs1 (kOne C tt1 elt)) (src.size h1 + 1) 0 h1 []).bind fun xs h2 => mk (.lst xs) h2

section
variable {g : G} {X : Cx} {l : L} {j : Nat} {ρ ρ' ρ1 ρ2 : List Addr} {H H' H1 H2 : Hp} {h h1 h2 : Hs} {C : CF} {σ : L2.St} {env : Env'} {pos : Pos}
/-! ### an answer told from an earlier state -/
theorem Post.bindB {α β γ δ : Type} {R : Hp → List Addr → α → β → Prop} {R' : Hp → List Addr → γ → δ → Prop} {r : Res α} {f : α → Hs → Res γ} {Q : δ → Hp → Prop} (p : Post g R' (r.bind f) ρ1 H1 Q) (ρ : List Addr) (H : Hp) :
    Post g R r ρ H fun v H2 => ∃ ρ2 h2 d, Tr g.tb ρ H ρ2 H2 ∧ HR g ρ2 H2 h2 ∧ R H2 ρ2 d v ∧ Post g R' (f d h2) ρ1 H1 Q := by
  cases r with
  | ok d h => exact fun v ρ' H' t hr hi => ⟨ρ', h, d, t, hr, hi, p⟩
  | err => exact p
  | bad => exact p
theorem Post.bindBG {γ δ : Type} {R' : Hp → List Addr → γ → δ → Prop} {r : Res Env'} {f : Env' → Hs → Res γ} {Q : δ → Hp → Prop} (p : Post g R' (r.bind f) ρ1 H1 Q) (is : List Nat) (σ : L2.St) (ρ : List Addr) (H : Hp) :
    PostG g r is σ ρ H fun σ2 H2 => ∃ ρ2 h2 e, Tr g.tb ρ H ρ2 H2 ∧ HR g ρ2 H2 h2 ∧ EnvR g H2 ρ2 e σ2 ∧ ButFor is σ σ2 ∧ Post g R' (f e h2) ρ1 H1 Q := by
  cases r with
  | ok d h => exact fun σ' ρ' H' t hr he bf => ⟨ρ', h, d, t, hr, he, bf, p⟩
  | err => exact p
  | bad => exact p
theorem Post.bindBI {γ δ : Type} {R' : Hp → List Addr → γ → δ → Prop} {r : Res Src} {f : Src → Hs → Res γ} {Q : δ → Hp → Prop} (p : Post g R' (r.bind f) ρ1 H1 Q) (ρ : List Addr) (H : Hp) :
    PostI g r ρ H fun J H2 => ∃ ρ2 h2 s, Tr g.tb ρ H ρ2 H2 ∧ HR g ρ2 H2 h2 ∧ SrcR g H2 ρ2 s J ∧ Post g R' (f s h2) ρ1 H1 Q := by
  cases r with
  | ok d h => exact fun J ρ' H' t hr x => ⟨ρ', h, d, t, hr, x, p⟩
  | err => exact p
  | bad => exact p
theorem Res.bind_assoc {α β γ : Type} (r : Res α) (f : α → Hs → Res β) (k : β → Hs → Res γ) : (r.bind f).bind k = r.bind fun a h => (f a h).bind k := by
  cases r <;> rfl
theorem PostI.mono {r : Res Src} {R R' : It → Hp → Prop} (p : PostI g r ρ H R) (i : ∀ J H, R J H → R' J H) : PostI g r ρ H R' := by
  cases r with
  | ok d h => exact fun J ρ' H' t hr x => i _ _ (p J ρ' H' t hr x)
  | err => exact p
  | bad => exact p

/-! ### names of the block's own are forgotten -/
theorem wipeE_is : ∀ {vs : List Nat}, EnvR g H ρ env σ → EnvR g H ρ (wipeE env vs) (wipe σ vs)
  | [], e => e
  | v :: vs, e => by
    have ih := wipeE_is (vs := vs) e
    refine ⟨by rw [wipeE, wipe, List.length_set, List.length_set]; exact ih.len, fun i d hi => ?_⟩
    rw [wipeE] at hi
    by_cases hv : v = i
    · subst hv
      have hl := (List.getElem?_eq_some_iff.mp hi).1
      rw [List.length_set] at hl
      rw [List.getElem?_set_self hl] at hi
      cases hi
    · rw [List.getElem?_set_ne hv] at hi
      obtain ⟨w, h1, h2⟩ := ih.at_ i d hi
      exact ⟨w, by rw [wipe, List.getElem?_set_ne hv]; exact h1, h2⟩
theorem wipe_get (vs : List Nat) (σ : L2.St) (k : Nat) : (wipe σ vs)[k]? = if k ∈ vs then (if k < σ.length then some none else none) else σ[k]? := by
  induction vs with
  | nil => simp [wipe]
  | cons v vs ih =>
    rw [wipe]
    by_cases hk : v = k
    · subst hk
      rw [if_pos List.mem_cons_self]
      by_cases hl : v < σ.length
      · rw [List.getElem?_set_self (by rw [wipe_length]; exact hl), if_pos hl]
      · rw [if_neg hl, List.getElem?_eq_none (by rw [List.length_set, wipe_length]; omega)]
    · rw [List.getElem?_set_ne hk, ih]
      have : k ∈ v :: vs ↔ k ∈ vs := by rw [List.mem_cons]; exact ⟨fun z => z.resolve_left fun e => hk e.symm, .inr⟩
      simp only [this]
theorem wipe_back {is vs : List Nat} {σ σ2 : L2.St} (b : ButFor is (wipe σ vs) σ2) (hs : ∀ i ∈ is, i ∈ vs) : wipe σ2 vs = wipe σ vs := by
  have hl : σ2.length = σ.length := by rw [b.1, wipe_length]
  apply List.ext_getElem?
  intro k
  rw [wipe_get, wipe_get, hl]
  by_cases hk : k ∈ vs
  · rw [if_pos hk, if_pos hk]
  · rw [if_neg hk, if_neg hk, b.2 k fun z => hk (hs k z), wipe_get, if_neg hk]

/-! ### the list that is made -/
structure LSt (g : G) (A : Addr) (ρ1 : List Addr) (H1 : Hp) (ρ : List Addr) (H : Hp) (h : Hs) (acc : List D) : Prop where
  tr : Tr g.tb ρ1 H1 ρ H
  hr : HR g ρ H h
  nd : A ∉ ρ
  new : H1 A = none
  ns : ScK g ∨ A ≠ g.sc
  has : ∃ vs, H A = some (.lst vs) ∧ IsL g H ρ acc vs
variable {A : Addr} {acc : List D}
theorem LSt.go (s : LSt g A ρ1 H1 ρ H h acc) (t : Tr g.tb ρ H ρ2 H2) (hr : HR g ρ2 H2 h2) : LSt g A ρ1 H1 ρ2 H2 h2 acc := by
  obtain ⟨vs, e, i⟩ := s.has
  refine ⟨s.tr.trans t, hr, fun hm => ?_, s.new, s.ns, vs, t.keep _ _ e fun _ => ⟨s.nd, fun _ z => by cases z⟩, i.mono t⟩
  obtain ⟨r, er⟩ := t.pre
  rw [← er] at hm
  rcases List.mem_append.mp hm with z | z
  · exact s.nd z
  · have := t.fresh A (by rw [← er, List.drop_left]; exact z)
    rw [e] at this; cases this
theorem LSt.app (s : LSt g A ρ1 H1 ρ H h acc) {d : D} {v : V} (i : Is g H ρ d v) {vs : List V} (e : H A = some (HO.lst vs)) : LSt g A ρ1 H1 ρ (upd H A (.lst (vs ++ [v]))) h (acc ++ [d]) := by
  obtain ⟨us, e', iu⟩ := s.has
  rw [e] at e'; cases e'
  have k : Kp ρ H ρ (upd H A (.lst (vs ++ [v]))) := Kp.upd e rfl
  exact ⟨s.tr.over s.new e (fun _ z => by cases z), s.hr.over s.nd e rfl (fun _ z => by cases z) s.ns, s.nd, s.new, s.ns, _, upd_same, (IsL.kp k _ _ iu).append (IsL.cons (Is.kp k _ _ i) IsL.nil)⟩
theorem LSt.fin {Q : VK} (s : LSt g A ρ1 H1 ρ H h acc) (p : PostE g (PV.mk (.lst acc) h) ρ1 H1 Q) : Q (.ref A) H := by
  obtain ⟨vs, e, i⟩ := s.has
  refine p _ (ρ ++ [A]) H (s.tr.adopt s.new) (s.hr.adopt s.nd e i s.ns) ?_
  rw [Is]
  exact ⟨A, by rw [← s.hr.len]; simp, rfl⟩
theorem not_ours (hr : HR g ρ H h) (hD : H A = none) : A ∉ ρ := fun hm => by
  obtain ⟨n, hn⟩ := List.mem_iff_getElem?.mp hm
  have hl : n < h.length := by rw [← hr.len]; exact (List.getElem?_eq_some_iff.mp hn).1
  obtain ⟨u, e, _⟩ := (hr.obj n A h[n] hn (List.getElem?_eq_getElem hl)).there rfl
  rw [hD] at e; cases e
theorem LSt.start (hr : HR g ρ1 H1 h) (hD : H1 A = none) : LSt g A ρ1 H1 ρ1 (upd H1 A (.lst [])) h [] :=
  ⟨Tr.new hr.tabs hD, hr.new hD, not_ours hr hD, hD, hr.scr.away hD, [], upd_same, IsL.nil⟩

/-- the next item of a source: the target takes it -/
theorem nextB {α β γ : Type} {R' : Hp → List Addr → β → γ → Prop} {t : Tg} {d : D} {env0 : Env'} {k : Env' → Hs → α → Res α} {K2 : α → Hs → Res α} {fin : α → Hs → Res β} {Q : γ → Hp → Prop} {ρb : List Addr} {Hb : Hp} {acc : α} {σ0 : L2.St} (vs : List Nat) (hs : ∀ i ∈ t.slots, i ∈ vs)
    (p : Post g R' (((t.run d env0 h).bind fun e h1 => (k e h1 acc).bind fun acc' h2 => K2 acc' h2).bind fin) ρb Hb Q) (ρ : List Addr) (H : Hp) :
    PostG g (t.run d env0 h) t.slots (wipe σ0 vs) ρ H fun σ2 H2 => ∃ ρ2 h2 e, Tr g.tb ρ H ρ2 H2 ∧ HR g ρ2 H2 h2 ∧ EnvR g H2 ρ2 e σ2 ∧ wipe σ2 vs = wipe σ0 vs ∧ Post g R' ((k e h2 acc).bind fun acc' h3 => (K2 acc' h3).bind fin) ρb Hb Q := by
  rw [Res.bind_assoc] at p
  refine (Post.bindBG p t.slots (wipe σ0 vs) ρ H).mono fun σ2 H2 ⟨ρ2, h2, e, t2, hr2, he2, bf, p2⟩ => ?_
  rw [Res.bind_assoc] at p2
  exact ⟨ρ2, h2, e, t2, hr2, he2, wipe_back bf hs, p2⟩
/-- one element more -/
theorem oneB {β γ : Type} {R' : Hp → List Addr → β → γ → Prop} {tt : Tv} {elt : Ev} {e : Env'} {F : List D → Hs → Res β} {Q : γ → Hp → Prop} {ρb ρc : List Addr} {Hb Hc : Hp} (hr : HR g ρc Hc h) (he : EnvR g Hc ρc e σ) (s : LSt g A ρ1 H1 ρc Hc h acc)
    (p : Post g R' ((kOne C tt elt e h acc).bind F) ρb Hb Q) {Nx : Hp → Prop} (nx : ∀ ρ' H' h' acc', LSt g A ρ1 H1 ρ' H' h' acc' → Kp ρc Hc ρ' H' → Post g R' (F acc' h') ρb Hb Q → Nx H') :
    wpT g C tt σ Hc fun b H3 => if b = true then wpE g C elt σ H3 fun y H4 => ∃ vs, H4 A = some (.lst vs) ∧ vs.length < sizeLine ∧ Nx (upd H4 A (.lst (vs ++ [y]))) else Nx H3 := by
  unfold kOne at p
  rw [Res.bind_assoc] at p
  refine ⟨ρc, h, e, hr, he, (Post.bindB (R := fun _ _ (b : Bool) c => c = b) p ρc Hc).mono fun b H3 ⟨ρ3, h3, d3, t3, hr3, i3, p3⟩ => ?_⟩
  subst i3
  cases b with
  | false => exact nx ρ3 H3 h3 acc (s.go t3 hr3) t3.kp p3
  | true =>
    have p3 : Post g R' (((elt C e h3).bind fun y h2 => chk (decide (acc.length < 100000)) (.ok (acc ++ [y]) h2)).bind F) ρb Hb Q := p3
    rw [Res.bind_assoc] at p3
    refine ⟨ρ3, h3, e, hr3, he.mono t3, (Post.bindB (R := Is g) p3 ρ3 H3).mono fun y H4 ⟨ρ4, h4, d4, t4, hr4, i4, p4⟩ => ?_⟩
    have s4 := (s.go t3 hr3).go t4 hr4
    obtain ⟨vs, e4, i⟩ := s4.has
    have p4 : Post g R' ((chk (decide (acc.length < 100000)) (.ok (acc ++ [d4]) h4)).bind F) ρb Hb Q := p4
    by_cases hl : acc.length < 100000
    · rw [decide_eq_true hl] at p4
      have p4 : Post g R' (F (acc ++ [d4]) h4) ρb Hb Q := p4
      refine ⟨vs, e4, ?_, nx ρ4 _ h4 _ (s4.app i4 e4) ((t3.trans t4).kp.trans (Kp.upd e4 rfl)) p4⟩
      rw [← i.length]
      exact line_of (by omega)
    · rw [decide_eq_false hl] at p4
      exact p4.elim
theorem lc_imp {it : Iv} {t : Tg} {own : List Nat} {tt : Tv} {elt : Ev} {Q : VK} (hs : ∀ i ∈ t.slots, i ∈ own) (q : wpE g C (eLC it t own tt elt) σ H Q) : tLc (wpI g C it) (wpG g t) (wpT g C tt) (wpE g C elt) own σ H Q := by
  obtain ⟨ρ, h, env, hr, hv, p⟩ := q
  refine ⟨ρ, h, env, hr, hv, (Post.bindBI p ρ H).mono fun J H2 ⟨ρ2, h2, s, t2, hr2, sr, p2⟩ => fun A hA => ?_⟩
  have p2 := Post.tr t2 p2
  refine ⟨fun i m Hc => ∃ ρc hc acc, LSt g A ρ2 H2 ρc Hc hc acc ∧ PostE g ((loopB s t (wipeE env own) (kOne C tt elt) m i hc acc).bind fun xs h3 => mk (.lst xs) h3) ρ2 H2 Q, ⟨_, ρ2, h2, [], LSt.start hr2 hA, p2⟩, ?_⟩
  rintro i m Hc ⟨ρc, hc, acc, L, p⟩
  cases m with
  | zero => exact p.elim
  | succ m =>
    rw [loopB] at p
    split at p
    · exact p.elim
    · rename_i eg
      exact .inl ⟨sr.stop i Hc ρc hc L.tr.kp L.hr eg, L.fin p⟩
    · rename_i d eg
      refine .inr ⟨sr.go i Hc ρc hc d L.tr.kp L.hr eg, fun H' => ∃ ρc hc acc, LSt g A ρ2 H2 ρc H' hc acc ∧ PostE g ((loopB s t (wipeE env own) (kOne C tt elt) m (i + 1) hc acc).bind fun xs h3 => mk (.lst xs) h3) ρ2 H2 Q, fun H' z => ⟨m, Nat.lt_succ_self m, z⟩, fun x H' y => ?_⟩
      obtain ⟨y1, y2⟩ := sr.yld i Hc ρc hc d x H' L.tr.kp L.hr eg y
      obtain ⟨ty, hry⟩ := yld_tr L.hr y1
      have L2 := L.go ty hry
      refine ⟨ρc, hc, wipeE env own, d, hry, wipeE_is (hv.mono (t2.trans L2.tr)), y2, (nextB own hs p ρc H').mono fun σ2 H3 ⟨ρ3, h3, e3, t3, hr3, he3, hw, p3⟩ => ⟨hw, ?_⟩⟩
      exact oneB hr3 he3 (L2.go t3 hr3) p3 fun ρ' H' h' acc' L' _ p' => ⟨ρ', h', acc', L', p'⟩
theorem lc2_imp {it it1 : Iv} {t t1 : Tg} {own vs1 : List Nat} {tt tt1 : Tv} {elt : Ev} {Q : VK} (hs : ∀ i ∈ t.slots, i ∈ own) (hs1 : ∀ i ∈ t1.slots, i ∈ vs1) (q : wpE g C (eLC2 it t own tt it1 t1 vs1 tt1 elt) σ H Q) :
    tLc2 (wpI g C it) (wpG g t) (wpT g C tt) (wpI g C it1) (wpG g t1) (wpT g C tt1) (wpE g C elt) own vs1 σ H Q := by
  obtain ⟨ρ, h, env, hr, hv, p⟩ := q
  refine ⟨ρ, h, env, hr, hv, (Post.bindBI p ρ H).mono fun J H2 ⟨ρ2, h2, s, t2, hr2, sr, p2⟩ => fun A hA => ?_⟩
  have p2 := Post.tr t2 p2
  generalize hk : kTwo C tt it1 t1 vs1 (kOne C tt1 elt) = kk at p2
  refine ⟨fun i m Hc => ∃ ρc hc acc, LSt g A ρ2 H2 ρc Hc hc acc ∧ PostE g ((loopB s t (wipeE env own) kk m i hc acc).bind fun xs h3 => mk (.lst xs) h3) ρ2 H2 Q, ⟨_, ρ2, h2, [], LSt.start hr2 hA, p2⟩, ?_⟩
  rintro i m Hc ⟨ρc, hc, acc, L, p⟩
  cases m with
  | zero => exact p.elim
  | succ m =>
    rw [loopB] at p
    split at p
    · exact p.elim
    · rename_i eg
      exact .inl ⟨sr.stop i Hc ρc hc L.tr.kp L.hr eg, L.fin p⟩
    · rename_i d eg
      refine .inr ⟨sr.go i Hc ρc hc d L.tr.kp L.hr eg, fun H' => ∃ ρc hc acc, LSt g A ρ2 H2 ρc H' hc acc ∧ PostE g ((loopB s t (wipeE env own) kk m (i + 1) hc acc).bind fun xs h3 => mk (.lst xs) h3) ρ2 H2 Q, fun H' z => ⟨m, Nat.lt_succ_self m, z⟩, fun x H' y => ?_⟩
      obtain ⟨y1, y2⟩ := sr.yld i Hc ρc hc d x H' L.tr.kp L.hr eg y
      obtain ⟨ty, hry⟩ := yld_tr L.hr y1
      have L2 := L.go ty hry
      refine ⟨ρc, hc, wipeE env own, d, hry, wipeE_is (hv.mono (t2.trans L2.tr)), y2, (nextB own hs p ρc H').mono fun σ2 H3 ⟨ρ3, h3, e3, t3, hr3, he3, hw, p3⟩ => ⟨hw, ?_⟩⟩
      have L3 := L2.go t3 hr3
      subst hk
      generalize hF : (fun acc' h3 => (loopB s t (wipeE env own) (kTwo C tt it1 t1 vs1 (kOne C tt1 elt)) m (i + 1) h3 acc').bind fun xs h3 => mk (.lst xs) h3) = F at p3
      have hNx : ∀ ρ' H' h' acc', LSt g A ρ2 H2 ρ' H' h' acc' → PostE g (F acc' h') ρ2 H2 Q → ∃ ρc hc acc, LSt g A ρ2 H2 ρc H' hc acc ∧ PostE g ((loopB s t (wipeE env own) (kTwo C tt it1 t1 vs1 (kOne C tt1 elt)) m (i + 1) hc acc).bind fun xs h3 => mk (.lst xs) h3) ρ2 H2 Q := fun ρ' H' h' acc' L' p' => by
        rw [← hF] at p'
        exact ⟨ρ', h', acc', L', p'⟩
      have p3 : PostE g (((tt C e3 h3).bind fun b h1 => if b = true then (it1 C e3 h1).bind fun src h2 => loopB src t1 (wipeE e3 vs1) (kOne C tt1 elt) (src.size h2 + 1) 0 h2 acc else .ok acc h1).bind F) ρ2 H2 Q := p3
      rw [Res.bind_assoc] at p3
      refine ⟨ρ3, h3, e3, hr3, he3, (Post.bindB (R := fun _ _ (b : Bool) c => c = b) p3 ρ3 H3).mono fun b H4 ⟨ρ4, h4, d4, t4, hr4, i4, p4⟩ => ?_⟩
      subst i4
      have L4 := L3.go t4 hr4
      cases b with
      | false => exact hNx ρ4 H4 h4 acc L4 p4
      | true =>
        have p4 : PostE g (((it1 C e3 h4).bind fun src h2 => loopB src t1 (wipeE e3 vs1) (kOne C tt1 elt) (src.size h2 + 1) 0 h2 acc).bind F) ρ2 H2 Q := p4
        rw [Res.bind_assoc] at p4
        refine ⟨ρ4, h4, e3, hr4, he3.mono t4, (Post.bindBI p4 ρ4 H4).mono fun J1 H5 ⟨ρ5, h5, s5, t5, hr5, sr5, p5⟩ => ?_⟩
        have L5 := L4.go t5 hr5
        refine ⟨fun j k Hd => ∃ ρd hd acc, LSt g A ρ2 H2 ρd Hd hd acc ∧ Kp ρ5 H5 ρd Hd ∧ PostE g ((loopB s5 t1 (wipeE e3 vs1) (kOne C tt1 elt) k j hd acc).bind F) ρ2 H2 Q, ⟨_, ρ5, h5, acc, L5, Kp.refl, p5⟩, ?_⟩
        rintro j k Hd ⟨ρd, hd, acc1, M, kp, p⟩
        cases k with
        | zero => exact p.elim
        | succ k =>
          rw [loopB] at p
          split at p
          · exact p.elim
          · rename_i eg
            exact .inl ⟨sr5.stop j Hd ρd hd kp M.hr eg, hNx ρd Hd hd acc1 M p⟩
          · rename_i d1 eg
            refine .inr ⟨sr5.go j Hd ρd hd d1 kp M.hr eg, fun H' => ∃ ρd hd acc, LSt g A ρ2 H2 ρd H' hd acc ∧ Kp ρ5 H5 ρd H' ∧ PostE g ((loopB s5 t1 (wipeE e3 vs1) (kOne C tt1 elt) k (j + 1) hd acc).bind F) ρ2 H2 Q, fun H' z => ⟨k, Nat.lt_succ_self k, z⟩, fun x1 H6 y => ?_⟩
            obtain ⟨y1, y2⟩ := sr5.yld j Hd ρd hd d1 x1 H6 kp M.hr eg y
            obtain ⟨ty, hry⟩ := yld_tr M.hr y1
            have M2 := M.go ty hry
            refine ⟨ρd, hd, wipeE e3 vs1, d1, hry, wipeE_is ((he3.kp ((t4.trans t5).kp.trans kp)).mono ty), y2, (nextB vs1 hs1 p ρd H6).mono fun σ3 H7 ⟨ρ7, h7, e7, t7, hr7, he7, hw7, p7⟩ => ⟨hw7, ?_⟩⟩
            have M3 := M2.go t7 hr7
            refine oneB hr7 he7 M3 p7 fun ρ' H' h' acc' L' k' p' => ⟨ρ', h', acc', L', ((kp.trans ty.kp).trans t7.kp).trans k', p'⟩
end
end PV
end

section
set_option Elab.async false
set_option linter.all false
set_option maxRecDepth 100000
set_option maxHeartbeats 4000000
/-! V9: expressions: what each computes, its rule. -/
namespace PV
open PySem PySem.Spec PyProof.Rows L2 GX GxR PG C8
open PySem.W (EachIs)

def eBad : Ev := fun _ _ _ => .bad
def tBad : Tv := fun _ _ _ => .bad
def iBad : Iv := fun _ _ _ => .bad
def eVar (i : Nat) : Ev := fun _ env h => opt (getV env i) fun d => .ok d h
def eCon (d : D) : Ev := fun _ _ h => .ok d h
def eUn (f : D → Hs → Res D) (a : Ev) : Ev := fun C env h => (a C env h).bind f
def gNeg : D → Hs → Res D := fun d h => opt (intD d) fun i => .ok (.int (-i)) h
def eAnd (a b : Ev) : Ev := fun C env h => (a C env h).bind fun d h1 => opt (tru d h1) fun k => if k = true then b C env h1 else .ok d h1
def eOr (a b : Ev) : Ev := fun C env h => (a C env h).bind fun d h1 => opt (tru d h1) fun k => if k = true then .ok d h1 else b C env h1
def eNot (a : Ev) : Ev := fun C env h => (a C env h).bind fun d h1 => opt (tru d h1) fun k => .ok (.bl (!k)) h1
def eIf (t : Tv) (a b : Ev) : Ev := fun C env h => (t C env h).bind fun k h1 => if k = true then a C env h1 else b C env h1
def blD : D → Option Bool
  | .bl b => some b
  | _ => none
def eChain (f f' : Op2) (a b c : Ev) : Ev := fun C env h => (a C env h).bind fun x h1 => (b C env h1).bind fun y h2 => (f x y h2).bind fun z h3 => opt (blD z) fun k => if k = true then (c C env h3).bind fun w h4 => f' y w h4 else .ok (.bl false) h3
def eTup (a : Av) : Ev := fun C env h => (a C env h).bind fun xs h1 => chk (decide (xs.length ≤ 100000)) (.ok (.tup xs) h1)
def eLst (a : Av) : Ev := fun C env h => (a C env h).bind fun xs h1 => chk (decide (xs.length ≤ 100000)) (mk (.lst xs) h1)
def eCallO (x : Str) (a : Av) : Ev := fun C env h => (a C env h).bind fun xs h1 => C.fn 0 x xs h1
/-- tests -/
def tVal (a : Ev) : Tv := fun C env h => (a C env h).bind fun d h1 => opt (tru d h1) fun k => .ok k h1
def tBl (a : Ev) : Tv := fun C env h => (a C env h).bind fun d h1 => opt (blD d) fun k => .ok k h1
def tNotV (a : Tv) : Tv := fun C env h => (a C env h).bind fun k h1 => .ok (!k) h1
def tAndV (a b : Tv) : Tv := fun C env h => (a C env h).bind fun k h1 => if k = true then b C env h1 else .ok false h1
def tOrV (a b : Tv) : Tv := fun C env h => (a C env h).bind fun k h1 => if k = true then .ok true h1 else b C env h1
/-- o[lo:hi] -/
def eSlc (o : Ev) (lo hi : Option Ev) : Ev := fun C env h => (o C env h).bind fun d h1 => match lo, hi with
  | none, none => slD d none none h1
  | some a, none => (a C env h1).bind fun x h2 => opt (intD x) fun i => slD d (some i) none h2
  | none, some b => (b C env h1).bind fun x h2 => opt (intD x) fun i => slD d none (some i) h2
  | some a, some b => (a C env h1).bind fun x h2 => opt (intD x) fun i => (b C env h2).bind fun y h3 => opt (intD y) fun k => slD d (some i) (some k) h3

section
variable {g : G} {X : Cx} {l : L} {j : Nat} {ρ ρ' ρ1 ρ2 : List Addr} {H H' H1 H2 : Hp} {h h1 h2 : Hs} {C : CF} {σ : L2.St} {env : Env'} {pos p : Pos} {a b c e : Expr} {fa fb fc : Ev} {ta tb : Tv}
theorem bT {β : Type} {f : Bool → Hs → Res β} {γ : Type} {R' : Hp → List Addr → β → γ → Prop} {r : Res Bool} {Q : γ → Hp → Prop} (p : Post g R' (r.bind f) ρ H Q) :
    PostT g r ρ H fun v H1 => ∃ ρ1 h1, Tr g.tb ρ H ρ1 H1 ∧ HR g ρ1 H1 h1 ∧ Post g R' (f v h1) ρ1 H1 Q :=
  (Post.bind (R := fun _ _ (b : Bool) c => c = b) p).mono fun v H1 ⟨ρ1, h1, d, t, hr, e, _, p⟩ => by subst e; exact ⟨ρ1, h1, t, hr, p⟩
theorem bE {β : Type} {f : D → Hs → Res β} {γ : Type} {R' : Hp → List Addr → β → γ → Prop} {r : Res D} {Q : γ → Hp → Prop} (p : Post g R' (r.bind f) ρ H Q) :
    PostE g r ρ H fun v H1 => ∃ ρ1 h1 d, Tr g.tb ρ H ρ1 H1 ∧ HR g ρ1 H1 h1 ∧ Is g H1 ρ1 d v ∧ Post g R' (f d h1) ρ1 H1 Q :=
  (Post.bind (R := Is g) p).mono fun v H1 ⟨ρ1, h1, d, t, hr, e, _, p⟩ => ⟨ρ1, h1, d, t, hr, e, p⟩
theorem bA {β : Type} {f : List D → Hs → Res β} {γ : Type} {R' : Hp → List Addr → β → γ → Prop} {r : Res (List D)} {Q : γ → Hp → Prop} (p : Post g R' (r.bind f) ρ H Q) :
    PostA g r ρ H fun v H1 => ∃ ρ1 h1 d, Tr g.tb ρ H ρ1 H1 ∧ HR g ρ1 H1 h1 ∧ IsL g H1 ρ1 d v ∧ Post g R' (f d h1) ρ1 H1 Q :=
  (Post.bind (R := IsL g) p).mono fun v H1 ⟨ρ1, h1, d, t, hr, e, _, p⟩ => ⟨ρ1, h1, d, t, hr, e, p⟩
theorem e_bad : PE X e (wpE g C eBad) := ⟨fun _ _ _ _ _ _ ⟨_, _, _, _, _, p⟩ => p.elim⟩
theorem t_bad : PT X e (wpT g C tBad) := ⟨fun _ _ _ _ _ _ ⟨_, _, _, _, _, p⟩ => p.elim⟩
theorem i_bad {tg : Expr} : PI X tg e (wpI g C iBad) := ⟨fun _ _ _ _ _ _ ⟨_, _, _, _, _, p⟩ => p.elim⟩
theorem getV_is {i : Nat} {d : D} (he : EnvR g H ρ env σ) (e : getV env i = some d) : ∃ v, σ[i]? = some (some v) ∧ Is g H ρ d v := by
  refine he.at_ i d ?_
  unfold getV at e
  cases q : env[i]? with
  | none => rw [q] at e; cases e
  | some u => rw [q] at e; cases u with
    | none => cases e
    | some u => cases e; rfl
theorem e_var (c : Ct g X l j) {i : Nat} {x : Str} (hi : l.N[i]? = some x) (hv : Vis l.sc x) (h1 : (x == ("__debug__" : Str)) = false) (h2 : (x == ("__classdict__" : Str)) = false) : PE X (.Name x pos) (wpE g C (eVar i)) := by
  refine PV.PE.imp (pe_var (by rw [c.N]; exact hi) (by rw [c.sc]; exact hv) h1 h2) fun σ H Q ⟨ρ, h, env, hr, he, p⟩ => ?_
  obtain ⟨d, e, p1⟩ := Post.opt p
  obtain ⟨v, hv, iv⟩ := getV_is he e
  exact ⟨v, hv, p1.same hr iv⟩
theorem e_con {d : D} {v : V} (h : PE X e (tC v)) (i : ∀ H ρ, Is g H ρ d v) : PE X e (wpE g C (eCon d)) :=
  PV.PE.imp h fun σ H Q ⟨ρ, h, env, hr, he, p⟩ => Post.same p hr (i H ρ)
theorem e_bin {op : Operator} {f : Op2} (ho : OpR X (binaryOp op) (rD2 g f)) (ha : PE X a (wpE g C fa)) (hb : PE X b (wpE g C fb)) : PE X (.BinOp a op b pos) (wpE g C (eBin f fa fb)) := PV.PE.imp (pe_op ho ha hb) fun _ _ _ q => wpE.bin q
theorem e_cmp {op : CmpOp} {f : Op2} (ho : OpR X (compareOp op) (rD2 g f)) (ha : PE X a (wpE g C fa)) (hb : PE X b (wpE g C fb)) (hm : behindInMarks op b = false) : PE X (.Compare a [op] [b] pos) (wpE g C (eBin f fa fb)) := PV.PE.imp (pe_cmpR ho ha hb hm) fun _ _ _ q => wpE.bin q
theorem e_neg (ha : PE X a (wpE g C fa)) : PE X (.UnaryOp .USub a pos) (wpE g C (eUn gNeg fa)) := by
  refine PV.PE.imp (pe_un un_neg ha) fun σ H Q ⟨ρ, h, env, hr, he, p⟩ => ⟨ρ, h, env, hr, he, (bE p).mono fun x H1 ⟨ρ1, h1, d, t, hr1, i1, p1⟩ => ?_⟩
  obtain ⟨i, ei, p2⟩ := Post.opt p1
  exact ⟨i, intD_is ei i1, p2.same hr1 (by rw [Is])⟩
theorem e_not (c : Ct g X l j) (ha : PE X a (wpE g C fa)) : PE X (.UnaryOp .Not a pos) (wpE g C (eNot fa)) := by
  refine PV.PE.imp (pe_notT ha) fun σ H Q ⟨ρ, h, env, hr, he, p⟩ => ⟨ρ, h, env, hr, he, (bE p).mono fun x H1 ⟨ρ1, h1, d, t, hr1, i1, p1⟩ => ?_⟩
  obtain ⟨k, ek, p2⟩ := Post.opt p1
  exact ⟨k, (by rw [c.K]; exact tru_of hr1 i1 ek), p2.same hr1 (by rw [Is])⟩
theorem e_and (c : Ct g X l j) {rest : List Expr} (ha : PE X a (wpE g C fa)) (hb : PE X (.BoolOp .And (b :: rest) pos) (wpE g C fb)) : PE X (.BoolOp .And (a :: b :: rest) pos) (wpE g C (eAnd fa fb)) := by
  refine PV.PE.imp (pe_andT ha hb) fun σ H Q ⟨ρ, h, env, hr, he, p⟩ => ⟨ρ, h, env, hr, he, (bE p).mono fun x H1 ⟨ρ1, h1, d, t, hr1, i1, p1⟩ => ?_⟩
  obtain ⟨k, ek, p2⟩ := Post.opt p1
  refine ⟨k, (by rw [c.K]; exact tru_of hr1 i1 ek), ?_⟩
  cases k with
  | true => exact ⟨ρ1, h1, env, hr1, he.mono t, p2⟩
  | false => exact Post.same p2 hr1 i1
theorem e_or (c : Ct g X l j) {rest : List Expr} (ha : PE X a (wpE g C fa)) (hb : PE X (.BoolOp .Or (b :: rest) pos) (wpE g C fb)) : PE X (.BoolOp .Or (a :: b :: rest) pos) (wpE g C (eOr fa fb)) := by
  refine PV.PE.imp (pe_orT ha hb) fun σ H Q ⟨ρ, h, env, hr, he, p⟩ => ⟨ρ, h, env, hr, he, (bE p).mono fun x H1 ⟨ρ1, h1, d, t, hr1, i1, p1⟩ => ?_⟩
  obtain ⟨k, ek, p2⟩ := Post.opt p1
  refine ⟨k, (by rw [c.K]; exact tru_of hr1 i1 ek), ?_⟩
  cases k with
  | true => exact Post.same p2 hr1 i1
  | false => exact ⟨ρ1, h1, env, hr1, he.mono t, p2⟩
theorem e_if (hc : PT X c (wpT g C ta)) (ha : PE X a (wpE g C fa)) (hb : PE X b (wpE g C fb)) : PE X (.IfExp c a b pos) (wpE g C (eIf ta fa fb)) := by
  refine PV.PE.imp (pe_ifExp hc ha hb) fun σ H Q ⟨ρ, h, env, hr, he, p⟩ => ⟨ρ, h, env, hr, he, (bT p).mono fun k H1 ⟨ρ1, h1, t, hr1, p1⟩ => ?_⟩
  cases k with
  | true => exact ⟨ρ1, h1, env, hr1, he.mono t, p1⟩
  | false => exact ⟨ρ1, h1, env, hr1, he.mono t, p1⟩
theorem blD_is {d : D} {v : V} {k : Bool} (e : blD d = some k) (i : Is g H ρ d v) : v = .bl k := by
  cases d <;> first | (cases e; rw [Is] at i; exact i) | cases e
theorem chain_imp {f f' : Op2} {Q : VK} (q : wpE g C (eChain f f' fa fb fc) σ H Q) : tChain (rD2 g f) (rD2 g f') (wpE g C fa) (wpE g C fb) (wpE g C fc) σ H Q := by
  obtain ⟨ρ, h, env, hr, he, p⟩ := q
  refine ⟨ρ, h, env, hr, he, (bE p).mono fun x H1 ⟨ρ1, h1, d, t, hr1, i1, p1⟩ => ?_⟩
  refine ⟨ρ1, h1, env, hr1, he.mono t, (bE p1).mono fun y H2 ⟨ρ2, h2, e, t2, hr2, i2, p2⟩ => ?_⟩
  refine ⟨ρ2, h2, d, e, hr2, i1.mono t2, i2, (bE p2).mono fun z H3 ⟨ρ3, h3, w, t3, hr3, i3, p3⟩ => ?_⟩
  obtain ⟨k, ek, p4⟩ := Post.opt p3
  refine ⟨k, blD_is ek i3, ?_⟩
  cases k with
  | true =>
    refine ⟨ρ3, h3, env, hr3, ((he.mono t).mono t2).mono t3, (bE p4).mono fun u H4 ⟨ρ4, h4, w4, t4, hr4, i4, p5⟩ => ?_⟩
    exact ⟨ρ4, h4, e, w4, hr4, (i2.mono t3).mono t4, i4, p5⟩
  | false => exact Post.same p4 hr3 (by rw [Is])
theorem lastMarks_no {op op' : CmpOp} {b c : Expr} (h : behindInMarks op' c = false) : lastMarks [op, op'] [b, c] = false := h
theorem e_chain {op op' : CmpOp} {f f' : Op2} (ho : OpR X (compareOp op) (rD2 g f)) (ho' : OpR X (compareOp op') (rD2 g f')) (ha : PE X a (wpE g C fa)) (hb : PE X b (wpE g C fb)) (hc : PE X c (wpE g C fc)) (hm : behindInMarks op' c = false) :
    PE X (.Compare a [op, op'] [b, c] pos) (wpE g C (eChain f f' fa fb fc)) := PV.PE.imp (pe_chain ho ho' ha hb hc (lastMarks_no hm)) fun _ _ _ q => chain_imp q
theorem tBl_imp {Q : Bool → Hp → Prop} (q : wpT g C (tBl fa) σ H Q) {t : TE} (i : ∀ Q, wpE g C fa σ H Q → t σ H Q) : tTest t σ H Q := by
  obtain ⟨ρ, h, env, hr, he, p⟩ := q
  refine i _ ⟨ρ, h, env, hr, he, (bE p).mono fun x H1 ⟨ρ1, h1, d, t, hr1, i1, p1⟩ => ?_⟩
  obtain ⟨k, ek, p2⟩ := Post.opt p1
  exact ⟨k, blD_is ek i1, Post.same p2 hr1 rfl⟩
theorem t_cmp {op : CmpOp} {f : Op2} (ho : OpR X (compareOp op) (rD2 g f)) (ha : PE X a (wpE g C fa)) (hb : PE X b (wpE g C fb)) (hm : behindInMarks op b = false) : PT X (.Compare a [op] [b] pos) (wpT g C (tBl (eBin f fa fb))) :=
  PV.PT.imp (pt_cmpR ho ha hb hm) fun _ _ _ q => tBl_imp q fun _ q => wpE.bin q
theorem t_chain {op op' : CmpOp} {f f' : Op2} (ho : OpR X (compareOp op) (rD2 g f)) (ho' : OpR X (compareOp op') (rD2 g f')) (ha : PE X a (wpE g C fa)) (hb : PE X b (wpE g C fb)) (hc : PE X c (wpE g C fc)) (hm : behindInMarks op' c = false) :
    PT X (.Compare a [op, op'] [b, c] pos) (wpT g C (tBl (eChain f f' fa fb fc))) := PV.PT.imp (pt_chain ho ho' ha hb hc (lastMarks_no hm)) fun _ _ _ q => tBl_imp q fun _ q => chain_imp q
/-- an expression whose truth is that of its value -/
def plainT : Expr → Bool
  | .UnaryOp .Not _ _ => false
  | .BoolOp _ _ _ => false
  | .IfExp _ _ _ _ => false
  | .Compare _ _ _ _ => false
  | _ => true
theorem isTrue_plain {e : Expr} (h : plainT e = true) (env : Env) : ∀ whole, isTrue e env whole = (do let v ← whole; standAt e.pos; holding [v] (truthy v)) := by
  intro w
  cases e with
  | UnaryOp op a p => cases op <;> first | rfl | cases h
  | BoolOp op a p => cases h
  | IfExp => cases h
  | Compare => cases h
  | _ => rfl
theorem t_val (c : Ct g X l j) (ha : PE X a (wpE g C fa)) (hp : plainT a = true) : PT X a (wpT g C (tVal fa)) := by
  refine PV.PT.imp (_root_.PG.pt_tru c.K ha (isTrue_plain hp _)) fun σ H Q ⟨ρ, h, env, hr, he, p⟩ => ⟨ρ, h, env, hr, he, (bE p).mono fun x H1 ⟨ρ1, h1, d, t, hr1, i1, p1⟩ => ?_⟩
  obtain ⟨k, ek, p2⟩ := Post.opt p1
  exact ⟨k, tru_of hr1 i1 ek, Post.same p2 hr1 rfl⟩
theorem t_not (ha : PT X a (wpT g C ta)) : PT X (.UnaryOp .Not a pos) (wpT g C (tNotV ta)) := by
  refine PV.PT.imp (pt_not ha) fun σ H Q ⟨ρ, h, env, hr, he, p⟩ => ⟨ρ, h, env, hr, he, (bT p).mono fun k H1 ⟨ρ1, h1, t, hr1, p1⟩ => ?_⟩
  exact Post.same p1 hr1 rfl
theorem w_and1 (ha : PT X a (wpT g C ta)) : PW X (.BoolOp .And [a] pos) (wpT g C ta) := pw_and1 ha
theorem w_or1 (ha : PT X a (wpT g C ta)) : PW X (.BoolOp .Or [a] pos) (wpT g C ta) := pw_or1 ha
theorem w_and {rest : List Expr} (ha : PT X a (wpT g C ta)) (hb : PW X (.BoolOp .And (b :: rest) pos) (wpT g C tb)) : PW X (.BoolOp .And (a :: b :: rest) pos) (wpT g C (tAndV ta tb)) := by
  refine PV.PW.imp (pw_and ha hb) fun σ H Q ⟨ρ, h, env, hr, he, p⟩ => ⟨ρ, h, env, hr, he, (bT p).mono fun k H1 ⟨ρ1, h1, t, hr1, p1⟩ => ?_⟩
  cases k with
  | true => exact ⟨ρ1, h1, env, hr1, he.mono t, p1⟩
  | false => exact Post.same p1 hr1 rfl
theorem w_or {rest : List Expr} (ha : PT X a (wpT g C ta)) (hb : PW X (.BoolOp .Or (b :: rest) pos) (wpT g C tb)) : PW X (.BoolOp .Or (a :: b :: rest) pos) (wpT g C (tOrV ta tb)) := by
  refine PV.PW.imp (pw_or ha hb) fun σ H Q ⟨ρ, h, env, hr, he, p⟩ => ⟨ρ, h, env, hr, he, (bT p).mono fun k H1 ⟨ρ1, h1, t, hr1, p1⟩ => ?_⟩
  cases k with
  | true => exact Post.same p1 hr1 rfl
  | false => exact ⟨ρ1, h1, env, hr1, he.mono t, p1⟩
theorem e_tup {es : List Expr} {k : Nat} {f : Av} (ha : PA X es (wpA g C f)) {x1} : PE X (.Tuple es x1 pos) (wpE g C (eTup f)) := by
  refine PV.PE.imp (pe_tup ha) fun σ H Q ⟨ρ, h, env, hr, he, p⟩ => ⟨ρ, h, env, hr, he, (bA p).mono fun xs H1 ⟨ρ1, h1, ds, t, hr1, i1, p1⟩ => ?_⟩
  obtain ⟨hl, p2⟩ := Post.chk p1
  have hl := of_decide_eq_true hl
  exact ⟨by rw [← i1.length]; exact line_of hl, fun q hq => p2.newT hr1 i1 hq⟩
theorem e_lst {es : List Expr} {f : Av} (ha : PA X es (wpA g C f)) : PE X (.List es pos) (wpE g C (eLst f)) := by
  refine PV.PE.imp (pe_lst ha) fun σ H Q ⟨ρ, h, env, hr, he, p⟩ => ⟨ρ, h, env, hr, he, (bA p).mono fun xs H1 ⟨ρ1, h1, ds, t, hr1, i1, p1⟩ => ?_⟩
  obtain ⟨hl, p2⟩ := Post.chk p1
  have hl := of_decide_eq_true hl
  exact ⟨by rw [← i1.length]; exact line_of hl, fun q hq => Post.newL p2 hr1 i1 hq⟩
end
end PV
end

section
set_option Elab.async false
set_option linter.all false
set_option maxRecDepth 100000
set_option maxHeartbeats 4000000
/-! VSl: slices of tuples by a written step: t[::-1], t[::2], t[1::2]; xs[::-1]. -/
namespace SLX
open PySem PySem.Spec PyProof.Rows L2 HT
/-- the places of a slice by a step -/
def plc (n : Nat) (lo hi : Option Int) (c : Int) : Nat := Builtin.Slice.slicePlaces (Builtin.Slice.sliceAdjust lo hi c n).1 (Builtin.Slice.sliceAdjust lo hi c n).2 c
def pickS {α : Type} (xs : List α) (lo hi : Option Int) (c : Int) : List α := (List.range (plc xs.length lo hi c)).filterMap fun (k : Nat) => xs[((Builtin.Slice.sliceAdjust lo hi c xs.length).1 + (k : Int) * c).toNat]?
section
variable {prog : Program} {w : World} {A : Around} {E : Value → Shared → Prop} {s : Shared}
theorem sliceApplied_step {sl : Addr} {vl vu vs : Value} {lo hi : Option Int} {c : Int} {n : Nat} {Q : Int × Int × Nat → Shared → Prop} (hs : s.heap.IsSliceOf sl vl vu vs) (pl : IsPart vl lo) (pu : IsPart vu hi) (ps : IsPart vs (some c)) (hc : c ≠ 0)
    (h : Q ((Builtin.Slice.sliceAdjust lo hi c n).1, c, plc n lo hi c) s) : wpAny (model prog w) A (Builtin.Slice.sliceApplied (.ref sl) (pure (n : Int))) Q E s := by
  obtain ⟨os, hos, hcs, hds⟩ := id hs
  unfold Builtin.Slice.sliceApplied Builtin.Slice.sliceFields
  refine wpAny_bind (wpAny_bind (wpAny_field hos hds (x := vl) rfl (wpAny_bind (wpAny_field hos hds (x := vu) rfl (wpAny_bind (wpAny_field hos hds (x := vs) rfl (wpAny_pure ?_)))))))
  refine wpAny_bind (slicePart_ ps ?_)
  show wpAny _ _ (if (c == 0) = true then _ else _) _ _ s
  rw [if_neg (by simpa using hc)]
  refine wpAny_bind (slicePart_ pl (wpAny_bind (slicePart_ pu (wpAny_bind (wpAny_pure ?_)))))
  exact wpAny_pure h
theorem length_pickS {α : Type} (xs : List α) (lo hi : Option Int) (c : Int) : (pickS xs lo hi c).length ≤ plc xs.length lo hi c := by
  unfold pickS
  have := List.length_filterMap_le (fun (k : Nat) => xs[((Builtin.Slice.sliceAdjust lo hi c xs.length).1 + (k : Int) * c).toNat]?) (List.range (plc xs.length lo hi c))
  rw [List.length_range] at this
  exact this
theorem getItem_tuple_step {t sl : Addr} {items : Array Value} {vl vu vs : Value} {lo hi : Option Int} {c : Int} {Q : Value → Shared → Prop} (ht : IsTup s.heap t items) (hs : s.heap.IsSliceOf sl vl vu vs) (pl : IsPart vl lo) (pu : IsPart vu hi) (ps : IsPart vs (some c)) (hc : c ≠ 0) (hc1 : c ≠ 1)
    (hz : (pickS items.toList lo hi c).length ≤ sizeLine)
    (h : Q (.ref s.heap.objs.size) { s with heap := s.heap.push { cls := .type "tuple", data := .seq (pickS items.toList lo hi c).toArray } }) : wpAny (model prog w) A (getItem (.ref t) (.ref sl)) Q E s := by
  have htake : sizeOk (.seq (pickS items.toList lo hi c).toArray) := by
    show (pickS items.toList lo hi c).toArray.size ≤ sizeLine
    rw [List.size_toArray]
    exact hz
  obtain ⟨os, hos, hcs, hds⟩ := id hs
  have hTs : s.TypeIs (.ref sl) "slice" := ⟨os, hos, hcs⟩
  unfold getItem
  try with_reducible refine wpAny_holding ?_
  first | refine wpAny_bind (wpAny_pure ?_) | skip
  refine wpAny_bind (wpAny_sequenceKey ht.typeIs (by decide) ?_)
  refine wpAny_bind (wpAny_callSpecial?_slot (name := Str.ofString "__getitem__") ht.typeIs PyProof.Rows.slot_tuple_getitem
    (wpAny_call_entry PyProof.Rows.slot_tuple_getitem ht.typeIs entry_tuple_getitem ?_ (args_tuple_getitem _ _)))
  show wpAny _ _ (Builtin.Tuple.tupleItemsOf (.ref t) >>= _) _ _ s
  refine wpAny_bind (tupleItemsOf_ ht ?_)
  refine wpAny_bind (wpAny_typeOf hTs ?_)
  rw [if_pos (by decide)]
  refine wpAny_bind (sliceApplied_step hs pl pu ps hc ?_)
  have hno : ¬ (((Builtin.Slice.sliceAdjust lo hi c (items.size : Nat)).1 == 0 && c == 1 && plc items.size lo hi c == items.size) = true) := by
    intro q
    rw [Bool.and_eq_true, Bool.and_eq_true] at q
    exact hc1 (eq_of_beq q.1.2)
  show wpAny _ _ (if ((Builtin.Slice.sliceAdjust lo hi c (items.size : Nat)).1 == 0 && c == 1 && plc items.size lo hi c == items.size) = true then _ else _) _ _ s
  rw [if_neg hno]
  have e : ((List.range (plc items.size lo hi c)).filterMap fun (k : Nat) => items[((Builtin.Slice.sliceAdjust lo hi c (items.size : Nat)).1 + (k : Int) * c).toNat]?).toArray = (pickS items.toList lo hi c).toArray := by
    unfold pickS
    simp
  rw [e]
  first
    | exact wpAny_bind (m := Builtin.Tuple.tupleExact _) (wpAny_newObj_type (wpAny_pure ⟨_, rfl, wpAny_pure h⟩) htake)
    | exact wpAny_bind (m := Builtin.Tuple.tupleExact _) (wpAny_newObj_type (wpAny_bind (wpAny_pure (wpAny_pure ⟨_, rfl, wpAny_pure h⟩))) htake)
    | exact wpAny_bind (wpAny_bind (m := Builtin.Tuple.tupleExact _) (wpAny_newObj_type (wpAny_pure (wpAny_pure ⟨_, rfl, wpAny_pure h⟩)) htake))
    | exact wpAny_bind (wpAny_bind (m := Builtin.Tuple.tupleExact _) (wpAny_newObj_type (wpAny_pure ⟨_, rfl, wpAny_pure h⟩) htake))
end
theorem vals_pick {xs : List V} {us : List Value} (r : Vals xs us) (lo hi : Option Int) (c : Int) : Vals (pickS xs lo hi c) (pickS us lo hi c) := by
  unfold pickS
  rw [← r.length]
  generalize hf : (fun (k : Nat) => ((Builtin.Slice.sliceAdjust lo hi c (xs.length : Nat)).1 + (k : Int) * c).toNat) = f
  have e1 : ∀ {α : Type} (ys : List α), (fun (k : Nat) => ys[((Builtin.Slice.sliceAdjust lo hi c (xs.length : Nat)).1 + (k : Int) * c).toNat]?) = fun k => ys[f k]? := fun ys => by rw [← hf]
  rw [e1, e1]
  induction List.range (plc xs.length lo hi c) with
  | nil => exact .nil
  | cons k ks ih =>
    rw [List.filterMap_cons, List.filterMap_cons]
    cases hx : xs[f k]? with
    | none =>
      have : us[f k]? = none := by
        rw [List.getElem?_eq_none_iff] at hx ⊢
        rw [← r.length]; exact hx
      rw [this]
      exact ih
    | some x =>
      obtain ⟨u, hu, ru⟩ := r.get hx
      rw [hu]
      exact .cons ru ih
section
variable {X : Cx} {e : Expr} {te tst : TE} {tl th : TO} {lo hi : Option Expr}
/-- t[lo:hi:c], c a whole number but 0 and 1 -/
def tSlS (K : PySem.W.Frag) (c : Int) (te : TE) (tl th : TO) : TE := fun σ H Q => te σ H fun x H1 => tl σ H1 fun l H2 => th σ H2 fun u H3 => ∃ a xs, x = .ref a ∧ ((SqT K H3 a xs ∧ (pickS xs l u c).length ≤ sizeLine ∧ ∀ p, H3 p = none → Q (.ref p) (upd H3 p (.tup (pickS xs l u c)))) ∨ (l = none ∧ u = none ∧ c = -1 ∧ SqL K H3 a xs ∧ ∀ p, H3 p = none → Q (.ref p) (upd H3 p (.lst xs.reverse))))
theorem pe_slS {st : Expr} {c : Int} {pos p2 : Pos} (hc : c ≠ 0) (hc1 : c ≠ 1) (he : PE X e te) (hl : PO X lo tl) (hu : PO X hi th) (hst : ∀ (pins : List (Addr × Obj)) (s : Shared) (σ : L2.St) (H : Hp), Inv X pins σ H s → wpAny (model X.prog X.w) X.A (evalPart (some st) X.env) (fun v s' => ∃ H', Inv X pins σ H' s' ∧ IsPart v (some c) ∧ H' = H) X.xe s) :
    PE X (.Subscript e (.Slice lo hi (some st) p2) pos) (tSlS X.K c te tl th) := by
  refine ⟨fun pins s σ H Q I h => ?_⟩
  refine Subscript_ (thn (he.run pins s σ H _ I h) fun v s1 ⟨x, H1, I1, r1, q1⟩ => ?_)
  refine wpAny_Slice (thn (hl.run pins s1 σ H1 _ I1 q1) fun vl s2 ⟨l, H2, I2, pl, q2⟩ => thn (hu.run pins s2 σ H2 _ I2 q2) fun vu s3 ⟨u, H3, I3, pu, q3⟩ => ?_)
  refine thn (hst pins s3 σ H3 I3) fun vs s4 ⟨H4, I4, ps, e4⟩ => ?_
  rw [e4] at I4
  obtain ⟨a, xs, rfl, q3⟩ := q3
  cases r1
  have I5 : Inv X pins σ H3 { s4 with heap := s4.heap.push { cls := .type "slice", data := .fields #[vl, vu, vs] } } := I4.kept (t' := s4.toks) fun b ob q => Heap.get?_push_of_some _ q
  show wpAny (model X.prog X.w) X.A (subscriptTail e (.Slice lo hi (some st) p2) (.ref a) (.ref s4.heap.objs.size)) (EP X pins σ Q) X.xe { s4 with heap := s4.heap.push { cls := .type "slice", data := .fields #[vl, vu, vs] } }
  rcases q3 with ⟨hx, hz, q⟩ | ⟨rfl, rfl, rfl, hx, q⟩
  · obtain ⟨its, r, ht, hn⟩ := I5.tuple hx
    refine tail_any (ops := [.ref a, .ref s4.heap.objs.size]) ht.typeIs (PyProof.Rows.slot_tuple_getitem.lookup) ?_ (by with_unfolding_all rfl)
    have rp := vals_pick r l u c
    refine getItem_tuple_step ht (Heap.IsSliceOf.new _ vl vu vs) pl pu ps hc hc1 (by show (pickS its l u c).length ≤ _; rw [← rp.length]; exact hz) ?_
    refine ⟨.ref _, _, I5.laid (t' := s4.toks) (o := .tup (pickS xs l u c)) (fun b ob q => Heap.get?_push_of_some _ q) (Nat.le_refl _) ?_, rfl, q _ (I5.hok.fresh (Nat.le_refl _))⟩
    exact ⟨hz, _, rp, IsTup.new _ _⟩
  · obtain ⟨its, r, ht, hn⟩ := I5.list hx
    have hlen := r.length
    refine tail_any (ops := [.ref a, .ref s4.heap.objs.size]) ht.isList.typeIs (PySem.slot_list_getitem.lookup) ?_ (by with_unfolding_all rfl)
    refine wpAny_getItem_list_slice ht.isList (Heap.IsSliceOf.new _ vl vu vs) pl pu ps (by decide) ?_ (by rw [List.size_toArray]; omega)
    rw [PySem.W.krv_pick]
    refine ⟨.ref _, _, I5.laid (t' := s4.toks) (o := .lst xs.reverse) (fun b ob q => Heap.get?_push_of_some _ q) (Nat.le_refl _) ?_, rfl, q _ (I5.hok.fresh (Nat.le_refl _))⟩
    exact ⟨by rw [List.length_reverse]; exact hn, _, 0, r.reverse, Heap.get?_push_size _ rfl⟩
end
end SLX
namespace PV
open PySem PySem.Spec PyProof.Rows L2 GX GxR PG C8 SLX
/-- o[lo:hi:c] -/
def eSlS (c : Int) (o : Ev) (lo hi : Option Ev) : Ev := fun C env h => (o C env h).bind fun d h1 => (optE lo C env h1).bind fun l h2 => (optE hi C env h2).bind fun u h3 => match d with
  | .tup xs => chk (decide ((pickS xs l u c).length ≤ 100000)) (.ok (.tup (pickS xs l u c)) h3)
  | .ref n => chk (l.isNone && u.isNone && c == -1) (opt (lstD (.ref n) h3) fun xs => mk (.lst xs.reverse) h3)
  | _ => .bad
where optE : Option Ev → CF → Env' → Hs → Res (Option Int)
  | none, _, _, h => .ok none h
  | some a, C, env, h => (a C env h).bind fun x h2 => opt (intD x) fun i => .ok (some i) h2
section
variable {g : G} {X : Cx} {l : L} {j : Nat} {ρ ρ' ρ1 : List Addr} {H H' H1 : Hp} {h h1 : Hs} {C : CF} {σ : L2.St} {env : Env'} {pos p : Pos} {e : Expr} {fa : Ev}
theorem IsL.pick {xs : List D} {vs : List V} (i : IsL g H ρ xs vs) (lo hi : Option Int) (c : Int) : IsL g H ρ (pickS xs lo hi c) (pickS vs lo hi c) := by
  unfold pickS
  rw [i.length]
  generalize hf : (fun (k : Nat) => ((Builtin.Slice.sliceAdjust lo hi c (vs.length : Nat)).1 + (k : Int) * c).toNat) = f
  have e1 : ∀ {α : Type} (ys : List α), (fun (k : Nat) => ys[((Builtin.Slice.sliceAdjust lo hi c (vs.length : Nat)).1 + (k : Int) * c).toNat]?) = fun k => ys[f k]? := fun ys => by rw [← hf]
  rw [e1, e1]
  induction List.range (plc vs.length lo hi c) with
  | nil => exact IsL.nil
  | cons k ks ih =>
    rw [List.filterMap_cons, List.filterMap_cons]
    cases hx : xs[f k]? with
    | none =>
      have : vs[f k]? = none := by
        rw [List.getElem?_eq_none_iff] at hx ⊢
        rw [← i.length]; exact hx
      rw [this]
      exact ih
    | some x =>
      obtain ⟨u, hu, ru⟩ := i.get hx
      rw [hu]
      exact IsL.cons ru ih
/-- the bounds -/
theorem po_of {lo : Option Expr} {a : Option Ev} (ha : ∀ e f, lo = some e → a = some f → PE X e (wpE g C f)) (hs : lo.isSome = a.isSome) {Q : Option Int → Hp → Prop} : True := trivial
def wpO (g : G) (C : CF) (a : Option Ev) : TO := fun σ H Q => ∃ ρ h env, HR g ρ H h ∧ EnvR g H ρ env σ ∧ Post g (fun _ _ (x y : Option Int) => y = x) (eSlS.optE a C env h) ρ H Q
theorem po_some' {e : Expr} {f : Ev} (he : PE X e (wpE g C f)) : PO X (some e) (wpO g C (some f)) := by
  refine ⟨fun pins s σ H Q I ⟨ρ, h, env, hr, hv, p⟩ => (po_some he).run pins s σ H Q I ?_⟩
  refine ⟨ρ, h, env, hr, hv, (bE p).mono fun x H1 ⟨ρ1, h1, d, t, hr1, i1, p1⟩ => ?_⟩
  obtain ⟨i, ei, p2⟩ := Post.opt p1
  exact ⟨i, intD_is ei i1, p2 _ ρ1 H1 (Tr.refl hr1.tabs) hr1 rfl⟩
theorem po_none' : PO X none (wpO g C none) := ⟨fun pins s σ H Q I ⟨ρ, h, env, hr, hv, p⟩ => po_none.run pins s σ H Q I (p none ρ H (Tr.refl hr.tabs) hr rfl)⟩
theorem sls_imp (hK : X.K = g.K) {c : Int} {lo hi : Option Ev} {Q : VK} (q : wpE g C (eSlS c fa lo hi) σ H Q) : tSlS X.K c (wpE g C fa) (wpO g C lo) (wpO g C hi) σ H Q := by
  obtain ⟨ρ, h, env, hr, hv, p⟩ := q
  refine ⟨ρ, h, env, hr, hv, (bE p).mono fun x H1 ⟨ρ1, h1, d, t, hr1, i1, p1⟩ => ?_⟩
  refine ⟨ρ1, h1, env, hr1, hv.mono t, (Post.bind (R := fun _ _ (x y : Option Int) => y = x) p1).mono fun l H2 ⟨ρ2, h2, l', t2, hr2, e2, _, p2⟩ => ?_⟩
  subst e2
  refine ⟨ρ2, h2, env, hr2, (hv.mono t).mono t2, (Post.bind (R := fun _ _ (x y : Option Int) => y = x) p2).mono fun u H3 ⟨ρ3, h3, u', t3, hr3, e3, _, p3⟩ => ?_⟩
  subst e3
  rw [hK]
  cases d with
  | tup xs =>
    obtain ⟨hl, p4⟩ := Post.chk p3
    have i3 := (i1.mono t2).mono t3
    rw [Is] at i3
    obtain ⟨a, vs, e, h1, h2⟩ := i3
    have ip := h2.pick l u c
    exact ⟨a, vs, e, .inl ⟨h1, by rw [← ip.length]; exact line_of (of_decide_eq_true hl), fun q hq => p4.newT hr3 ip hq⟩⟩
  | ref n =>
    obtain ⟨hl, p4⟩ := Post.chk p3
    simp only [Bool.and_eq_true, Option.isNone_iff_eq_none, beq_iff_eq] at hl
    obtain ⟨xs, e0, p5⟩ := Post.opt p4
    obtain ⟨a, vs, e, h1, h2⟩ := lst_at hr3 ((i1.mono t2).mono t3) e0
    exact ⟨a, vs, e, .inr ⟨hl.1.1, hl.1.2, hl.2, h1, fun q hq => Post.newL p5 hr3 h2.reverse hq⟩⟩
  | _ => exact p3.elim
/-- the step, as it is written -/
def stepI : Expr → Option Int
  | .Constant (.int n) _ _ => if n = 0 ∨ n = 1 then none else some n
  | .UnaryOp .USub (.Constant (.int n) _ _) _ => if n = 0 ∨ n = -1 then none else some (-n)
  | _ => none
theorem stepI_ok {st : Expr} {c : Int} (h : stepI st = some c) : c ≠ 0 ∧ c ≠ 1 ∧ ∀ (pins : List (Addr × Obj)) (s : Shared) (σ : L2.St) (H : Hp), Inv X pins σ H s → wpAny (model X.prog X.w) X.A (evalPart (some st) X.env) (fun v s' => ∃ H', Inv X pins σ H' s' ∧ IsPart v (some c) ∧ H' = H) X.xe s := by
  unfold stepI at h
  split at h
  · rename_i n k cp
    split at h
    · cases h
    · rename_i hn
      have h := Option.some.inj h
      subst h
      refine ⟨fun z => hn (.inl z), fun z => hn (.inr z), fun pins s σ H I => ?_⟩
      exact thn ((po_some (pe_int (X := X))).run pins s σ H (fun o H4 => o = some _ ∧ H4 = H) I ⟨_, rfl, rfl, rfl⟩) fun vs s4 ⟨o, H4, I4, ps, eo, e4⟩ => ⟨H4, I4, by rw [← eo]; exact ps, e4⟩
  · rename_i n k cp up
    split at h
    · cases h
    · rename_i hn
      cases h
      refine ⟨fun z => hn (.inl (by omega)), fun z => hn (.inr (by omega)), fun pins s σ H I => ?_⟩
      have hst : PO X (some (.UnaryOp .USub (.Constant (.int n) k cp) up)) (tPart (tUn (rU fun i => .int (-i)) (tC (.int n)))) := po_some (pe_un un_neg pe_int)
      exact thn (hst.run pins s σ H (fun o H4 => o = some (-n) ∧ H4 = H) I ⟨n, rfl, -n, rfl, rfl, rfl⟩) fun vs s4 ⟨o, H4, I4, ps, eo, e4⟩ => ⟨H4, I4, by rw [← eo]; exact ps, e4⟩
  · cases h
end
end PV
end

section
set_option Elab.async false
set_option linter.all false
set_option maxRecDepth 100000
set_option maxHeartbeats 4000000
/-! LamE: f(lambda: e), f(lambda a=0: e), where f tries what it got and tells the error. -/
namespace LE
open PySem PySem.Spec PyProof.Rows L2 LamX

/-- the lambda's parameters: none, or one with a written int -/
inductive Pms : Arguments → List (Str × Int) → Prop where
  | none : Pms ⟨[], [], Option.none, [], [], Option.none, []⟩ []
  | one (n : Int) (an : Option Expr) (ap : Pos) (k : Nat) (cp : Pos) : Pms ⟨[], [⟨"a", an, ap⟩], Option.none, [], [], Option.none, [.Constant (.int n) k cp]⟩ [("a", n)]
  | oneB (n : Int) (an : Option Expr) (ap : Pos) (k : Nat) (cp : Pos) : Pms ⟨[], [⟨"b", an, ap⟩], Option.none, [], [], Option.none, [.Constant (.int n) k cp]⟩ [("b", n)]
/-- the heap behind the making of a lambda: as it was, or a code object more -/
def Made (P c' : Addr) (q : Str) (H H1 : Hp) : Prop := H1 = H ∨ ∃ ps ps' : Array Value, H P = some (.tbl ps) ∧ H c' = none ∧ H1 = upd (upd H P (.tbl ps')) c' (CodeO c' q)
/-- the lambda's object; its defaults lie in the heap -/
structure LamO (h : Heap) (H : Hp) (fs : List Addr) (f : Addr) (fd : FuncData) (bs : List (Str × Int)) : Prop where
  get : h.get? f = some ({ cls := .type "function", data := .func fd } : Obj)
  none : H f = Option.none
  fr : f ∉ fs
  df : (bs = [] ∧ fd.defaults = .none) ∨ ∃ (T : Addr) (v : Value) (a : Str) (n : Int), bs = [(a, n)] ∧ fd.defaults = .ref T ∧ h.get? T = some (PySem.W.kdv_tup [v]) ∧ H T = Option.none ∧ T ∉ fs
section
variable {X : Cx} {pins : List (Addr × Obj)} {σ : L2.St} {H : Hp} {s : Shared}
theorem lam_make3 {c P : Addr} {params : Arguments} {bs : List (Str × Int)} {body : Expr} {scope : Scope} {pos : Pos} {E : Value → Shared → Prop} {Q : Value → Shared → Prop} (I : Inv X pins σ H s) (TB : TabB X.base X.mg c P) (hcode : X.env.code = .ref c)
    (hT : TabS H P (X.env.qual ++ "<lambda>")) (hp : Pms params bs) (hfree : ∀ y ∈ scope.names, y.2 = .free → ∃ c, X.env.cells.lookup y.1 = some c)
    (h : ∀ (f c' : Addr) (dV doc pm ctv : Value) (H1 : Hp) (s' : Shared), Inv X pins σ H1 s' → Made P c' (X.env.qual ++ "<lambda>") H H1 → TabS H1 P (X.env.qual ++ "<lambda>") →
      LamO s'.heap H1 (frs X.stack) f (PySem.W.kdv_fn "<lambda>" (X.env.qual ++ "<lambda>") params (.expr body) scope (cloFrom X.env.cells scope.names []) dV doc pm (.ref c') ctv) bs → H1 c' = some (CodeO c' (X.env.qual ++ "<lambda>")) → Q (.ref f) s') :
    wpAny (model X.prog X.w) X.A (eval (.Lambda params body scope pos) X.env) Q E s := by
  -- the making behind the defaults
  have tail : ∀ (dV : Value) (s0 : Shared), Inv X pins σ H s0 → ((bs = [] ∧ dV = .none) ∨ ∃ (T : Addr) (v : Value) (a : Str) (n : Int), bs = [(a, n)] ∧ dV = .ref T ∧ s0.heap.get? T = some (PySem.W.kdv_tup [v]) ∧ H T = none ∧ T ∉ frs X.stack ∧ T ≠ P) →
      wpAny (model X.prog X.w) X.A (makeTail "<lambda>" (X.env.qual ++ "<lambda>") params (.expr body) scope X.env dV .none none pos pos.line) Q E s0 := by
    intro dV s0 I hd
    obtain ⟨ps, hP, ht, ha⟩ := hT
    have bP : s0.heap.BuiltinsAt X.mg P := TB.bm.keeps I.bk
    have hP' : s0.heap.get? P = some { cls := .none, data := .fields ps } := I.hok P _ hP
    have nofr : ∀ f, s0.heap.objs.size ≤ f → f ∉ frs X.stack := fun f hf z => by
      rcases List.mem_cons.mp (I.stkSub _ z) with e | e
      · have h1 := I.lt
        rw [← e] at h1
        exact Nat.lt_irrefl _ (Nat.lt_of_lt_of_le h1 hf)
      · exact I.nofs hf e
    cases hc : codeAmong pos ps.toList with
    | none =>
      refine PySem.W.kdv_makeTail (mg := X.mg) (c := c) (P := P) (ps := ps) (closure_ok hfree) I.ok.glob (I.mod.glob.keeps I.bk) hcode (TB.code.keeps I.bk) hP' ht hc TB.gP bP fun c' ctv doc h' tk hx hge hlt hrec htb => ?_
      obtain ⟨c2, oc, vs, t, e2, hoc, hdd, hv⟩ := hrec
      cases e2
      have hsz : s0.heap.objs.size ≤ h'.objs.size := Nat.le_trans hge (Nat.le_of_lt hlt)
      have nC : H c' = none := I.hok.fresh hge
      have I1 := inv_table (t' := tk) (more := #[rawInt pos.line, rawInt pos.col, .ref c']) (h' := h'.push (PySem.W.kdv_obj "<lambda>" (X.env.qual ++ "<lambda>") params (.expr body) scope (cloFrom X.env.cells scope.names []) dV doc ((X.mg "__name__").getD .none) c' ctv)) I hP
        (fun b o hb e => Heap.get?_push_of_some _ (hx b o hb e)) (Heap.get?_push_of_some _ htb) hge ⟨oc, vs, t, Heap.get?_push_of_some _ hoc, hdd, hv⟩
      have hE : ExtN H (upd (upd H P (.tbl (ps ++ #[rawInt pos.line, rawInt pos.col, .ref c']))) c' (CodeO c' (X.env.qual ++ "<lambda>"))) := fun b o e n => by
        rw [upd_ne (ne_of_none e nC), upd_ne (fun z => n ps (Option.some.inj (e.symm.trans (by rw [z]; exact hP))))]
        exact e
      have eL : (ps ++ #[rawInt pos.line, rawInt pos.col, .ref c']).toList = ps.toList ++ [rawInt pos.line, rawInt pos.col, .ref c'] := by simp
      have nw : ∀ b, s0.heap.objs.size ≤ b → b ≠ P := fun b hb z => Nat.lt_irrefl _ (Nat.lt_of_lt_of_le (Heap.lt_size hP') (z ▸ hb))
      refine h h'.objs.size c' dV doc ((X.mg "__name__").getD .none) ctv _ _ I1 (.inr ⟨ps, _, hP, nC, rfl⟩) ?_ ⟨Heap.get?_push_size _ rfl, ?_, nofr _ hsz, ?_⟩ upd_same
      · refine ⟨_, by rw [upd_ne (ne_of_none hP nC), upd_same], by rw [eL]; exact PySem.TriplesOk_snoc _ _ _ _ ht, fun p' cv hcv => ?_⟩
        rw [eL] at hcv
        rcases among_app _ ht hcv with z | z
        · obtain ⟨c0, e1, e2⟩ := ha p' cv z
          exact ⟨c0, e1, hE _ _ e2 codeO_ne⟩
        · exact ⟨c', z, upd_same⟩
      · have n1 : h'.objs.size ≠ c' := Nat.ne_of_gt hlt
        rw [upd_ne n1, upd_ne (nw _ hsz)]
        exact I.hok.fresh hsz
      · rcases hd with hd | ⟨T, v, a, n, e1, e2, e3, e4, e5, e6⟩
        · exact .inl hd
        · refine .inr ⟨T, v, a, n, e1, e2, Heap.get?_push_of_some _ (hx _ _ e6 e3), ?_, e5⟩
          rw [upd_ne (fun z => by rw [← z] at hge; exact Nat.lt_irrefl _ (Nat.lt_of_lt_of_le (Heap.lt_size e3) hge)), upd_ne e6]
          exact e4
    | some cv =>
      obtain ⟨c', e, hco⟩ := ha pos cv hc
      subst e
      refine PySem.W.kdv_makeTailHit (mg := X.mg) (c := c) (P := P) (ps := ps) (closure_ok hfree) I.ok.glob (I.mod.glob.keeps I.bk) hcode (TB.code.keeps I.bk) hP' ht hc bP fun ctv doc h' tk hx hsz => ?_
      have I1 : Inv X pins σ H { s0 with heap := h'.push (PySem.W.kdv_obj "<lambda>" (X.env.qual ++ "<lambda>") params (.expr body) scope (cloFrom X.env.cells scope.names []) dV doc ((X.mg "__name__").getD .none) c' ctv), toks := tk } := I.kept fun b o e => Heap.get?_push_of_some _ (hx b o e)
      refine h h'.objs.size c' dV doc ((X.mg "__name__").getD .none) ctv H _ I1 (.inl rfl) ⟨ps, hP, ht, ha⟩ ⟨Heap.get?_push_size _ rfl, I.hok.fresh hsz, nofr _ hsz, ?_⟩ hco
      rcases hd with hd | ⟨T, v, a, n, e1, e2, e3, e4, e5, e6⟩
      · exact .inl hd
      · exact .inr ⟨T, v, a, n, e1, e2, Heap.get?_push_of_some _ (hx _ _ e3), e4, e5⟩
  cases hp with
  | none =>
    refine PySem.W.kla_eval rfl ?_
    rw [makeFunction_eq]
    simp only [List.zip_nil_right, List.filterMap_nil, List.isEmpty_nil, if_true, pure_bind]
    exact tail .none s I (.inl ⟨rfl, rfl⟩)
  | one n an ap k cp =>
    refine PySem.W.kdv_lam rfl rfl (PySem.W.kdv_all1 (thn ((pe_int (X := X) (i := n) (pos := cp) (j := k)).run pins s σ H (fun v H1 => v = .int n ∧ H1 = H) I ⟨rfl, rfl⟩) fun u s1 ⟨v, H1, I1, r1, e1, e2⟩ => ?_))
    refine PySem.W.kdv_all0 ?_
    subst e2
    rw [makeFunction_eq]
    simp only [List.zip_nil_right, List.filterMap_nil, List.isEmpty_nil, if_true, pure_bind, List.isEmpty_cons, Bool.false_eq_true, if_false]
    refine wpAny_bind (wpAny_newTextTuple ?_)
    have I2 : Inv X pins σ H1 { s1 with heap := s1.heap.push (PySem.W.kdv_tup [u]) } := I1.kept fun b o e => Heap.get?_push_of_some _ e
    refine tail (.ref s1.heap.objs.size) _ I2 (.inr ⟨_, u, _, n, rfl, rfl, Heap.get?_push_size _ rfl, I1.hok.fresh (Nat.le_refl _), fun z => ?_, fun z => ?_⟩)
    · rcases List.mem_cons.mp (I1.stkSub _ z) with e | e
      · have h1 := I1.lt
        rw [← e] at h1
        exact Nat.lt_irrefl _ h1
      · exact I1.nofs (Nat.le_refl _) e
    · obtain ⟨ps, hP, _, _⟩ := hT
      have hP' : s1.heap.get? P = some { cls := .none, data := .fields ps } := I1.hok P _ hP
      have := Heap.lt_size hP'
      rw [← z] at this
      exact Nat.lt_irrefl _ this
  | oneB n an ap k cp =>
    refine PySem.W.kdv_lam rfl rfl (PySem.W.kdv_all1 (thn ((pe_int (X := X) (i := n) (pos := cp) (j := k)).run pins s σ H (fun v H1 => v = .int n ∧ H1 = H) I ⟨rfl, rfl⟩) fun u s1 ⟨v, H1, I1, r1, e1, e2⟩ => ?_))
    refine PySem.W.kdv_all0 ?_
    subst e2
    rw [makeFunction_eq]
    simp only [List.zip_nil_right, List.filterMap_nil, List.isEmpty_nil, if_true, pure_bind, List.isEmpty_cons, Bool.false_eq_true, if_false]
    refine wpAny_bind (wpAny_newTextTuple ?_)
    have I2 : Inv X pins σ H1 { s1 with heap := s1.heap.push (PySem.W.kdv_tup [u]) } := I1.kept fun b o e => Heap.get?_push_of_some _ e
    refine tail (.ref s1.heap.objs.size) _ I2 (.inr ⟨_, u, _, n, rfl, rfl, Heap.get?_push_size _ rfl, I1.hok.fresh (Nat.le_refl _), fun z => ?_, fun z => ?_⟩)
    · rcases List.mem_cons.mp (I1.stkSub _ z) with e | e
      · have h1 := I1.lt
        rw [← e] at h1
        exact Nat.lt_irrefl _ h1
      · exact I1.nofs (Nat.le_refl _) e
    · obtain ⟨ps, hP, _, _⟩ := hT
      have hP' : s1.heap.get? P = some { cls := .none, data := .fields ps } := I1.hok P _ hP
      have := Heap.lt_size hP'
      rw [← z] at this
      exact Nat.lt_irrefl _ this
end

/-! ### the lambda's names -/
/-- its own names are none of the maker's slots -/
structure LamS3 (N : List Str) (sc scope : Scope) : Prop where
  kind : scope.kind = .function
  co : scope.isCoroutine = false
  gen : scope.isGenerator = false
  cell : ∀ y ∈ scope.names, y.2 ≠ .cell
  own : ∀ y ∈ scope.names, y.2 = .local → y.1 ∉ N
  free : ∀ y ∈ scope.names, y.2 = .free → sc.names.lookup y.1 = some .cell ∨ sc.names.lookup y.1 = some .free
theorem LamS3.has {X : Cx} {scope : Scope} (L : LamS3 X.N X.env.scope scope) (ok : X.Ok) : ∀ y ∈ scope.names, y.2 = .free → ∃ c, X.env.cells.lookup y.1 = some c := fun y hy e => by
  rcases L.free y hy e with k | k
  · exact ok.has _ (.inl k)
  · exact ok.has _ (.inr k)
section
variable {X : Cx} {pins : List (Addr × Obj)} {σ : L2.St} {H HZ : Hp} {s s1 : Shared}
theorem lam_start3 {A : Around} {outer : List Env} {E : XK} {scope : Scope} {f c' : Addr} {h₁ : Heap} {tk : Nat} {m : Str → Option Value} (I : Inv X pins σ H s) (L : LamS3 X.N X.env.scope scope) (e0 : Env0 X.prog X.w X.K X.mg X.base A outer s1 HZ) (hd : A.handled = none)
    (un : Un (frs X.stack) [] H HZ s.heap s1.heap) (hns : h₁.Ns s1.heap.objs.size m) (kp : ∀ b o, s1.heap.get? b = some o → h₁.get? b = some o) :
    Inv (lamCx X A outer s1 HZ E scope f c') [] σ HZ { s1 with heap := h₁, toks := tk } := by
  have hfree := L.has I.ok
  have cm : ∀ {y c}, (cloFrom X.env.cells scope.names []).lookup y = some c → X.env.cells.lookup y = some c := fun {y c} e => by
    rcases cloFrom_mem (PySem.mem_of_lookup e) with hm | ⟨h1, h2⟩
    · cases hm
    · obtain ⟨c1, hc⟩ := hfree _ h1 rfl
      have hc : X.env.cells.lookup y = some c1 := hc
      have e2 : c = c1 := by
        rw [h2, hc] <;> rfl
      rw [e2]
      exact hc
  have look : ∀ {y}, scope.names.lookup y = some .free → ∃ c, (cloFrom X.env.cells scope.names []).lookup y = some c := fun {y} hl => by
    have hy : (y, NameKind.free) ∈ scope.names := PySem.mem_of_lookup hl
    exact mem_lookup (cloFrom_has (cells := X.env.cells) (acc := []) hy)
  have cellK : ∀ {c : Addr} {v : Option Value}, H c = none → s.heap.IsCell c v → h₁.IsCell c v := fun {c v} n ⟨o, ho, hd⟩ => by
    obtain ⟨sl, q⟩ := un.any ho n (by simp)
    exact ⟨_, kp _ _ q, hd⟩
  have noA : ∀ b : Addr, b ∉ (lamCx X A outer s1 HZ E scope f c').ex := fun b z => absurd (show b ∈ ([] : List Addr) from z) (by simp)
  refine ⟨⟨e0.mod, L.kind, rfl, rfl, Nat.le_refl _, fun y z c e1 e2 => I.ok.inj y z c (cm e1) (cm e2), fun y hy => ?_, fun y c z _ => ?_, fun _ => hd, Around.frames_deeper e0.frames, .inr ⟨rfl, rfl⟩, fun b z => absurd z (noA b), e0.bs, e0.bsz, fun b _ _ => noA b,
      fun b z => absurd z (noA b), e0.funs, e0.frf⟩,
    rfl, e0.bare, Un.kept kp, ⟨_, hns, fun i y v e1 e2 e3 => ?_⟩, fun y c e => ?_, e0.hok.fresh (Nat.le_refl _), fun y c e => ?_, fun q hq => absurd (show q ∈ ([] : List (Addr × Obj)) ++ [] from hq) (by simp), e0.hok.kept kp, I.len⟩
  · have hy : scope.names.lookup y = some .cell ∨ scope.names.lookup y = some .free := hy
    rcases hy with hy | hy
    · exact absurd rfl (L.cell _ (PySem.mem_of_lookup hy))
    · exact look hy
  · have z : false = true := z
    cases z
  · have e3 : Vis scope y := e3
    rcases e3 with k | k | k
    · exact absurd (List.mem_of_getElem? e1) (L.own _ (PySem.mem_of_lookup k) rfl)
    · exact absurd rfl (L.cell _ (PySem.mem_of_lookup k))
    · obtain ⟨m, hn, hl⟩ := I.loc
      have hvis : Vis X.env.scope y := (L.free _ (PySem.mem_of_lookup k) rfl).elim (fun k => .inr (.inl k)) (fun k => .inr (.inr k))
      obtain ⟨w', r, q⟩ := hl i y v e1 e2 hvis
      obtain ⟨c2, h2⟩ := look k
      refine ⟨w', r, .inr ⟨.inr k, c2, h2, ?_⟩⟩
      have c1 := cm h2
      rcases q with ⟨k', _⟩ | ⟨_, c3, e', z⟩
      · have k' : X.env.scope.names.lookup y = some .local := k'
        rcases L.free _ (PySem.mem_of_lookup k) rfl with k2 | k2 <;> rw [show X.env.scope.names.lookup y = _ from k2] at k' <;> cases k'
      · rw [c1] at e'
        cases e'
        exact cellK (I.freeC y _ c1) z
  · obtain ⟨w', z⟩ := I.cell y c (cm e)
    exact ⟨w', cellK (I.freeC y c (cm e)) z⟩
  · obtain ⟨v, o, ho, hd⟩ := I.cell y c (cm e)
    exact un.free c o ho (I.freeC y c (cm e)) (by simp)
/-- a(), in the def that got the lambda -/
theorem pe_act3 {CXg : CXT} {Eg : XK} {Ng : List Str} {qg : Str} {sg : Scope} {g f c' : Addr} {cdg dV doc pm ctv : Value} {params : Arguments} {bs : List (Str × Int)} {body : Expr} {scope : Scope} {k i : Nat} {a : Str} {pn : List (Addr × Obj)} {xe : Value → Shared → Prop} {W : WX} {E : XK} {tb : TE} {p1 p2 : Pos}
    (I : Inv X pins σ H s) (L : LamS3 X.N X.env.scope scope) (hp : Pms params bs) (hloc : ∀ y ∈ bs, scope.names.lookup y.1 = some .local)
    (hf : LamO s.heap H (frs X.stack) f (PySem.W.kdv_fn "<lambda>" (X.env.qual ++ "<lambda>") params (.expr body) scope (cloFrom X.env.cells scope.names []) dV doc pm (.ref c') ctv) bs)
    (tk : Takes ((cxOf CXg X.prog X.w X.K X.mg X.base Ng qg sg g cdg X.A X.stack s H Eg).tr pn xe) W) (hW : ∀ cls d σ' H', E cls d H' → W cls d σ' H') (hr : Room (k + 1) (X.A.deeper (envOfC qg sg s.heap.objs.size g cdg)))
    (hbody : ∀ (A : Around) (outer : List Env) (s : Shared) (H : Hp), Room k (A.deeper (lamEnv X scope s.heap.objs.size f c')) → PE (lamCx X A outer s H E scope f c') body tb)
    (hN : Ng[i]? = some a) (hv : Vis sg a) (hd : (a == ("__debug__" : Str)) = false := by decide) (hcd : (a == ("__classdict__" : Str)) = false := by decide) :
    PE ((cxOf CXg X.prog X.w X.K X.mg X.base Ng qg sg g cdg X.A X.stack s H Eg).tr pn xe) (.Call (.Name a p1) [] [] p2)
      (fun σZ HZ Q => σZ[i]? = some (some (.ref f)) ∧ HZ c' = some (CodeO c' (X.env.qual ++ "<lambda>")) ∧ tb σ HZ Q) := by
  refine ⟨fun pinsZ sZ σZ HZ Q IZ h => ?_⟩
  obtain ⟨hs, hc, ht⟩ := h
  refine wpAny_Call_Name_kw (thn ((pe_var (pos := p1) (i := i) hN hv hd hcd).run pinsZ sZ σZ HZ (fun v H1 => v = .ref f ∧ H1 = HZ) IZ ⟨.ref f, hs, rfl, rfl⟩) fun u s1 ⟨v, H1, I1, r1, q1⟩ => ?_)
  obtain ⟨ev, eH⟩ := q1
  subst ev
  rw [eH] at I1
  obtain rfl : u = Value.ref f := r1
  have kept : ∀ b o, s.heap.get? b = some o → H b = none → b ∉ frs X.stack → s1.heap.get? b = some o := fun b o e n nf => I1.base.keep b o e n nf (fun z => nomatch (show b ∈ ([] : List Addr) from z))
  have of1 := kept f _ hf.get hf.none hf.fr
  refine PySem.W.callWith_F0 ⟨_, _, _, _, of1⟩ ?_
  have un : Un (frs X.stack) [] H HZ s.heap s1.heap := I1.base
  obtain ⟨⟨oc, vs, t, hoc, hdc, hvc⟩, _, _⟩ := I1.hok c' _ hc
  have hb : ∃ us : List (Str × Value), us.map (·.1) = bs.map (·.1) ∧ BindsTo s1 (PySem.W.kdv_fn "<lambda>" (X.env.qual ++ "<lambda>") params (.expr body) scope (cloFrom X.env.cells scope.names []) dV doc pm (.ref c') ctv) ⟨[], []⟩ us := by
    cases hp with
    | none =>
      refine ⟨[], rfl, ?_⟩
      rcases hf.df with ⟨_, e⟩ | ⟨T, v, a, n, e, _⟩
      · have e : dV = .none := e
        subst e
        exact BindsTo.of_eq rfl
      · cases e
    | one n an ap kk cp =>
      rcases hf.df with ⟨e, _⟩ | ⟨T, v, b', n', e, e1, e2, e3, e4⟩
      · cases e
      · have e1 : dV = .ref T := e1
        subst e1
        exact ⟨[("a", v)], rfl, BindsTo.of_defaults (T := T) rfl (kept T _ e2 e3 e4) rfl rfl rfl⟩
    | oneB n an ap kk cp =>
      rcases hf.df with ⟨e, _⟩ | ⟨T, v, b', n', e, e1, e2, e3, e4⟩
      · cases e
      · have e1 : dV = .ref T := e1
        subst e1
        exact ⟨[("b", v)], rfl, BindsTo.of_defaults (T := T) rfl (kept T _ e2 e3 e4) rfl rfl rfl⟩
  obtain ⟨us, eus, hb⟩ := hb
  have rc : codeAny (model X.prog X.w) (X.A.deeper (envOfC qg sg s.heap.objs.size g cdg)) (.call (.ref f) ⟨[], []⟩) (CR (L2.CX X.prog X.w) (envOfC qg sg s.heap.objs.size g cdg :: X.stack) X.prog X.w HZ s1 Q E) s1 := by
    refine PySem.W.kla_callFunE hr.depth of1 rfl L.co L.gen rfl ⟨c', oc, vs, t, rfl, hoc, hdc, hvc⟩ ?_
    refine hb _ _ _ _ ?_
    refine wpAny_newFunctionEnv (fun y hy => L.cell y hy) (fun y hy => ?_) (fun h₁ hns hsb => ⟨I1.nolimit.fresh _ hsb, ?_⟩) L.kind
    · have : y.1 ∈ bs.map (·.1) := by rw [← eus]; exact List.mem_map.mpr ⟨y, hy, rfl⟩
      obtain ⟨z, hz, e⟩ := List.mem_map.mp this
      rw [← e]; exact hloc z hz
    · show codeAny _ _ (.expr body (lamEnv X scope s1.heap.objs.size f c')) _ _
      have kp : ∀ b o, s1.heap.get? b = some o → h₁.get? b = some o := fun b o e => hsb.extBut b o (Nat.ne_of_lt (Heap.lt_size e)) (Heap.get?_push_of_some _ e)
      have J : Inv (lamCx X (X.A.deeper (envOfC qg sg s.heap.objs.size g cdg)) (envOfC qg sg s.heap.objs.size g cdg :: X.stack) s1 HZ E scope f c') [] σ HZ { s1 with heap := h₁, toks := s1.toks + us.length } :=
        lam_start3 I L I1.env0 hr.hd un hns kp
      refine PySem.W.kla_codeExpr (wpAny_mono ((hbody _ _ s1 HZ (hr.deeper _)).run [] _ _ HZ Q J ht) (fun v s' hq => ?_) fun e s' hq => hq)
      obtain ⟨w', H', J', rv, q⟩ := hq
      exact ⟨w', H', J'.os, J'.bare, J'.base, J'.hok, rv, q⟩
  have hx : Passes (L2.CX X.prog X.w) ((cxOf CXg X.prog X.w X.K X.mg X.base Ng qg sg g cdg X.A X.stack s H Eg).tr pn xe) E := passes_call tk hW
  refine wpAny_call (codeAny_mono rc fun r s' hq => ?_)
  cases r with
  | error e => exact hx pinsZ σZ HZ s1 e s' I1 hq
  | ok fl =>
    cases fl with
    | ret u => exact I1.after hq
    | next => exact False.elim hq
    | brk => exact False.elim hq
    | cont => exact False.elim hq
end
end LE
namespace LE
open PySem PySem.Spec PyProof.Rows L2 LamX
/-- an except clause that hands back a written text -/
def tsStr (ret : Str) : Addr → Value → Option Addr → TS := fun _ _ _ D _ H => D.rt (.str ret) H
/-- what is wanted of an exception -/
def wLam (K : PySem.W.Frag) (el : Str) (l : List (Value × (Addr → Value → Option Addr → TS))) (Q : VK) : WX := wMany K (fun _ _ _ _ => False) { nx := fun _ H' => Q (.str el) H', rt := Q } l
/-- the reading: the heap behind the making; the lambda's body there -/
def tLamTry (K : PySem.W.Frag) (P : Addr) (q el : Str) (l : List (Value × (Addr → Value → Option Addr → TS))) (t : XK → TE) : TE := fun σ H Q => TabS H P q ∧ ∀ c' H1, Made P c' q H H1 → TabS H1 P q →
  ∃ E : XK, (∀ cls d σ' H', E cls d H' → wLam K el l Q cls d σ' H') ∧ t E σ H1 (fun _ H' => Q (.str el) H')
section
variable {X : Cx}
/-- x(lambda: body), where x tries it -/
theorem pe_lamtry {x a el : Str} {g c P : Addr} {k : Nat} {pg : Arguments} {h₀ : ExceptHandler} {hds : List ExceptHandler} {l : List (Value × (Addr → Value → Option Addr → TS))} {sg : Scope} {dV kV doc pm cdv ct oc : Value} {an od : Option Addr} {osl : Array (Option Value)} {Ng : List Str}
    {params : Arguments} {bs : List (Str × Int)} {body : Expr} {scope : Scope} {t : XK → TE} {p lpos pos p1 p2 p3 p7 p8 p9 : Pos} {jj : Nat} (hg : Gl X x) (hm : X.mg x = some (.ref g)) (hk : PySem.W.keepIn X.K (.ref g) = true)
    (lk : X.K.lookup g = some ⟨oc, od, .func (PySem.W.fnOf x x pg [.Try [.Expr (.Call (.Name a p1) [] [] p2) p3] (h₀ :: hds) [] [] p7, .Return (some (.Constant (.str el) jj p8)) p9] sg dV kV doc pm an cdv ct), osl⟩) (hcg : PySem.W.codeIn X.K cdv x = true)
    (hb : L2.Binds X.K (PySem.W.fnOf x x pg [.Try [.Expr (.Call (.Name a p1) [] [] p2) p3] (h₀ :: hds) [] [] p7, .Return (some (.Constant (.str el) jj p8)) p9] sg dV kV doc pm an cdv ct) [a] []) (Sg : FnScope Ng [a] sg) (hNg : Ng[0]? = some a) (hva : Vis sg a)
    (hH : ∀ (A : Around) (outer : List Env) (s : Shared) (H : Hp) (E : XK), HdsOk (cxOf C8.CX0 X.prog X.w X.K X.mg X.base Ng x sg g cdv A outer s H E).nox (h₀ :: hds) l) (h0 : ∀ f : Addr, (L2.start Ng [V.ref f])[0]? = some (some (V.ref f)))
    (TB : TabB X.base X.mg c P) (hcode : X.env.code = .ref c) (hr : Room (k + 2) X.A) (L : LamS3 X.N X.env.scope scope) (hp : Pms params bs) (hloc : ∀ y ∈ bs, scope.names.lookup y.1 = some .local)
    (hbody : ∀ (A : Around) (outer : List Env) (s : Shared) (H : Hp) (E : XK) (f c' : Addr), Room k (A.deeper (lamEnv X scope s.heap.objs.size f c')) → PE (lamCx X A outer s H E scope f c') body (t E))
    (hdb : (x == ("__debug__" : Str)) = false) (hd : (a == ("__debug__" : Str)) = false) (hcd : (a == ("__classdict__" : Str)) = false) :
    PE X (.Call (.Name x p) [.Lambda params body scope lpos] [] pos) (tLamTry X.K P (X.env.qual ++ "<lambda>") el l t) := by
  refine ⟨fun pins s σ H Q I h => ?_⟩
  obtain ⟨hT, h⟩ := h
  refine wpAny_Call_Name_kw (ld_glob I hg hm ?_ hdb)
  refine PySem.W.callWith_K (h₀ := X.base) I.ok.mod.kin hk ?_ (by rfl) (by rfl)
  show wpAny _ _ (spliced ((false, eval (.Lambda params body scope lpos) X.env) :: backTo pos (starEach [] X.env))) _ _ s
  refine Calls.spliced_cons (lam_make3 I TB hcode hT hp (L.has I.ok) fun f c' dV' doc' pm' ctv H1 s' I1 hM T1 hf hco => ?_)
  refine Calls.spliced_nil ⟨I1.kIn, ?_⟩
  have rc : codeAny (model X.prog X.w) X.A (.call (.ref g) ⟨[.ref f], []⟩) (CR C8.CX0 X.stack X.prog X.w H1 s' Q C8.E0) s' := by
    refine run_ofS (N := Ng) (ps := [a]) (us := [.ref f]) (vs := [.ref f]) lk hcg Sg hr I1.env0 (hb s' [.ref f] I1.kIn rfl) (.cons rfl .nil) rfl fun hr' => ?_
    obtain ⟨E, hE, ht⟩ := h c' H1 hM T1
    have hX := hH X.A X.stack s' H1 C8.E0
    have sw : swapsWith (.Call (.Name a p1) [] [] p2) none p3.line (cxOf C8.CX0 X.prog X.w X.K X.mg X.base Ng x sg g cdv X.A X.stack s' H1 C8.E0).env = pure false := rfl
    have tr := ps_try_many (X := (cxOf C8.CX0 X.prog X.w X.K X.mg X.base Ng x sg g cdv X.A X.stack s' H1 C8.E0).nox) (pos := p7) (body := [.Expr (.Call (.Name a p1) [] [] p2) p3])
      (tb := fun W D σ' H' => ∃ Ech : XK, (∀ cls d σ' H', Ech cls d H' → W cls d σ' H') ∧ σ'[0]? = some (some (.ref f)) ∧ H' c' = some (CodeO c' (X.env.qual ++ "<lambda>")) ∧ t Ech σ H' (fun _ H2 => D.nx σ' H2))
      rfl rfl takes0 (fun W pn xe tk _ => ?_) hX
    · refine ⟨_, (pss_cons tr (pss_one (ps_ret (pos := p9) (pe_str (pos := p8))))).nox, ?_⟩
      exact ⟨E, hE, h0 f, hco, ht⟩
    · refine ⟨fun pins2 s2 σ2 H2 D I2 h2 => ?_⟩
      obtain ⟨Ech, hW, h1, h3, h4⟩ := h2
      have hp2 := pe_act3 (CXg := C8.CX0) (Eg := C8.E0) (Ng := Ng) (p1 := p1) (p2 := p2) (i := 0) (E := Ech) I1 L hp hloc hf tk hW hr' (fun A outer s H hr2 => hbody A outer s H Ech f c' hr2) hNg hva hd hcd
      exact (pss_one (ps_expr hp2 sw)).run pins2 s2 σ2 H2 D I2 ⟨h1, h3, h4⟩
  refine wpAny_call (codeAny_mono rc fun r s2 hq => ?_)
  cases r with
  | error e => exact (show False from hq).elim
  | ok fl =>
    cases fl with
    | ret u => exact I1.after hq
    | next => exact False.elim hq
    | brk => exact False.elim hq
    | cont => exact False.elim hq
end
end LE
end

section
set_option Elab.async false
set_option linter.all false
set_option maxRecDepth 100000
set_option maxHeartbeats 4000000
/-! VX: answers that may be errors. -/
namespace PV
open PySem PySem.Spec PyProof.Rows L2 GX GxR PG C8

/-- an error that is wished: its class, without fields -/
def ErrX (g : G) (E : XK) (c : Str) (fs : List (Str × D)) (ρ : List Addr) (H : Hp) (h' : Hs) : Prop :=
  fs = [] ∧ ∀ (ρ' : List Addr) (H' : Hp) (Ca : Addr), Tr g.tb ρ H ρ' H' → HR g ρ' H' h' → g.mg c = some (.ref Ca) → E (.ref Ca) none H'
def PostX (g : G) (E : XK) {α β : Type} (R : Hp → List Addr → α → β → Prop) (r : Res α) (ρ : List Addr) (H : Hp) (Q : β → Hp → Prop) : Prop :=
  match r with
  | .ok d h' => ∀ (v : β) (ρ' : List Addr) (H' : Hp), Tr g.tb ρ H ρ' H' → HR g ρ' H' h' → R H' ρ' d v → Q v H'
  | .err c fs h' => ErrX g E c fs ρ H h'
  | .bad => False
def wpEX (g : G) (E : XK) (C : CF) (f : Ev) : TE := fun σ H Q => ∃ ρ h env, HR g ρ H h ∧ EnvR g H ρ env σ ∧ PostX g E (Is g) (f C env h) ρ H Q
def wpAX (g : G) (E : XK) (C : CF) (f : Av) : TA := fun σ H Q => ∃ ρ h env, HR g ρ H h ∧ EnvR g H ρ env σ ∧ PostX g E (IsL g) (f C env h) ρ H Q
def wpTX (g : G) (E : XK) (C : CF) (f : Tv) : TT := fun σ H Q => ∃ ρ h env, HR g ρ H h ∧ EnvR g H ρ env σ ∧ PostX g E (fun _ _ (b : Bool) c => c = b) (f C env h) ρ H Q
def PostSX (g : G) (E : XK) (r : RS) (ρ : List Addr) (H : Hp) (Dd : Ends) : Prop :=
  match r with
  | .nx env' h' => ∀ (σ' : L2.St) (ρ' : List Addr) (H' : Hp), Tr g.tb ρ H ρ' H' → HR g ρ' H' h' → EnvR g H' ρ' env' σ' → Dd.nx σ' H'
  | .bk env' h' => ∀ (σ' : L2.St) (ρ' : List Addr) (H' : Hp), Tr g.tb ρ H ρ' H' → HR g ρ' H' h' → EnvR g H' ρ' env' σ' → Dd.bk σ' H'
  | .ct env' h' => ∀ (σ' : L2.St) (ρ' : List Addr) (H' : Hp), Tr g.tb ρ H ρ' H' → HR g ρ' H' h' → EnvR g H' ρ' env' σ' → Dd.ct σ' H'
  | .rt d h' => ∀ (v : V) (ρ' : List Addr) (H' : Hp), Tr g.tb ρ H ρ' H' → HR g ρ' H' h' → Is g H' ρ' d v → Dd.rt v H'
  | .err c fs h' => ErrX g E c fs ρ H h'
  | .bad => False
def wpSX (g : G) (E : XK) (C : CF) (f : Sv) : TS := fun Dd σ H => ∃ ρ h env, HR g ρ H h ∧ EnvR g H ρ env σ ∧ PostSX g E (f C env h) ρ H Dd
/-- no error is an answer -/
@[reducible] def Res.strict {α : Type} (r : Res α) : Res α := match r with
  | .ok a h => .ok a h
  | _ => .bad
@[reducible] def RS.strict (r : RS) : RS := match r with
  | .err _ _ _ => .bad
  | r => r
def eStr (f : Ev) : Ev := fun C env h => (f C env h).strict
def aStr (f : Av) : Av := fun C env h => (f C env h).strict
def tStr (f : Tv) : Tv := fun C env h => (f C env h).strict
def sStr (f : Sv) : Sv := fun C env h => (f C env h).strict
section
variable {g : G} {X : Cx} {l : L} {j : Nat} {ρ ρ' ρ1 : List Addr} {H H' H1 : Hp} {h h1 : Hs} {C : CF} {σ : L2.St} {env : Env'} {pos p : Pos} {E : XK}
theorem ErrX.tr {c : Str} {fs : List (Str × D)} (t : Tr g.tb ρ H ρ1 H1) (p : ErrX g E c fs ρ H h) : ErrX g E c fs ρ1 H1 h := ⟨p.1, fun ρ' H' Ca t' => p.2 ρ' H' Ca (t.trans t')⟩
theorem PostX.tr {α β : Type} {R : Hp → List Addr → α → β → Prop} {r : Res α} {Q : β → Hp → Prop} (t : Tr g.tb ρ H ρ1 H1) (p : PostX g E R r ρ H Q) : PostX g E R r ρ1 H1 Q := by
  cases r with
  | ok d h => exact fun v ρ' H' t' hr hi => p v ρ' H' (t.trans t') hr hi
  | err => exact ErrX.tr t p
  | bad => exact p
theorem PostX.mono {α β : Type} {R : Hp → List Addr → α → β → Prop} {r : Res α} {Q Q' : β → Hp → Prop} (p : PostX g E R r ρ H Q) (h : ∀ v H', Q v H' → Q' v H') : PostX g E R r ρ H Q' := by
  cases r with
  | ok d _ => exact fun v ρ' H' t' hr hi => h v H' (p v ρ' H' t' hr hi)
  | err => exact p
  | bad => exact p
theorem PostX.bind {α β γ δ : Type} {R : Hp → List Addr → α → β → Prop} {R' : Hp → List Addr → γ → δ → Prop} {r : Res α} {f : α → Hs → Res γ} {Q : δ → Hp → Prop} (p : PostX g E R' (r.bind f) ρ H Q) :
    PostX g E R r ρ H fun v H1 => ∃ ρ1 h1 d, Tr g.tb ρ H ρ1 H1 ∧ HR g ρ1 H1 h1 ∧ R H1 ρ1 d v ∧ PostX g E R' (f d h1) ρ1 H1 Q := by
  cases r with
  | ok d h => exact fun v ρ' H' t hr hi => ⟨ρ', h, d, t, hr, hi, p.tr t⟩
  | err => exact p
  | bad => exact p
theorem PostX.of {α β : Type} {R : Hp → List Addr → α → β → Prop} {r : Res α} {Q : β → Hp → Prop} (p : Post g R r ρ H Q) : PostX g E R r ρ H Q := by
  cases r with
  | ok d h => exact p
  | err => exact p.elim
  | bad => exact p
theorem PostX.strict {α β : Type} {R : Hp → List Addr → α → β → Prop} {r : Res α} {Q : β → Hp → Prop} (p : PostX g E R r.strict ρ H Q) : Post g R r ρ H Q := by
  cases r with
  | ok d h => exact p
  | err => exact p
  | bad => exact p
theorem PostX.chk {α β : Type} {R : Hp → List Addr → α → β → Prop} {b : Bool} {r : Res α} {Q : β → Hp → Prop} (p : PostX g E R (chk b r) ρ H Q) : b = true ∧ PostX g E R r ρ H Q := by
  cases b with
  | true => exact ⟨rfl, p⟩
  | false => exact p.elim
theorem PostX.ok {α β : Type} {R : Hp → List Addr → α → β → Prop} {d : α} {Q : β → Hp → Prop} (p : PostX g E R (.ok d h) ρ H Q) : Post g R (.ok d h) ρ H Q := p
theorem PostSX.tr {r : RS} {Dd : Ends} (t : Tr g.tb ρ H ρ1 H1) (p : PostSX g E r ρ H Dd) : PostSX g E r ρ1 H1 Dd := by
  cases r with
  | nx e h => exact fun σ ρ' H' t' => p σ ρ' H' (t.trans t')
  | bk e h => exact fun σ ρ' H' t' => p σ ρ' H' (t.trans t')
  | ct e h => exact fun σ ρ' H' t' => p σ ρ' H' (t.trans t')
  | rt d h => exact fun v ρ' H' t' => p v ρ' H' (t.trans t')
  | err => exact ErrX.tr t p
  | bad => exact p
theorem PostSX.strict {r : RS} {Dd : Ends} (p : PostSX g E r.strict ρ H Dd) : PostS g r ρ H Dd := by
  cases r with
  | err => exact p
  | nx e h => exact p
  | bk e h => exact p
  | ct e h => exact p
  | rt d h => exact p
  | bad => exact p
theorem PostSX.toS {α β : Type} {R : Hp → List Addr → α → β → Prop} {r : Res α} {f : α → Hs → RS} {Dd : Ends} (p : PostSX g E (r.toS f) ρ H Dd) :
    PostX g E R r ρ H fun v H1 => ∃ ρ1 h1 d, Tr g.tb ρ H ρ1 H1 ∧ HR g ρ1 H1 h1 ∧ R H1 ρ1 d v ∧ PostSX g E (f d h1) ρ1 H1 Dd := by
  cases r with
  | ok d h => exact fun v ρ' H' t hr hi => ⟨ρ', h, d, t, hr, hi, p.tr t⟩
  | err => exact p
  | bad => exact p
theorem PostSX.toG {r : Res Env'} {f : Env' → Hs → RS} {is : List Nat} {Dd : Ends} (p : PostSX g E (r.strict.toS f) ρ H Dd) :
    PostG g r is σ ρ H fun σ1 H1 => ∃ ρ1 h1 e, Tr g.tb ρ H ρ1 H1 ∧ HR g ρ1 H1 h1 ∧ EnvR g H1 ρ1 e σ1 ∧ PostSX g E (f e h1) ρ1 H1 Dd := by
  cases r with
  | ok d h => exact fun σ' ρ' H' t hr he _ => ⟨ρ', h, d, t, hr, he, p.tr t⟩
  | err => exact p
  | bad => exact p
/-! ### pieces that raise nothing -/
theorem ex_str {e : Expr} {f : Ev} (he : PE X e (wpE g C f)) : PE X e (wpEX g E C (eStr f)) := PV.PE.imp he fun σ H Q ⟨ρ, h, env, hr, hv, p⟩ => ⟨ρ, h, env, hr, hv, PostX.strict p⟩
theorem ax_str {es : List Expr} {f : Av} (he : PA X es (wpA g C f)) : PA X es (wpAX g E C (aStr f)) := PV.PA.imp he fun σ H Q ⟨ρ, h, env, hr, hv, p⟩ => ⟨ρ, h, env, hr, hv, PostX.strict p⟩
theorem tx_str {e : Expr} {f : Tv} (he : PT X e (wpT g C f)) : PT X e (wpTX g E C (tStr f)) := PV.PT.imp he fun σ H Q ⟨ρ, h, env, hr, hv, p⟩ => ⟨ρ, h, env, hr, hv, PostX.strict p⟩
theorem sx_str {e : Stmt} {f : Sv} (he : PS X e (wpS g C f)) : PS X e (wpSX g E C (sStr f)) := PV.PS.imp he fun σ H Q ⟨ρ, h, env, hr, hv, p⟩ => ⟨ρ, h, env, hr, hv, PostSX.strict p⟩
/-! ### pieces that may -/
theorem ax_nil : PA X [] (wpAX g E C aNil) := PV.PA.imp pa_nil fun σ H Q ⟨ρ, h, env, hr, hv, p⟩ => p [] ρ H (Tr.refl hr.tabs) hr IsL.nil
theorem wpAX.cons {a : Ev} {r : Av} {Q : List V → Hp → Prop} (q : wpAX g E C (aCons a r) σ H Q) : tCons (wpEX g E C a) (wpAX g E C r) σ H Q := by
  obtain ⟨ρ, h, env, hr, he, p⟩ := q
  refine ⟨ρ, h, env, hr, he, (PostX.bind (R := Is g) p).mono fun x H1 ⟨ρ1, h1, d, t, hr1, i1, p1⟩ => ?_⟩
  refine ⟨ρ1, h1, env, hr1, he.mono t, (PostX.bind (R := IsL g) p1).mono fun y H2 ⟨ρ2, h2, e, t2, hr2, i2, p2⟩ => ?_⟩
  exact p2 _ ρ2 H2 (Tr.refl hr2.tabs) hr2 (IsL.cons (i1.mono t2) i2)
theorem sx_nil : PSs X [] (wpSX g E C sNil) := PV.PSs.imp pss_nil fun D σ H ⟨ρ, h, env, hr, he, p⟩ => p σ ρ H (Tr.refl hr.tabs) hr he
theorem sx_cons {st : Stmt} {rest : List Stmt} {a b : Sv} (h1 : PS X st (wpSX g E C a)) (h2 : PSs X rest (wpSX g E C b)) : PSs X (st :: rest) (wpSX g E C (sCons a b)) := by
  refine PV.PSs.imp (pss_cons h1 h2) fun D σ H ⟨ρ, h, env, hr, he, p⟩ => ⟨ρ, h, env, hr, he, ?_⟩
  have p : PostSX g E ((a C env h).seq fun e h1 => b C e h1) ρ H D := p
  cases q : a C env h with
  | nx e h1 => rw [q] at p; exact fun σ' ρ' H' t hr' he' => ⟨ρ', h1, e, hr', he', PostSX.tr t p⟩
  | rt d h1 => rw [q] at p; exact p
  | bk e h1 => rw [q] at p; exact p
  | ct e h1 => rw [q] at p; exact p
  | err => rw [q] at p; exact p
  | bad => rw [q] at p; exact p
theorem sx_expr {e : Expr} {a : Ev} (he : PE X e (wpEX g E C a)) (hs : swapsWith e none pos.line X.env = pure false) : PS X (.Expr e pos) (wpSX g E C (sExpr a)) := by
  refine PV.PS.imp (ps_expr he hs) fun D σ H ⟨ρ, h, env, hr, hv, p⟩ => ⟨ρ, h, env, hr, hv, (PostSX.toS (R := Is g) p).mono fun x H1 ⟨ρ1, h1, d, t, hr1, i1, p1⟩ => ?_⟩
  exact p1 σ ρ1 H1 (Tr.refl hr1.tabs) hr1 (hv.mono t)
theorem sx_ret {e : Expr} {a : Ev} (he : PE X e (wpEX g E C a)) : PS X (.Return (some e) pos) (wpSX g E C (sRet a)) := by
  refine PV.PS.imp (ps_ret he) fun D σ H ⟨ρ, h, env, hr, hv, p⟩ => ⟨ρ, h, env, hr, hv, (PostSX.toS (R := Is g) p).mono fun x H1 ⟨ρ1, h1, d, t, hr1, i1, p1⟩ => ?_⟩
  exact p1 x ρ1 H1 (Tr.refl hr1.tabs) hr1 i1
theorem sx_if {c : Expr} {p q : List Stmt} {t : Tv} {a b : Sv} (ht : PT X c (wpTX g E C t)) (ha : PSs X p (wpSX g E C a)) (hb : PSs X q (wpSX g E C b)) : PS X (.If c p q pos) (wpSX g E C (sIf t a b)) := by
  refine PV.PS.imp (ps_if ht ha hb) fun D σ H ⟨ρ, h, env, hr, hv, p⟩ => ⟨ρ, h, env, hr, hv, (PostSX.toS (R := fun _ _ (b : Bool) c => c = b) p).mono fun x H1 ⟨ρ1, h1, d, t, hr1, i1, p1⟩ => ?_⟩
  subst i1
  cases x with
  | true => exact ⟨ρ1, h1, env, hr1, hv.mono t, p1⟩
  | false => exact ⟨ρ1, h1, env, hr1, hv.mono t, p1⟩
/-- x = e, x a plain name -/
theorem sx_asg {e tg : Expr} {a : Ev} {i : Nat} (he : PE X e (wpEX g E C a)) (ht : PG X tg (wpG g (tgName i))) (hs : swapsWithSole [tg] e pos.line X.env = pure false) (hw : swappedStores [tg] e X.env = pure none) (h1 : (assignEach [tg] X.env).map (·.2) = [assign tg X.env]) :
    PS X (.Assign [tg] e pos) (wpSX g E C (sAsg a (tgName i))) := by
  refine PV.PS.imp (ps_asg he ht hs hw h1) fun D σ H ⟨ρ, h, env, hr, hv, p⟩ => ⟨ρ, h, env, hr, hv, (PostSX.toS (R := Is g) p).mono fun x H1 ⟨ρ1, h1, d, t, hr1, i1, p1⟩ => ?_⟩
  have p1 : PostSX g E ((Res.strict ((tgName i).run d env h1)).toS fun e h2 => .nx e h2) ρ1 H1 D := p1
  refine ⟨ρ1, h1, env, d, hr1, hv.mono t, i1, (PostSX.toG p1).mono fun σ1 H2 ⟨ρ2, h2, e, t2, hr2, he2, p2⟩ => ?_⟩
  exact p2 σ1 ρ2 H2 (Tr.refl hr2.tabs) hr2 he2
/-- raise x() -/
def sRaise (x : Str) : Sv := fun _ _ h => .err x [] h
/-- an error of the text -/
structure ErOk (g : G) (x : Str) (C : Addr) : Prop where
  mg : g.mg x = some (.ref C)
  exc : PySem.W.excIn g.K C He.veBase "ValueError.__new__" = true
  kp : PySem.W.keepIn g.K (.ref C) = true
  sub : PySem.W.subIn g.K (.ref C) (.type "BaseException") = some true
  ty : PySem.W.typeIn g.K (.ref C) = some (.type "type")
theorem pmk_own0 {C : Addr} {x : Str} {p : Pos} (o : ErOk g x C) (hmg : X.mg = g.mg) (hK : X.K = g.K) (hg : Gl X x) (hdb : (x == ("__debug__" : Str)) = false) :
    PMk X (.Call (.Name x p) [] [] pos) (fun _ H Q => Q (.ref C) none H) := by
  intro pins s σ H Q I h
  refine wpAny_Call_Name_kw (ld_glob I hg (by rw [hmg]; exact o.mg) ?_ hdb)
  refine PySem.W.callWith_K0 I.kIn (by rw [hK]; exact o.kp) ?_
  show wpAny _ _ (call (.ref C) []) _ _ _
  obtain ⟨bm, N, nm, qn, bs, hdct, sn, sub, ab, col, dd, k0, k1, k2, k3, k5, mN, hC, hN, hni, T⟩ := exc_obj (K := X.K) I.kIn (by rw [hK]; exact o.exc)
  refine wpAny_call_exc_subT PySem.F.excBase_ValueError T hC hN hni (fun h' e hm => ?_) (Nat.zero_le _)
  exact mk_of I hm (raises_own (by rw [hK]; exact o.sub) (by rw [hK]; exact o.ty)) h (I.hok.gone hm.new)
/-- raise x() -/
theorem sx_raise {C0 : Addr} {x : Str} {p cpos : Pos} (c : Ct g X l j) (o : ErOk g x C0) (tk : Takes X fun cls d _ H => E cls d H) (hg : Gl X x) (hdb : (x == ("__debug__" : Str)) = false) : PS X (.Raise (some (.Call (.Name x p) [] [] cpos)) none pos) (wpSX g E C (sRaise x)) := by
  refine PV.PS.imp (ps_raise c.calm tk (pmk_own0 o c.mg c.K hg hdb)) fun D σ H ⟨ρ, h, env, hr, hv, p⟩ => ?_
  exact p.2 ρ H C0 (Tr.refl hr.tabs) hr o.mg
/-! ### calls of defs that may raise -/
/-- a def's promise, its errors told -/
def spXF (g : G) (F : List D → Hs → Res D) (np : Nat) : Sp := fun vs H Q E => vs.length = np ∧ ∃ ρ h ds, HR g ρ H h ∧ IsL g H ρ ds vs ∧ PostX g E (Is g) (F ds h) ρ H Q
structure CalX (g : G) (k : Nat) (x : Str) (sp : Sp) : Prop where
  ex : ∃ (f : Addr) (fd : FuncData) (ps : List Str), FnOk g.P g.w g.K g.mg g.base (L2.CX g.P g.w) k f fd ps sp ∧ g.mg x = some (.ref f) ∧ PySem.W.keepIn g.K (.ref f) = true ∧ Binds g.K fd ps []
theorem passX {X : Cx} (tk : Takes X fun cls d _ H => E cls d H) : ∀ σ : L2.St, PassesAt (L2.CX X.prog X.w) X σ E := fun σ => passAt (W := fun cls d _ H => E cls d H) tk σ
/-- x(..) -/
theorem ex_call {x : Str} {np : Nat} {F : List D → Hs → Res D} {e : Expr} {es : List Expr} {fs : Av} (c : Ct g X l j) (cal : CalX g j x (spXF g F np)) (tk : Takes X fun cls d _ H => E cls d H) (hg : Gl X x) (ha : PA X (e :: es) (wpAX g E C fs)) (hdb : (x == ("__debug__" : Str)) = false)
    (he : starEach (e :: es) X.env = (false, eval e X.env) :: starEach es X.env) (hpl : (backTo pos (starEach es X.env)).any (·.1) = false) :
    PE X (.Call (.Name x p) (e :: es) [] pos) (wpEX g E C (fun C env h => (fs C env h).bind fun xs h1 => chk (decide (xs.length = np)) (F xs h1))) := by
  obtain ⟨f, fd, ps, Fo, hm, kp, b⟩ := cal.ex
  have Fo : FnOk X.prog X.w X.K X.mg X.base (L2.CX X.prog X.w) j f fd ps (spXF g F np) := by
    rw [c.prog, c.w, c.K, c.mg, c.base]; exact Fo
  refine PV.PE.imp (pe_callS Fo c.room hg (by rw [c.mg]; exact hm) (by rw [c.K]; exact kp) (by rw [c.K]; exact b) (E := fun _ => E) (passX tk) ha hdb he hpl) fun σ H Q ⟨ρ, h, env, hr, hv, p⟩ => ⟨ρ, h, env, hr, hv, (PostX.bind (R := IsL g) p).mono fun xs H1 ⟨ρ1, h1, ds, t, hr1, i1, p1⟩ => ?_⟩
  obtain ⟨hl, p2⟩ := PostX.chk p1
  exact ⟨by rw [← i1.length]; exact of_decide_eq_true hl, ρ1, h1, ds, hr1, i1, p2⟩
/-- a name that holds a def, called -/
def tCallV (CX : CXT) (X : Cx) (i : Nat) (t : TA) : TE := fun σ H Q => ∃ (f : Addr) (fd : FuncData) (ps : List Str) (k : Nat) (sp : Sp) (E : XK), σ[i]? = some (some (.ref f)) ∧ FnOk X.prog X.w X.K X.mg X.base CX k f fd ps sp ∧ Room k X.A ∧ PySem.W.keepIn X.K (.ref f) = true ∧ Binds X.K fd ps [] ∧ PassesAt CX X σ E ∧ t σ H fun vs H1 => sp vs H1 Q E
theorem pe_callV {CX : CXT} {i : Nat} {a : Str} {e : Expr} {es : List Expr} {t : TA} (hN : X.N[i]? = some a) (hv : Vis X.env.scope a) (ha : PA X (e :: es) t) (hd : (a == ("__debug__" : Str)) = false) (hcd : (a == ("__classdict__" : Str)) = false)
    (he : starEach (e :: es) X.env = (false, eval e X.env) :: starEach es X.env) (hpl : (backTo pos (starEach es X.env)).any (·.1) = false) : PE X (.Call (.Name a p) (e :: es) [] pos) (tCallV CX X i t) := by
  refine ⟨fun pins s σ H Q I h => ?_⟩
  obtain ⟨f, fd, ps, k, sp, E, hs, F, hr, hk, hb, hx, h⟩ := h
  refine wpAny_Call_Name_kw (thn ((pe_var (pos := p) (i := i) hN hv hd hcd).run pins s σ H (fun v H1 => v = .ref f ∧ H1 = H) I ⟨.ref f, hs, rfl, rfl⟩) fun u s1 ⟨v, H1, I1, r1, e1, e2⟩ => ?_)
  subst e1
  rw [e2] at I1
  obtain rfl : u = Value.ref f := r1
  refine PySem.W.callWith_K (h₀ := X.base) I1.ok.mod.kin hk (thn (ha.run pos pins s1 σ H _ I1 h) fun us s2 ⟨vs, H2, I2, r, q⟩ => ⟨I2.kIn, ?_⟩) he hpl
  exact run_fnS (E := fun _ => E) F hr hb hx I2 r q
end
/-! ### for, its body may raise -/
def forX (C : CF) (src : Src) (t : Tg) (body : Sv) : Nat → Nat → Env' → Hs → RS
  | 0, _, _, _ => .bad
  | n + 1, i, env, h => match src.get h i with
    | none => .bad
    | some none => .nx env h
    | some (some d) => (t.run d env h).strict.toS fun e h1 => (body C e h1).turn fun e h2 => forX C src t body n (i + 1) e h2
def sForX (it : Iv) (t : Tg) (body : Sv) : Sv := fun C env h => (it C env h).strict.toS fun src h1 => forX C src t body (src.size h1 + 1) 0 env h1
section
variable {g : G} {X : Cx} {l : L} {j : Nat} {ρ ρ' ρ1 : List Addr} {H H' H1 : Hp} {h h1 : Hs} {C : CF} {σ : L2.St} {env : Env'} {pos p : Pos} {E : XK}
theorem turn_ofX {body : Sv} {f : Env' → Hs → RS} {D : Ends} {N : L2.St → Hp → Prop} (hr : HR g ρ H h) (he : EnvR g H ρ env σ) (p : PostSX g E ((body C env h).turn f) ρ H D)
    (k : ∀ (σ' : L2.St) (ρ' : List Addr) (H' : Hp) (e' : Env') (h' : Hs), Tr g.tb ρ H ρ' H' → HR g ρ' H' h' → EnvR g H' ρ' e' σ' → PostSX g E (f e' h') ρ' H' D → N σ' H') : wpSX g E C body { D with nx := N, ct := N, bk := D.nx } σ H := by
  refine ⟨ρ, h, env, hr, he, ?_⟩
  cases q : body C env h with
  | nx e h1 => rw [q] at p; exact fun σ' ρ' H' t hr' he' => k σ' ρ' H' e h1 t hr' he' (PostSX.tr t p)
  | ct e h1 => rw [q] at p; exact fun σ' ρ' H' t hr' he' => k σ' ρ' H' e h1 t hr' he' (PostSX.tr t p)
  | bk e h1 => rw [q] at p; exact p
  | rt d h1 => rw [q] at p; exact p
  | err => rw [q] at p; exact p
  | bad => rw [q] at p; exact p
theorem sx_for (c : Ct g X l j) {tg iter : Expr} {body : List Stmt} {it : Iv} {t : Tg} {b : Sv} (hi : PI X tg iter (wpI g C it)) (ht : PG X tg (wpG g t)) (hb : PSs X body (wpSX g E C b)) (hs : ∀ x, foldedSetIterable iter X.env x = pure x) :
    PS X (.For tg iter body [] pos) (wpSX g E C (sForX it t b)) := by
  refine PV.PS.imp (ps_for c.po c.calm hi ht hb hs) fun D σ H ⟨ρ, h, env, hr, hv, p⟩ => ⟨ρ, h, env, hr, hv, ?_⟩
  have p : PostSX g E ((it C env h).strict.toS fun src h1 => forX C src t b (src.size h1 + 1) 0 env h1) ρ H D := p
  cases e0 : it C env h with
  | err => rw [e0] at p; exact p
  | bad => rw [e0] at p; exact p
  | ok s h0 =>
    rw [e0] at p
    intro J ρ1 H1 tr1 hr1 sr
    have p1 : PostSX g E (forX C s t b (s.size h0 + 1) 0 env h0) ρ1 H1 D := PostSX.tr tr1 p
    refine ⟨fun i m σ H => ∃ ρ h env, Kp ρ1 H1 ρ H ∧ HR g ρ H h ∧ EnvR g H ρ env σ ∧ PostSX g E (forX C s t b m i env h) ρ H D, ⟨_, ρ1, h0, env, Kp.refl, hr1, hv.mono tr1, p1⟩, ?_⟩
    rintro i m σ H ⟨ρ, h, env, k, hr, he, p⟩
    cases m with
    | zero => exact p.elim
    | succ m =>
      rw [forX] at p
      split at p
      · exact p.elim
      · rename_i eg
        exact .inl ⟨sr.stop i H ρ h k hr eg, p σ ρ H (Tr.refl hr.tabs) hr he⟩
      · rename_i d eg
        refine .inr ⟨sr.go i H ρ h d k hr eg, fun σ' H' => ∃ ρ h env, Kp ρ1 H1 ρ H' ∧ HR g ρ H' h ∧ EnvR g H' ρ env σ' ∧ PostSX g E (forX C s t b m (i + 1) env h) ρ H' D, fun σ' H' z => ⟨m, Nat.lt_succ_self m, z⟩, fun x H' y => ?_⟩
        obtain ⟨y1, y2⟩ := sr.yld i H ρ h d x H' k hr eg y
        obtain ⟨ty, hry⟩ := yld_tr hr y1
        refine ⟨ρ, h, env, d, hry, he.mono ty, y2, (PostSX.toG (PostSX.tr ty p)).mono fun σ1 H2 ⟨ρ2, h2, e2, t2, hr2, he2, p2⟩ => ?_⟩
        refine turn_ofX hr2 he2 p2 fun σ' ρ' H'' e' h' t' hr' he' p' => ?_
        exact ⟨ρ', h', e', ((k.trans ty.kp).trans t2.kp).trans t'.kp, hr', he', p'⟩
end
end PV
end

section
set_option Elab.async false
set_option linter.all false
set_option maxRecDepth 100000
set_option maxHeartbeats 4000000
/-! V10: arguments, calls, subscripts, slices, by syntax. -/
namespace PV
open PySem PySem.Spec PyProof.Rows L2 GX GxR PG C8
open PySem.W (EachIs)

def starB : Expr → Bool
  | .Starred _ _ => true
  | _ => false
theorem starEach_cons {e : Expr} {es : List Expr} {env : Env} (h : starB e = false) : starEach (e :: es) env = (false, eval e env) :: starEach es env := by
  cases e <;> first | rfl | cases h
theorem starEach_nil {env : Env} : starEach [] env = [] := rfl
theorem noStar_back {pos : Pos} {env : Env} : ∀ {es : List Expr}, (es.any starB) = false → (backTo pos (starEach es env)).any (·.1) = false
  | [], _ => rfl
  | e :: es, h => by
    rw [List.any_cons, Bool.or_eq_false_iff] at h
    rw [starEach_cons h.1]
    show (false || ((backTo pos (starEach es env)).any (·.1))) = false
    rw [Bool.false_or]
    exact noStar_back h.2
def slcB : Expr → Bool
  | .Slice _ _ _ _ => true
  | _ => false
theorem plainIx_of {b : Expr} (h : slcB b = false) : PlainIx b := fun o i => by
  cases b <;> first | rfl | cases h
theorem folded_of {e : Expr} {env : Env} (h : ∀ a b c, e ≠ .Set a b c) : ∀ x, foldedSetIterable e env x = pure x := fun x => by
  cases e <;> first | rfl | exact absurd rfl (h _ _ _)
def setB : Expr → Bool
  | .Set _ _ _ => true
  | _ => false
theorem folded_ofB {e : Expr} (h : setB e = false) (env : Env) : ∀ x, foldedSetIterable e env x = pure x := folded_of fun a b c z => by subst z; cases h

/-! ### f(lambda: e), f a def that tries it -/
/-- the clauses of such a def -/
inductive HlOk (g : G) (sg : Scope) : List ExceptHandler → List (Str × Str) → Prop
  | nil : HlOk g sg [] []
  | cons {e ret : Str} {hds : List ExceptHandler} {hl : List (Str × Str)} {C : Addr} {p4 p5 p6 p7 : Pos} {j : Nat} (hg : sg.names.lookup e = some .globalImplicit) (hd : (e == ("__debug__" : Str)) = false) (hm : g.mg e = some (.ref C)) (r : HlOk g sg hds hl) :
      HlOk g sg (.ExceptHandler (some (.Name e p4)) none [.Return (some (.Constant (.str ret) j p5)) p6] p7 :: hds) ((e, ret) :: hl)
def hlv (g : G) (hl : List (Str × Str)) : List (Value × (Addr → Value → Option Addr → TS)) := hl.map fun c => ((g.mg c.1).getD .none, LE.tsStr c.2)
structure LwOk (g : G) (er : List (Str × List Str)) (q : Str × (List (Str × Str) × Str)) : Prop where
  ex : ∃ (gA : Addr) (a : Str) (pg : Arguments) (h₀ : ExceptHandler) (hds : List ExceptHandler) (sg : Scope) (dV kV doc pm cdv ct oc : Value) (an od : Option Addr) (osl : Array (Option Value)) (Ng : List Str) (p1 p2 p3 p7 p8 p9 : Pos) (jj : Nat),
    g.mg q.1 = some (.ref gA) ∧ PySem.W.keepIn g.K (.ref gA) = true ∧ g.K.lookup gA = some ⟨oc, od, .func (PySem.W.fnOf q.1 q.1 pg [.Try [.Expr (.Call (.Name a p1) [] [] p2) p3] (h₀ :: hds) [] [] p7, .Return (some (.Constant (.str q.2.2) jj p8)) p9] sg dV kV doc pm an cdv ct), osl⟩ ∧
    PySem.W.codeIn g.K cdv q.1 = true ∧ L2.Binds g.K (PySem.W.fnOf q.1 q.1 pg [.Try [.Expr (.Call (.Name a p1) [] [] p2) p3] (h₀ :: hds) [] [] p7, .Return (some (.Constant (.str q.2.2) jj p8)) p9] sg dV kV doc pm an cdv ct) [a] [] ∧ FnScope Ng [a] sg ∧ Ng[0]? = some a ∧ Vis sg a ∧
    (∀ f : Addr, (L2.start Ng [V.ref f])[0]? = some (some (V.ref f))) ∧ (q.1 == ("__debug__" : Str)) = false ∧ (a == ("__debug__" : Str)) = false ∧ (a == ("__classdict__" : Str)) = false ∧ HlOk g sg (h₀ :: hds) q.2.1
  exm : ∀ p ∈ er, ∀ C, g.mg p.1 = some (.ref C) → ∀ c ∈ q.2.1, ∀ C', g.mg c.1 = some (.ref C') → PySem.W.exmOne g.K (.ref C) (.ref C') = some (p.2.contains c.1)
/-- what the clauses tell of an error that these names take -/
def told (ms : List Str) : List (Str × Str) → Option Str
  | [] => none
  | c :: r => if ms.contains c.1 then some c.2 else told ms r
def eTry (er : List (Str × List Str)) (hl : List (Str × Str)) (el : Str) (f : Ev) : Ev := fun C env h => if 2 ≤ C.lv then match f C.inner.inner env h with
    | .ok _ h' => .ok (.str el) h'
    | .err c fs h' => chk fs.isEmpty (opt (er.lookup c) fun ms => opt (told ms hl) fun r => .ok (.str r) h')
    | .bad => .bad
  else .bad
/-- the names of a lambda's body -/
def L.lm (l : L) (scope : Scope) : L := { l with sc := scope, gen := false, cl := [], la := false }
def lamB (N : List Str) (sc scope : Scope) : Bool :=
  decide (scope.kind = .function) && !scope.isCoroutine && !scope.isGenerator && scope.names.all fun y => !decide (y.2 = .cell) && (!decide (y.2 = .local) || !N.contains y.1) && (!decide (y.2 = .free) || decide (sc.names.lookup y.1 = some .cell) || decide (sc.names.lookup y.1 = some .free))
theorem lamB_is {N : List Str} {sc scope : Scope} (h : lamB N sc scope = true) : LE.LamS3 N sc scope := by
  unfold lamB at h
  simp only [Bool.and_eq_true, Bool.or_eq_true, Bool.not_eq_true', decide_eq_true_eq, decide_eq_false_iff_not, List.all_eq_true] at h
  obtain ⟨⟨⟨h1, h2⟩, h3⟩, h4⟩ := h
  refine ⟨h1, h2, h3, fun y hy => (h4 y hy).1.1, fun y hy e => ?_, fun y hy e => ?_⟩
  · rcases (h4 y hy).1.2 with z | z
    · exact absurd e z
    · intro m
      rw [List.contains_iff_mem.mpr m] at z
      cases z
  · rcases (h4 y hy).2 with (z | z) | z
    · exact absurd e z
    · exact .inl z
    · exact .inr z
/-- what is known where a piece stands -/
structure Cq (g : G) (X : Cx) (l : L) (C : CF) (j : Nat) : Prop extends Ct g X l j where
  lv : C.lv = j
  cal : ∀ d, d ≤ j → ∀ p ∈ l.df, Cal g.P g.w g.K g.mg g.base (j - d) p.1 (fun vs H Q _ => vs.length = p.2 ∧ ∃ ρ h ds, HR g ρ H h ∧ IsL g H ρ ds vs ∧ PostE g (C.fn d p.1 ds h) ρ H Q) []
  ks : ∀ p ∈ l.ks, ∃ u, g.mg p.1 = some u ∧ RelV (.int p.2) u
  bn : ∀ x ∈ (["len", "range", "reversed", "list", "tuple", "sum", "int", "abs", "divmod", "isinstance", "sorted", "min", "max", "all", "any", "enumerate", "zip", "set", "bool", "str", "dict"] : List Str), g.mg x = none
  calX : ∀ d, d ≤ j → ∀ p ∈ l.df, l.rs.contains p.1 = true → CalX g (j - d) p.1 (spXF g (C.fn d p.1) p.2)
  er : ∀ p ∈ l.er, ∃ C, ErOk g p.1 C
  lw : ∀ q ∈ l.lw, LwOk g l.er q
  lam : l.la = true → ∃ c P, X.env.code = .ref c ∧ LamX.TabB X.base X.mg c P ∧ (P, X.env.qual ++ "<lambda>") ∈ g.lt
abbrev bnms : List Str := ["len", "range", "reversed", "list", "tuple", "sum", "int", "abs", "divmod", "isinstance", "sorted", "min", "max", "all", "any", "enumerate", "zip", "set", "bool", "str", "dict"]
def glB (l : L) (x : Str) : Bool := l.sc.names.lookup x == some NameKind.globalImplicit
/-- a built-in by its name -/
def bnB (l : L) (x y : Str) : Bool := x == y && glB l x && bnms.contains x
section
variable {g : G} {X : Cx} {l : L} {j : Nat} {ρ ρ' ρ1 ρ2 : List Addr} {H H' H1 H2 : Hp} {h h1 h2 : Hs} {C : CF} {σ : L2.St} {env : Env'} {pos p : Pos} {a b c e : Expr} {fa fb fc : Ev} {ta tb : Tv} {es : List Expr} {fs : Av}
theorem Cq.gl (q : Cq g X l C j) {x : Str} (h : glB l x = true) : Gl X x := by
  have : l.sc.names.lookup x = some NameKind.globalImplicit := by simpa [glB] using h
  show X.env.scope.names.lookup x = _
  rw [q.sc]; exact this
theorem Cq.mb (q : Cq g X l C j) {x : Str} (h : bnms.contains x = true) : X.mg x = none := by
  rw [q.mg]; exact q.bn x (List.contains_iff_mem.mp h)
theorem a_cons (h : starB e = false) (ha : PE X e (wpE g C fa)) (hr : PA X es (wpA g C fs)) : PA X (e :: es) (wpA g C (aCons fa fs)) := PV.PA.imp (pa_cons ha hr (starEach_cons h)) fun _ _ _ q => wpA.cons q
theorem a_nil : PA X [] (wpA g C aNil) := PV.PA.imp pa_nil fun _ _ _ q => wpA.nil q
theorem a_star (q : Ct g X l j) (ha : PE X e (wpE g C fa)) (hr : PA X es (wpA g C fs)) : PA X (.Starred e p :: es) (wpA g C (aStar fa fs)) := PV.PA.imp (StX.pa_star ha hr) fun _ _ _ z => wpA.star q.K z
theorem e_callB {id : String} {x : Str} {f : OpN} (hc : CallR X (.builtin id) (rDN g f)) (hg : Gl X x) (hm : X.mg x = none) (hv : bootBuiltins x = some (.builtin id)) (ha : PA X (e :: es) (wpA g C fs)) (hn : x ≠ "__name__") (hdb : (x == ("__debug__" : Str)) = false) (hs : ((e :: es).any starB) = false) :
    PE X (.Call (.Name x p) (e :: es) [] pos) (wpE g C (eArgs f fs)) := by
  rw [List.any_cons, Bool.or_eq_false_iff] at hs
  exact PV.PE.imp (pe_callB hc hg hm hv ha hn hdb (starEach_cons hs.1) (noStar_back hs.2)) fun _ _ _ q => wpE.args q
theorem e_callTy {T : String} {x : Str} {f : OpN} (hc : CallR X (.type T) (rDN g f)) (hg : Gl X x) (hm : X.mg x = none) (hv : bootBuiltins x = some (.type T)) (ha : PA X (e :: es) (wpA g C fs)) (hn : x ≠ "__name__") (hdb : (x == ("__debug__" : Str)) = false) (hs : ((e :: es).any starB) = false) :
    PE X (.Call (.Name x p) (e :: es) [] pos) (wpE g C (eArgs f fs)) := by
  rw [List.any_cons, Bool.or_eq_false_iff] at hs
  exact PV.PE.imp (pe_callTy hc hg hm hv ha hn hdb (starEach_cons hs.1) (noStar_back hs.2)) fun _ _ _ q => wpE.args q
theorem e_callO (q : Cq g X l C j) {x : Str} {np : Nat} (hx : (x, np) ∈ l.df) (hg : Gl X x) (ha : PA X (e :: es) (wpA g C fs)) (hdb : (x == ("__debug__" : Str)) = false) (hs : ((e :: es).any starB) = false) (hn : (e :: es).length = np) :
    PE X (.Call (.Name x p) (e :: es) [] pos) (wpE g C (fun C env h => (fs C env h).bind fun xs h1 => chk (decide (xs.length = np)) (C.fn 0 x xs h1))) := by
  rw [List.any_cons, Bool.or_eq_false_iff] at hs
  have c := q.cal 0 (Nat.zero_le _) (x, np) hx
  have c : Cal X.prog X.w X.K X.mg X.base j x (fun vs H Q _ => vs.length = np ∧ ∃ ρ h ds, HR g ρ H h ∧ IsL g H ρ ds vs ∧ PostE g (C.fn 0 x ds h) ρ H Q) [] := by
    rw [q.prog, q.w, q.K, q.mg, q.base]; exact c
  refine PV.PE.imp (pe_c c q.room (Nat.le_refl _) hg ha hdb (starEach_cons hs.1) (noStar_back hs.2)) fun σ H Q ⟨ρ, h, env, hr, he, p⟩ => ⟨ρ, h, env, hr, he, (bA p).mono fun xs H1 ⟨ρ1, h1, ds, t, hr1, i1, p1⟩ => ?_⟩
  obtain ⟨hl, p2⟩ := Post.chk p1
  rw [List.append_nil]
  exact ⟨by rw [← i1.length]; exact of_decide_eq_true hl, ρ1, h1, ds, hr1, i1, p2⟩
theorem e_ix (q : Ct g X l j) (ha : PE X a (wpE g C fa)) (hb : PE X b (wpE g C fb)) (hs : slcB b = false) : PE X (.Subscript a b pos) (wpE g C (eBin gIx fa fb)) := PV.PE.imp (pe_ix (oi_ix q) ha hb (plainIx_of hs)) fun _ _ _ z => wpE.bin z
/-! ### slices -/
theorem e_sl00 (q : Ct g X l j) (ha : PE X e (wpE g C fa)) : PE X (.Subscript e (.Slice none none none p) pos) (wpE g C (eSlc fa none none)) := by
  refine PV.PE.imp (pe_slice (os_sl q) ha po_none po_none) fun σ H Q ⟨ρ, h, env, hr, he, p⟩ => ⟨ρ, h, env, hr, he, (bE p).mono fun x H1 ⟨ρ1, h1, d, t, hr1, i1, p1⟩ => ?_⟩
  exact ⟨ρ1, h1, d, hr1, i1, p1⟩
theorem e_sl10 (q : Ct g X l j) (ha : PE X e (wpE g C fa)) (hb : PE X a (wpE g C fb)) : PE X (.Subscript e (.Slice (some a) none none p) pos) (wpE g C (eSlc fa (some fb) none)) := by
  refine PV.PE.imp (pe_slice (os_sl q) ha (po_some hb) po_none) fun σ H Q ⟨ρ, h, env, hr, he, p⟩ => ⟨ρ, h, env, hr, he, (bE p).mono fun x H1 ⟨ρ1, h1, d, t, hr1, i1, p1⟩ => ?_⟩
  refine ⟨ρ1, h1, env, hr1, he.mono t, (bE p1).mono fun y H2 ⟨ρ2, h2, d2, t2, hr2, i2, p2⟩ => ?_⟩
  obtain ⟨i, ei, p3⟩ := Post.opt p2
  exact ⟨i, intD_is ei i2, ρ2, h2, d, hr2, i1.mono t2, p3⟩
theorem e_sl01 (q : Ct g X l j) (ha : PE X e (wpE g C fa)) (hb : PE X a (wpE g C fb)) : PE X (.Subscript e (.Slice none (some a) none p) pos) (wpE g C (eSlc fa none (some fb))) := by
  refine PV.PE.imp (pe_slice (os_sl q) ha po_none (po_some hb)) fun σ H Q ⟨ρ, h, env, hr, he, p⟩ => ⟨ρ, h, env, hr, he, (bE p).mono fun x H1 ⟨ρ1, h1, d, t, hr1, i1, p1⟩ => ?_⟩
  refine ⟨ρ1, h1, env, hr1, he.mono t, (bE p1).mono fun y H2 ⟨ρ2, h2, d2, t2, hr2, i2, p2⟩ => ?_⟩
  obtain ⟨i, ei, p3⟩ := Post.opt p2
  exact ⟨i, intD_is ei i2, ρ2, h2, d, hr2, i1.mono t2, p3⟩
theorem e_sl11 (q : Ct g X l j) (ha : PE X e (wpE g C fa)) (hb : PE X a (wpE g C fb)) (hc : PE X b (wpE g C fc)) : PE X (.Subscript e (.Slice (some a) (some b) none p) pos) (wpE g C (eSlc fa (some fb) (some fc))) := by
  refine PV.PE.imp (pe_slice (os_sl q) ha (po_some hb) (po_some hc)) fun σ H Q ⟨ρ, h, env, hr, he, p⟩ => ⟨ρ, h, env, hr, he, (bE p).mono fun x H1 ⟨ρ1, h1, d, t, hr1, i1, p1⟩ => ?_⟩
  refine ⟨ρ1, h1, env, hr1, he.mono t, (bE p1).mono fun y H2 ⟨ρ2, h2, d2, t2, hr2, i2, p2⟩ => ?_⟩
  obtain ⟨i, ei, p3⟩ := Post.opt p2
  refine ⟨i, intD_is ei i2, ρ2, h2, env, hr2, (he.mono t).mono t2, (bE p3).mono fun z H3 ⟨ρ3, h3, d3, t3, hr3, i3, p4⟩ => ?_⟩
  obtain ⟨k, ek, p5⟩ := Post.opt p4
  exact ⟨k, intD_is ek i3, ρ3, h3, d, hr3, (i1.mono t2).mono t3, p5⟩
/-! ### the lambda -/
theorem hds_of {sg : Scope} {x : Str} {gA : Addr} {cdv : Value} {N : List Str} {X : Cx} (hm : X.mg = g.mg) (A : Around) (outer : List Env) (s : Shared) (H0 : Hp) (E : XK) : ∀ {hds : List ExceptHandler} {hl : List (Str × Str)}, HlOk g sg hds hl → HdsOk (cxOf C8.CX0 X.prog X.w X.K X.mg X.base N x sg gA cdv A outer s H0 E).nox hds (hlv g hl)
  | _, _, .nil => .nil
  | _, _, .cons (e := e) (ret := ret) (C := C) hg hd hme r => by
    have hc : Names (cxOf C8.CX0 X.prog X.w X.K X.mg X.base N x sg gA cdv A outer s H0 E).nox e ((g.mg e).getD .none) := ⟨hg, hd, .inl (by
      show X.mg e = _
      rw [hm, hme]; rfl)⟩
    exact .cons hc (fun a oe cls d pn _ _ => pss_one (ps_ret pe_str)) (hds_of hm A outer s H0 E r)
theorem wm_of {c : Str} {ms : List Str} {Ca : Addr} {H' : Hp} {D : Ends} {σ : L2.St} {ret : Str} {sg : Scope} (hc : g.mg c = some (.ref Ca)) (hQ : D.rt (.str ret) H') : ∀ {hds : List ExceptHandler} {hl : List (Str × Str)}, HlOk g sg hds hl →
    (∀ c ∈ hl, ∀ C', g.mg c.1 = some (.ref C') → PySem.W.exmOne g.K (.ref Ca) (.ref C') = some (ms.contains c.1)) → told ms hl = some ret → wMany g.K (fun _ _ _ _ => False) D (hlv g hl) (.ref Ca) none σ H'
  | _, _, .nil, _, h => by cases h
  | _, _, .cons (e := e) (ret := r0) (hl := hl) (C := C) hg hd hme r, hx, h => by
    show ∃ b, PySem.W.exmOne g.K (.ref Ca) ((g.mg e).getD .none) = some b ∧ _
    refine ⟨ms.contains e, by rw [hme]; exact hx _ List.mem_cons_self C hme, fun hb a _ => ?_, fun hb => ?_⟩
    · unfold told at h
      rw [if_pos hb] at h
      cases h
      exact hQ
    · unfold told at h
      rw [if_neg (by rw [hb]; decide)] at h
      exact wm_of hc hQ r (fun c hc => hx c (List.mem_cons_of_mem _ hc)) h
theorem made_tr {P c' : Addr} {nm : Str} (hr : HR g ρ H h) (m : LE.Made P c' nm H H1) (hl : (P, nm) ∈ g.lt) (hT : LamX.TabS H1 P nm) : Tr g.tb ρ H ρ H1 ∧ HR g ρ H1 h := by
  rcases m with e | ⟨ps, ps', hP, hc, e⟩
  · subst e; exact ⟨Tr.refl hr.tabs, hr⟩
  · have ncP : P ≠ c' := fun z => by rw [z, hc] at hP; cases hP
    have atb : ∀ b, b ≠ P → b ≠ c' → H1 b = H b := fun b h1 h2 => by rw [e, upd_ne h2, upd_ne h1]
    have keep : ∀ b o, H b = some o → (∀ ps, o ≠ .tbl ps) → H1 b = some o := fun b o eb n => by
      rw [atb b (fun z => by subst z; rw [hP] at eb; cases eb; exact n ps rfl) (fun z => by subst z; rw [hc] at eb; cases eb)]
      exact eb
    have tabs : _root_.PG.Tabs g.tb H1 := fun P' hP' => by
      obtain ⟨qs, e1, r⟩ := hr.tabs P' hP'
      refine ⟨qs, ?_, r⟩
      rw [atb P' (fun z => hr.lsep.1 _ hl (by rw [← z]; exact hP')) (fun z => by subst z; rw [hc] at e1; cases e1)]
      exact e1
    have tr : Tr g.tb ρ H ρ H1 := by
      refine ⟨List.prefix_refl _, fun b o eb n => keep b o eb fun qs z => ?_, fun b o eb => ?_, fun a ha => by simp at ha, tabs⟩
      · subst z; exact (n rfl).2 qs rfl
      · by_cases z : b = P
        · subst z; exact ⟨.tbl ps', by rw [e, upd_ne ncP, upd_same]⟩
        · exact ⟨o, by rw [atb b z (fun z => by subst z; rw [hc] at eb; cases eb)]; exact eb⟩
    refine ⟨tr, hr.len, hr.inj, fun n a u h1 h2 => (hr.obj n a u h1 h2).tr tr fun hm v ev => ?_, tabs, hr.scr.imp id fun ⟨n, u, e1, z⟩ => ⟨n, u, keep _ _ e1 (fun ps y => by subst y; rcases z with z | ⟨w, z⟩ <;> cases z), z⟩, fun p hp => ?_, hr.lsep⟩
    · obtain ⟨v', e1, _, nt⟩ := (hr.obj n a u h1 h2).there hm
      rw [e1] at ev; cases ev
      exact keep _ _ e1 nt
    · by_cases z : p.1 = P
      · have := hr.lsep.2 _ hl p hp z.symm
        subst this
        exact hT
      · obtain ⟨qs, t1, t2, t3⟩ := hr.ltab p hp
        refine ⟨qs, by rw [atb _ z (fun y => by rw [y, hc] at t1; cases t1)]; exact t1, t2, fun pos cv hcv => ?_⟩
        obtain ⟨c0, e1, e2⟩ := t3 pos cv hcv
        exact ⟨c0, e1, keep _ _ e2 LamX.codeO_ne⟩
theorem Cq.lm {k : Nat} (q : Cq g X l C (k + 2)) {scope : Scope} (L : LE.LamS3 X.N X.env.scope scope) {A : Around} {outer : List Env} {s : Shared} {H0 : Hp} {E : XK} {f c' : Addr} (hr : Room k (A.deeper (LamX.lamEnv X scope s.heap.objs.size f c'))) :
    Cq g (LamX.lamCx X A outer s H0 E scope f c') (l.lm scope) C.inner.inner k ∧ Takes (LamX.lamCx X A outer s H0 E scope f c') (fun cls d _ H => E cls d H) := by
  refine ⟨⟨⟨q.prog, q.w, q.K, q.mg, q.base, q.N, q.nd, rfl, fun x hx => (nomatch hx), rfl, hr, passes_of rfl, fun z => by cases z⟩, by
      show C.lv - 1 - 1 = k
      rw [q.lv]; rfl, fun d hd p hp => ?_, q.ks, q.bn, fun d hd p hp hrs => ?_, q.er, q.lw, fun z => by cases z⟩, takes_of rfl rfl rfl rfl⟩
  · have z := q.cal (d + 1 + 1) (by omega) p hp
    have e : k + 2 - (d + 1 + 1) = k - d := by omega
    rw [e] at z
    exact z
  · have z := q.calX (d + 1 + 1) (by omega) p hp hrs
    have e : k + 2 - (d + 1 + 1) = k - d := by omega
    rw [e] at z
    exact z
/-- x(lambda: body) -/
theorem e_try (q : Cq g X l C j) {x : Str} {hl : List (Str × Str)} {el : Str} (hx : (x, hl, el) ∈ l.lw) (hg : glB l x = true) (hla : l.la = true) {params : Arguments} {bs : List (Str × Int)} {body : Expr} {scope : Scope} {lpos : Pos} {f : Ev} (hp : LE.Pms params bs) (hL : lamB l.N l.sc scope = true) (hloc : ∀ y ∈ bs, scope.names.lookup y.1 = some .local)
    (hb : ∀ (k : Nat) (X' : Cx) (E : XK), j = k + 2 → Cq g X' (l.lm scope) C.inner.inner k → Takes X' (fun cls d _ H => E cls d H) → PE X' body (wpEX g E C.inner.inner f)) :
    PE X (.Call (.Name x p) [.Lambda params body scope lpos] [] pos) (wpE g C (eTry l.er hl el f)) := by
  by_cases hlv : 2 ≤ C.lv
  · have elv : C.lv = j := q.lv
    obtain ⟨k, rfl⟩ : ∃ k, j = k + 2 := ⟨j - 2, by omega⟩
    obtain ⟨c, P, hcode, TB, hlt⟩ := q.lam hla
    obtain ⟨⟨gA, a, pg, h₀, hds, sg, dV, kV, doc, pm, cdv, ct, oc, an, od, osl, Ng, p1, p2, p3, p7, p8, p9, jj, m1, m2, m3, m4, m5, m6, m7, m8, m9, m10, m11, m12, m13⟩, hexm⟩ := q.lw _ hx
    have L : LE.LamS3 X.N X.env.scope scope := by rw [q.N, q.sc]; exact lamB_is hL
    have R := LE.pe_lamtry (X := X) (p := p) (lpos := lpos) (pos := pos) (t := fun E => wpEX g E C.inner.inner f) (q.gl hg) (by rw [q.mg]; exact m1) (by rw [q.K]; exact m2) (by rw [q.K]; exact m3) (by rw [q.K]; exact m4) (by rw [q.K]; exact m5) m6 m7 m8 (fun A outer s H0 E => hds_of q.mg A outer s H0 E m13) m9 TB hcode q.room L hp hloc
      (fun A outer s H0 E f c' hr => let z := q.lm L hr; hb k _ E rfl z.1 z.2) m10 m11 m12
    refine PV.PE.imp R fun σ H Q ⟨ρ, h, env, hr, hv, p⟩ => ⟨hr.ltab _ hlt, fun c' H1 hM hT1 => ?_⟩
    obtain ⟨t01, hr1⟩ := made_tr hr hM hlt hT1
    unfold eTry at p
    rw [if_pos hlv] at p
    cases er : f C.inner.inner env h with
    | bad => rw [er] at p; exact p.elim
    | ok v h' =>
      rw [er] at p
      refine ⟨fun _ _ _ => False, fun _ _ _ _ z => z.elim, ρ, h, env, hr1, hv.mono t01, ?_⟩
      rw [er]
      exact fun v ρ' H' t hr' _ => p (.str el) ρ' H' (t01.trans t) hr' (by rw [Is])
    | err c fs h' =>
      rw [er] at p
      obtain ⟨hf, pa⟩ := Post.chk p
      obtain ⟨ms, e1, pb⟩ := Post.opt pa
      obtain ⟨ret, e2, pc⟩ := Post.opt pb
      have hf : fs = [] := List.isEmpty_iff.mp hf
      subst hf
      refine ⟨fun cls d H' => d = none ∧ ∃ (ρ' : List Addr) (Ca : Addr), cls = .ref Ca ∧ g.mg c = some (.ref Ca) ∧ Tr g.tb ρ H ρ' H' ∧ HR g ρ' H' h', fun cls d σ' H' ⟨ed, ρ', Ca, ec, hc, t', hr'⟩ => ?_, ρ, h, env, hr1, hv.mono t01, ?_⟩
      · subst ed; subst ec
        have hQ : Q (.str ret) H' := pc (.str ret) ρ' H' t' hr' (by rw [Is])
        have w := wm_of (D := { nx := fun _ H' => Q (.str el) H', rt := Q }) (σ := σ') hc hQ m13 (fun c2 hc2 C' hC' => hexm (c, ms) (PySem.mem_of_lookup e1) Ca hc c2 hc2 C' hC') e2
        show wMany X.K _ _ _ _ _ _ _
        rw [q.K]; exact w
      · rw [er]
        exact ⟨rfl, fun ρ' H' Ca t hr' hm => ⟨rfl, ρ', Ca, rfl, hm, t01.trans t, hr'⟩⟩
  · refine ⟨fun pins s σ H Q I ⟨ρ, h, env, hr, hv, p⟩ => ?_⟩
    unfold eTry at p
    rw [if_neg hlv] at p
    exact p.elim
end
end PV
end

section
set_option Elab.async false
set_option linter.all false
set_option maxRecDepth 100000
set_option maxHeartbeats 4000000
/-! V11: comprehensions and generator expressions, by syntax. -/
namespace PV
open PySem PySem.Spec PyProof.Rows L2 GX GxR PG C8
open PySem.W (EachIs)

/-- a comprehension's block -/
def relD (sc scope : Scope) : Scope := { scope with names := scope.names.map fun (n, k) => if (k == .free && sc.kind == .function && sc.names.lookup n == some .cell) then (n, .cell) else (n, k) }
def L.blk (l : L) (scope : Scope) : L := { l with sc := relD l.sc scope, cl := (scope.names.map (·.1)).filter fun x => scope.names.lookup x == some .cell, la := false }
def ownOf (l : L) (scope : Scope) : List (Str × Nat) := scope.names.filterMap fun (n, k) => if k == .local || k == .cell then (l.N.findIdx? (· == n)).map fun i => (n, i) else none
/-- a generator expression's frame -/
def capOf (l : L) (scope : Scope) : List (Str × Nat) := scope.names.filterMap fun (n, k) => if k == .free then (l.N.findIdx? (· == n)).map fun i => (n, i) else none
def L.gn (l : L) (scope : Scope) (x : Str) (cap : List (Str × Nat)) : L := { l with N := x :: cap.map (·.1), sc := scope, gen := false, cl := [], la := false }

section
variable {g : G} {X : Cx} {l : L} {j : Nat} {ρ ρ' ρ1 ρ2 : List Addr} {H H' H1 H2 : Hp} {h h1 h2 : Hs} {C : CF} {σ : L2.St} {env : Env'} {pos p : Pos}
theorem Cq.blk (q : Cq g X l C j) (scope : Scope) (s : Shared) (H : Hp) (c : Addr) (cl : List (Str × Addr)) (fp : List Addr) : Cq g (X.blk s H scope (compEnvC scope cl c X.env) fp) (l.blk scope) C j :=
  ⟨⟨q.prog, q.w, q.K, q.mg, q.base, q.N, q.nd, by
      show relabel scope X.env = relD l.sc scope
      unfold relabel relD Env.kindOf
      rw [q.sc], fun x hx => by
      have := (List.mem_filter.mp hx).2
      exact this, q.calm, q.room, PassesOwn.never, q.code⟩, q.lv, q.cal, q.ks, q.bn, q.calX, q.er, q.lw, fun z => by cases z⟩
theorem Cq.gn {k : Nat} (q : Cq g X l C (k + 1)) {scope : Scope} {x : Str} {cap : List (Str × Nat)} (ok : CapOk X.N X.env.scope scope x cap) (s : Shared) (H : Hp) (c : Addr) (code : Value) (fp : List Addr) : Cq g (gcx X s H x cap scope c code fp) (l.gn scope x cap) C.inner k :=
  ⟨⟨q.prog, q.w, q.K, q.mg, q.base, rfl, ok.nd, rfl, fun x hx => (nomatch hx), q.calm, room_g q.room, PassesOwn.never, fun z => by cases z⟩, by
      show C.lv - 1 = k
      rw [q.lv]; rfl, fun d hd p hp => by
      have := q.cal (d + 1) (Nat.succ_le_succ hd) p hp
      rw [Nat.add_sub_add_right] at this
      exact this, q.ks, q.bn, fun d hd p hp hrs => by
      have := q.calX (d + 1) (Nat.succ_le_succ hd) p hp hrs
      rw [Nat.add_sub_add_right] at this
      exact this, q.er, q.lw, fun z => by cases z⟩
theorem ts_nil : PTs X [] (wpT g C tYesV) := ⟨fun pins s σ H Q I ⟨ρ, h, env, hr, he, p⟩ => pts_nil.run pins s σ H Q I (Post.same p hr rfl)⟩
theorem ts_one {c : Expr} {tt : Tv} (h : PT X c (wpT g C tt)) : PTs X [c] (wpT g C tt) := pts_one h
theorem e_lc (q : Cq g X l C j) {elt tg iter : Expr} {ifs : List Expr} {scope : Scope} {own : List (Str × Nat)} {it : Iv} {t : Tg} {tt : Tv} {f : Ev} (hi : PI X tg iter (wpI g C it)) (ok : blkC l.N l.sc scope own = true) (hsl : ∀ i ∈ t.slots, i ∈ own.map (·.2))
    (hg : ∀ X', Cq g X' (l.blk scope) C j → PG X' tg (wpG g t)) (ht : ∀ X', Cq g X' (l.blk scope) C j → PTs X' ifs (wpT g C tt)) (he : ∀ X', Cq g X' (l.blk scope) C j → PE X' elt (wpE g C f)) (hs : setB iter = false) :
    PE X (.ListComp elt [⟨tg, iter, ifs, 0⟩] scope pos) (wpE g C (eLC it t (own.map (·.2)) tt f)) :=
  PV.PE.imp (pe_lc q.calm (by rw [q.N]; exact q.nd) hi (by rw [q.N, q.sc]; exact blkOk_by ok) (fun s H c cl fp => hg _ (q.blk scope s H c cl fp)) (fun s H c cl fp => ht _ (q.blk scope s H c cl fp)) (fun s H c cl fp => he _ (q.blk scope s H c cl fp)) (folded_ofB hs _)) fun _ _ _ z => lc_imp hsl z
theorem s_setLc (q : Cq g X l C j) {i : Nat} {y : Str} {py spos : Pos} {elt tg iter : Expr} {ifs : List Expr} {scope : Scope} {own : List (Str × Nat)} {it : Iv} {t : Tg} {tt : Tv} {f : Ev} (hy : l.N[i]? = some y) (hyl : l.sc.names.lookup y = some .local)
    (hsw : swapsWith (.ListComp elt [⟨tg, iter, ifs, 0⟩] scope pos) (some (.Name y py)) spos.line X.env = pure true) (hi : PI X tg iter (wpI g C it)) (ok : blkC l.N l.sc scope own = true) (hsl : ∀ i ∈ t.slots, i ∈ own.map (·.2))
    (hg : ∀ X', Cq g X' (l.blk scope) C j → PG X' tg (wpG g t)) (ht : ∀ X', Cq g X' (l.blk scope) C j → PTs X' ifs (wpT g C tt)) (he : ∀ X', Cq g X' (l.blk scope) C j → PE X' elt (wpE g C f)) (hs : setB iter = false) :
    PS X (.Assign [.Name y py] (.ListComp elt [⟨tg, iter, ifs, 0⟩] scope pos) spos) (wpS g C (sAsg (eLC it t (own.map (·.2)) tt f) (tgName i))) := by
  refine PV.PS.imp (ps_setLc q.calm (by rw [q.N]; exact q.nd) (by rw [q.N]; exact hy) (by rw [q.sc]; exact hyl) hsw hi (by rw [q.N, q.sc]; exact blkOk_by ok) (fun s H c cl fp => hg _ (q.blk scope s H c cl fp)) (fun s H c cl fp => ht _ (q.blk scope s H c cl fp)) (fun s H c cl fp => he _ (q.blk scope s H c cl fp)) (folded_ofB hs _)) fun D σ H ⟨ρ, h, env, hr, hv, p⟩ => ?_
  refine lc_imp hsl ⟨ρ, h, env, hr, hv, (PostS.toS (R := Is g) p).mono fun x H1 ⟨ρ1, h1, d, t1, hr1, i1, _, p1⟩ => ?_⟩
  exact p1 _ ρ1 H1 (Tr.refl hr1.tabs) hr1 ((hv.mono t1).set i1 i)
theorem e_lc2 (q : Cq g X l C j) {elt tg iter tg1 iter1 : Expr} {ifs ifs1 : List Expr} {scope : Scope} {own : List (Str × Nat)} {vs1 : List Nat} {it it1 : Iv} {t t1 : Tg} {tt tt1 : Tv} {f : Ev} (hi : PI X tg iter (wpI g C it)) (ok : blkC l.N l.sc scope own = true) (hsl : ∀ i ∈ t.slots, i ∈ own.map (·.2)) (hsl1 : ∀ i ∈ t1.slots, i ∈ vs1) (hv : ∀ i ∈ vs1, i ∈ own.map (·.2))
    (hg : ∀ X', Cq g X' (l.blk scope) C j → PG X' tg (wpG g t)) (ht : ∀ X', Cq g X' (l.blk scope) C j → PTs X' ifs (wpT g C tt)) (hi1 : ∀ X', Cq g X' (l.blk scope) C j → PI X' tg1 iter1 (wpI g C it1)) (hg1 : ∀ X', Cq g X' (l.blk scope) C j → PG X' tg1 (wpG g t1)) (ht1 : ∀ X', Cq g X' (l.blk scope) C j → PTs X' ifs1 (wpT g C tt1))
    (he : ∀ X', Cq g X' (l.blk scope) C j → PE X' elt (wpE g C f)) (hs : setB iter = false) (hs1 : setB iter1 = false) :
    PE X (.ListComp elt [⟨tg, iter, ifs, 0⟩, ⟨tg1, iter1, ifs1, 0⟩] scope pos) (wpE g C (eLC2 it t (own.map (·.2)) tt it1 t1 vs1 tt1 f)) :=
  PV.PE.imp (pe_lc2 q.calm (by rw [q.N]; exact q.nd) hi (by rw [q.N, q.sc]; exact blkOk_by ok) hv (fun s H c cl fp => hg _ (q.blk scope s H c cl fp)) (fun s H c cl fp => ht _ (q.blk scope s H c cl fp)) (fun s H c cl fp => hi1 _ (q.blk scope s H c cl fp)) (fun s H c cl fp => hg1 _ (q.blk scope s H c cl fp)) (fun s H c cl fp => ht1 _ (q.blk scope s H c cl fp)) (fun s H c cl fp => he _ (q.blk scope s H c cl fp)) (folded_ofB hs _) (fun env => folded_ofB hs1 env)) fun _ _ _ z => lc2_imp hsl hsl1 z
end

/-! ### generator expressions -/
def capE (cap : List (Str × Nat)) (env : Env') : Env' := cap.map fun p => getV env p.2
def kG {α : Type} (C : CF) (tt : Tv) (elt : Ev) (take : D → α → Option α) : Env' → Hs → α → Res α := fun e h acc => (tt C e h).bind fun b h1 => if b = true then (elt C e h1).bind fun y h2 => opt (take y acc) fun acc' => .ok acc' h2 else .ok acc h1
def takeI : D → List Int → Option (List Int) := fun y js => (intD y).map fun i => js ++ [i]
def takeD : D → List D → Option (List D) := fun y ds => if decide (ds.length < 100000) = true then some (ds ++ [y]) else none
/-- what is asked of a frame further in -/
def eG {α : Type} (it : Iv) (cap : List (Str × Nat)) (tt : Tv) (elt : Ev) (take : D → α → Option α) (a0 : α) (fin : α → Hs → Res D) : Ev := fun C env h => (it C env h).bind fun src h1 => (loopB src (tgName 0) (none :: capE cap env) (kG C.inner tt elt take) (src.size h1 + 1) 0 h1 a0).bind fin
def eSumG (it : Iv) (cap : List (Str × Nat)) (tt : Tv) (elt : Ev) : Ev := eG it cap tt elt takeI [] fun js h => .ok (.int js.sum) h
def maxFin : List Int → Hs → Res D
  | [], _ => .bad
  | k :: r, h => .ok (.int (best k r)) h
def eMaxG (it : Iv) (cap : List (Str × Nat)) (tt : Tv) (elt : Ev) : Ev := eG it cap tt elt takeI [] maxFin
def eTupG (it : Iv) (cap : List (Str × Nat)) (tt : Tv) (elt : Ev) : Ev := eG it cap tt elt takeD [] fun ds h => .ok (.tup ds) h
/-- all (v false), any (v true) -/
def loopS (v : Bool) (src : Src) (env0 : Env') (C : CF) (tt : Tv) (elt : Ev) : Nat → Nat → Hs → Res D
  | 0, _, _ => .bad
  | n + 1, i, h => match src.get h i with
    | none => .bad
    | some none => .ok (.bl (!v)) h
    | some (some d) => (tt C (some d :: env0) h).bind fun b h1 => if b = true then (elt C (some d :: env0) h1).bind fun y h2 => opt (blD y) fun z => if z = v then .ok (.bl v) h2 else loopS v src env0 C tt elt n (i + 1) h2 else loopS v src env0 C tt elt n (i + 1) h1
def eShort (v : Bool) (it : Iv) (cap : List (Str × Nat)) (tt : Tv) (elt : Ev) : Ev := fun C env h => (it C env h).bind fun src h1 => loopS v src (capE cap env) C.inner tt elt (src.size h1 + 1) 0 h1
section
variable {g : G} {X : Cx} {l : L} {j : Nat} {ρ ρ' ρ1 ρ2 ρc ρb : List Addr} {H H' H1 H2 Hc Hb : Hp} {h h1 h2 : Hs} {C : CF} {σ : L2.St} {env : Env'} {pos p cpos px : Pos} {it : Iv} {cap : List (Str × Nat)} {tt : Tv} {elt : Ev}
theorem wpT.mono {f : Tv} {Q Q' : Bool → Hp → Prop} (w : wpT g C f σ H Q) (i : ∀ b H, Q b H → Q' b H) : wpT g C f σ H Q' := by
  obtain ⟨ρ, h, env, hr, he, p⟩ := w
  exact ⟨ρ, h, env, hr, he, p.mono i⟩
theorem wpE.mono {f : Ev} {Q Q' : VK} (w : wpE g C f σ H Q) (i : ∀ b H, Q b H → Q' b H) : wpE g C f σ H Q' := by
  obtain ⟨ρ, h, env, hr, he, p⟩ := w
  exact ⟨ρ, h, env, hr, he, p.mono i⟩
theorem cap_is (he : EnvR g H ρ env σ) {d : D} {v : V} (i : Is g H ρ d v) : EnvR g H ρ (some d :: capE cap env) (some v :: capV cap σ) := by
  refine ⟨by simp [capE, capV], fun k d' hk => ?_⟩
  cases k with
  | zero => cases hk; exact ⟨v, rfl, i⟩
  | succ k =>
    have hk : (capE cap env)[k]? = some (some d') := hk
    unfold capE at hk
    rw [List.getElem?_map] at hk
    cases e : cap[k]? with
    | none => rw [e] at hk; cases hk
    | some pr =>
      rw [e] at hk
      have hk : getV env pr.2 = some d' := Option.some.inj hk
      obtain ⟨w, hw, iw⟩ := getV_is he hk
      refine ⟨w, ?_, iw⟩
      show (capV cap σ)[k]? = _
      unfold capV
      rw [List.getElem?_map, e]
      show some ((σ[pr.2]?).getD none) = _
      rw [hw]; rfl
theorem genOne {α β γ : Type} {R' : Hp → List Addr → β → γ → Prop} {take : D → α → Option α} {e : Env'} {acc : α} {F : α → Hs → Res β} {Q : γ → Hp → Prop} (hr : HR g ρc Hc h) (he : EnvR g Hc ρc e σ) (p : Post g R' ((kG C tt elt take e h acc).bind F) ρb Hb Q) :
    wpT g C tt σ Hc fun b H3 => if b = true then wpE g C elt σ H3 (fun y H4 => ∃ ρ4 h4 d4 acc', Tr g.tb ρc Hc ρ4 H4 ∧ HR g ρ4 H4 h4 ∧ Is g H4 ρ4 d4 y ∧ take d4 acc = some acc' ∧ Post g R' (F acc' h4) ρb Hb Q)
      else ∃ ρ3 h3, Tr g.tb ρc Hc ρ3 H3 ∧ HR g ρ3 H3 h3 ∧ Post g R' (F acc h3) ρb Hb Q := by
  unfold kG at p
  rw [Res.bind_assoc] at p
  refine ⟨ρc, h, e, hr, he, (Post.bindB (R := fun _ _ (b : Bool) c => c = b) p ρc Hc).mono fun b H3 ⟨ρ3, h3, d3, t3, hr3, i3, p3⟩ => ?_⟩
  subst i3
  cases b with
  | false => exact ⟨ρ3, h3, t3, hr3, p3⟩
  | true =>
    have p3 : Post g R' (((elt C e h3).bind fun y h2 => opt (take y acc) fun acc' => .ok acc' h2).bind F) ρb Hb Q := p3
    rw [Res.bind_assoc] at p3
    refine ⟨ρ3, h3, e, hr3, he.mono t3, (Post.bindB (R := Is g) p3 ρ3 H3).mono fun y H4 ⟨ρ4, h4, d4, t4, hr4, i4, p4⟩ => ?_⟩
    have p4 : Post g R' ((opt (take d4 acc) fun acc' => .ok acc' h4).bind F) ρb Hb Q := p4
    cases et : take d4 acc with
    | none => rw [et] at p4; exact p4.elim
    | some acc' => rw [et] at p4; exact ⟨ρ4, h4, d4, acc', t3.trans t4, hr4, i4, et, p4⟩
/-- the walk, whatever is gathered: Wd the consumer's word for what is gathered -/
theorem gen_step {α : Type} {take : D → α → Option α} {fin : α → Hs → Res D} {s : Src} {J : It} {Q : VK} (sr : SrcR g Hb ρb s J) {m i : Nat} {acc : α} (t : Tr g.tb ρb Hb ρc Hc) (hr : HR g ρc Hc h) (he : EnvR g Hb ρb env σ)
    (p : PostE g ((loopB s (tgName 0) (none :: capE cap env) (kG C tt elt take) (m + 1) i h acc).bind fin) ρb Hb Q) :
    (J.stop i Hc ∧ PostE g (fin acc h) ρb Hb Q) ∨ (J.go i Hc ∧ ∀ v H', J.yld i Hc v H' → wpT g C tt (some v :: capV cap σ) H' fun b H3 => if b = true then wpE g C elt (some v :: capV cap σ) H3 (fun y H4 => ∃ ρ4 h4 d4 acc', Tr g.tb ρc Hc ρ4 H4 ∧ HR g ρ4 H4 h4 ∧ Is g H4 ρ4 d4 y ∧ take d4 acc = some acc' ∧
        PostE g ((loopB s (tgName 0) (none :: capE cap env) (kG C tt elt take) m (i + 1) h4 acc').bind fin) ρb Hb Q)
      else ∃ ρ3 h3, Tr g.tb ρc Hc ρ3 H3 ∧ HR g ρ3 H3 h3 ∧ PostE g ((loopB s (tgName 0) (none :: capE cap env) (kG C tt elt take) m (i + 1) h3 acc).bind fin) ρb Hb Q) := by
  rw [loopB] at p
  split at p
  · exact p.elim
  · rename_i eg
    exact .inl ⟨sr.stop i Hc ρc h t.kp hr eg, p⟩
  · rename_i d eg
    refine .inr ⟨sr.go i Hc ρc h d t.kp hr eg, fun v H' y => ?_⟩
    obtain ⟨y1, y2⟩ := sr.yld i Hc ρc h d v H' t.kp hr eg y
    obtain ⟨ty, hry⟩ := yld_tr hr y1
    have p : PostE g (((kG C tt elt take (some d :: capE cap env) h acc).bind fun acc' h2 => loopB s (tgName 0) (none :: capE cap env) (kG C tt elt take) m (i + 1) h2 acc').bind fin) ρb Hb Q := p
    rw [Res.bind_assoc] at p
    refine (genOne hry (cap_is (he.mono (t.trans ty)) y2) p).mono fun b H3 z => ?_
    cases b with
    | true => exact wpE.mono z fun y H4 ⟨ρ4, h4, d4, acc', t4, hr4, i4, et, p4⟩ => ⟨ρ4, h4, d4, acc', ty.trans t4, hr4, i4, et, p4⟩
    | false => exact let ⟨ρ3, h3, t3, hr3, p3⟩ := z; ⟨ρ3, h3, ty.trans t3, hr3, p3⟩
/-- the walk's beginning -/
theorem gen_begin {P : Addr} (hP : P ∈ g.tb) {r : CF → Env' → Src → Hs → Res D} {Q : VK} {R : It → Hp → Prop} (q : wpE g C (fun C env h => (it C env h).bind (r C env)) σ H Q)
    (k : ∀ J H1, TabG H1 P → (∀ H2, Tabbed P H1 H2 → ∃ ρ2 h2 env s, HR g ρ2 H2 h2 ∧ EnvR g H2 ρ2 env σ ∧ SrcR g H2 ρ2 s J ∧ PostE g (r C env s h2) ρ2 H2 Q) → R J H1) : wpI g C it σ H R := by
  obtain ⟨ρ, h, env, hr, hv, p⟩ := q
  refine ⟨ρ, h, env, hr, hv, (Post.bindBI p ρ H).mono fun J H1 ⟨ρ1, h1, s, t1, hr1, sr, p1⟩ => ?_⟩
  refine k J H1 (hr1.tabs P hP) fun H2 hT => ?_
  have t2 : Tr g.tb ρ1 H1 ρ1 H2 := Tr.tabbed hr1.tabs (hr1.tabs P hP) hT
  refine ⟨ρ1, h1, env, s, hr1.tabbed hP (hr1.tabs P hP) hT, (hv.mono t1).mono t2, ?_, Post.tr (t1.trans t2) p1⟩
  exact ⟨fun i H ρ h d k => sr.go i H ρ h d (t2.kp.trans k), fun i H ρ h d v H' k => sr.yld i H ρ h d v H' (t2.kp.trans k), fun i H ρ h k => sr.stop i H ρ h (t2.kp.trans k)⟩
end
end PV
end

section
set_option Elab.async false
set_option linter.all false
set_option maxRecDepth 100000
set_option maxHeartbeats 4000000
/-! V12: sum, max, tuple, all, any of a generator expression. -/
namespace PV
open PySem PySem.Spec PyProof.Rows L2 GX GxR PG C8
open PySem.W (EachIs)
section
variable {g : G} {X : Cx} {l : L} {j : Nat} {ρ ρ' ρ1 ρ2 ρc ρb : List Addr} {H H' H1 H2 Hc Hb : Hp} {h h1 h2 : Hs} {C : CF} {σ : L2.St} {env : Env'} {pos p cpos px : Pos} {it : Iv} {cap : List (Str × Nat)} {tt : Tv} {elt : Ev} {P : Addr} {Q : VK}
theorem takeI_is {d : D} {v : V} {js ks : List Int} (e : takeI d js = some ks) (i : Is g H ρ d v) : ∃ k, v = .int k ∧ ks = js ++ [k] := by
  unfold takeI at e
  cases q : intD d with
  | none => rw [q] at e; cases e
  | some k => rw [q] at e; cases e; exact ⟨k, intD_is q i, rfl⟩
theorem sumG_imp (hP : P ∈ g.tb) (q : wpE g C (eSumG it cap tt elt) σ H Q) : tSumG P cap (wpI g C it) (wpT g C.inner tt) (wpE g C.inner elt) σ H Q := by
  refine gen_begin (r := fun C env src h1 => (loopB src (tgName 0) (none :: capE cap env) (kG C.inner tt elt takeI) (src.size h1 + 1) 0 h1 []).bind fun js h => .ok (.int js.sum) h) hP q fun J H1 hT k => ⟨hT, fun H2 t => ?_⟩
  obtain ⟨ρ2, h2, env, s, hr2, he, sr, p2⟩ := k H2 t
  refine ⟨fun js i m H => ∃ ρ h, Tr g.tb ρ2 H2 ρ H ∧ HR g ρ H h ∧ PostE g ((loopB s (tgName 0) (none :: capE cap env) (kG C.inner tt elt takeI) m i h js).bind fun js h => .ok (.int js.sum) h) ρ2 H2 Q, ⟨_, ρ2, h2, Tr.refl hr2.tabs, hr2, p2⟩, ?_⟩
  rintro js i m H ⟨ρ, h, tr, hr, p⟩
  cases m with
  | zero => exact p.elim
  | succ m =>
    rcases gen_step sr tr hr he p with ⟨z1, z2⟩ | ⟨z1, z2⟩
    · exact .inl ⟨z1, z2 _ ρ H tr hr (by rw [Is])⟩
    · refine .inr ⟨z1, fun H' => ∃ ρ h, Tr g.tb ρ2 H2 ρ H' ∧ HR g ρ H' h ∧ PostE g ((loopB s (tgName 0) (none :: capE cap env) (kG C.inner tt elt takeI) m (i + 1) h js).bind fun js h => .ok (.int js.sum) h) ρ2 H2 Q,
        fun k H' => ∃ ρ h, Tr g.tb ρ2 H2 ρ H' ∧ HR g ρ H' h ∧ PostE g ((loopB s (tgName 0) (none :: capE cap env) (kG C.inner tt elt takeI) m (i + 1) h (js ++ [k])).bind fun js h => .ok (.int js.sum) h) ρ2 H2 Q,
        fun H' z => ⟨m, Nat.lt_succ_self m, z⟩, fun k H' z => ⟨m, Nat.lt_succ_self m, z⟩, fun v H' y => (z2 v H' y).mono fun b H3 w => ?_⟩
      cases b with
      | true => exact wpE.mono w fun y H4 ⟨ρ4, h4, d4, acc', t4, hr4, i4, et, p4⟩ => let ⟨k, e1, e2⟩ := takeI_is et i4; ⟨k, e1, ρ4, h4, tr.trans t4, hr4, by rw [← e2]; exact p4⟩
      | false => exact let ⟨ρ3, h3, t3, hr3, p3⟩ := w; ⟨ρ3, h3, tr.trans t3, hr3, p3⟩
theorem maxG_imp (hP : P ∈ g.tb) (q : wpE g C (eMaxG it cap tt elt) σ H Q) : tMaxG P cap (wpI g C it) (wpT g C.inner tt) (wpE g C.inner elt) σ H Q := by
  refine gen_begin (r := fun C env src h1 => (loopB src (tgName 0) (none :: capE cap env) (kG C.inner tt elt takeI) (src.size h1 + 1) 0 h1 []).bind maxFin) hP q fun J H1 hT k => ⟨hT, fun H2 t => ?_⟩
  obtain ⟨ρ2, h2, env, s, hr2, he, sr, p2⟩ := k H2 t
  refine ⟨fun js i m H => ∃ ρ h, Tr g.tb ρ2 H2 ρ H ∧ HR g ρ H h ∧ PostE g ((loopB s (tgName 0) (none :: capE cap env) (kG C.inner tt elt takeI) m i h js).bind maxFin) ρ2 H2 Q, ⟨_, ρ2, h2, Tr.refl hr2.tabs, hr2, p2⟩, ?_⟩
  rintro js i m H ⟨ρ, h, tr, hr, p⟩
  cases m with
  | zero => exact p.elim
  | succ m =>
    rcases gen_step sr tr hr he p with ⟨z1, z2⟩ | ⟨z1, z2⟩
    · cases js with
      | nil => exact z2.elim
      | cons k r => exact .inl ⟨z1, k, r, rfl, z2 _ ρ H tr hr (by rw [Is])⟩
    · refine .inr ⟨z1, fun H' => ∃ ρ h, Tr g.tb ρ2 H2 ρ H' ∧ HR g ρ H' h ∧ PostE g ((loopB s (tgName 0) (none :: capE cap env) (kG C.inner tt elt takeI) m (i + 1) h js).bind maxFin) ρ2 H2 Q,
        fun k H' => ∃ ρ h, Tr g.tb ρ2 H2 ρ H' ∧ HR g ρ H' h ∧ PostE g ((loopB s (tgName 0) (none :: capE cap env) (kG C.inner tt elt takeI) m (i + 1) h (js ++ [k])).bind maxFin) ρ2 H2 Q,
        fun H' z => ⟨m, Nat.lt_succ_self m, z⟩, fun k H' z => ⟨m, Nat.lt_succ_self m, z⟩, fun v H' y => (z2 v H' y).mono fun b H3 w => ?_⟩
      cases b with
      | true => exact wpE.mono w fun y H4 ⟨ρ4, h4, d4, acc', t4, hr4, i4, et, p4⟩ => let ⟨k, e1, e2⟩ := takeI_is et i4; ⟨k, e1, ρ4, h4, tr.trans t4, hr4, by rw [← e2]; exact p4⟩
      | false => exact let ⟨ρ3, h3, t3, hr3, p3⟩ := w; ⟨ρ3, h3, tr.trans t3, hr3, p3⟩
theorem takeD_is {d : D} {ds es : List D} (e : takeD d ds = some es) : ds.length < 100000 ∧ es = ds ++ [d] := by
  unfold takeD at e
  split at e
  · rename_i hl; cases e; exact ⟨of_decide_eq_true hl, rfl⟩
  · cases e
theorem tupG_imp (hP : P ∈ g.tb) (q : wpE g C (eTupG it cap tt elt) σ H Q) : tTupG P cap (wpI g C it) (wpT g C.inner tt) (wpE g C.inner elt) σ H Q := by
  refine gen_begin (r := fun C env src h1 => (loopB src (tgName 0) (none :: capE cap env) (kG C.inner tt elt takeD) (src.size h1 + 1) 0 h1 []).bind fun ds h => .ok (.tup ds) h) hP q fun J H1 hT k => ⟨hT, fun H2 t => ?_⟩
  obtain ⟨ρ2, h2, env, s, hr2, he, sr, p2⟩ := k H2 t
  refine ⟨fun ys i m H => ∃ ρ h ds, IsL g H ρ ds ys ∧ ds.length ≤ 100000 ∧ Tr g.tb ρ2 H2 ρ H ∧ HR g ρ H h ∧ PostE g ((loopB s (tgName 0) (none :: capE cap env) (kG C.inner tt elt takeD) m i h ds).bind fun ds h => .ok (.tup ds) h) ρ2 H2 Q, ⟨_, ρ2, h2, [], IsL.nil, Nat.zero_le _, Tr.refl hr2.tabs, hr2, p2⟩, ?_⟩
  rintro ys i m H ⟨ρ, h, ds, iL, hl, tr, hr, p⟩
  cases m with
  | zero => exact p.elim
  | succ m =>
    rcases gen_step sr tr hr he p with ⟨z1, z2⟩ | ⟨z1, z2⟩
    · exact .inl ⟨z1, by rw [← iL.length]; exact line_of hl, fun a ha => (Post.tr tr z2).newT hr iL ha⟩
    · refine .inr ⟨z1, fun H' => ∃ ρ h ds, IsL g H' ρ ds ys ∧ ds.length ≤ 100000 ∧ Tr g.tb ρ2 H2 ρ H' ∧ HR g ρ H' h ∧ PostE g ((loopB s (tgName 0) (none :: capE cap env) (kG C.inner tt elt takeD) m (i + 1) h ds).bind fun ds h => .ok (.tup ds) h) ρ2 H2 Q,
        fun y H' => ys.length < 100000 ∧ ∃ ρ h ds, IsL g H' ρ ds (ys ++ [y]) ∧ ds.length ≤ 100000 ∧ Tr g.tb ρ2 H2 ρ H' ∧ HR g ρ H' h ∧ PostE g ((loopB s (tgName 0) (none :: capE cap env) (kG C.inner tt elt takeD) m (i + 1) h ds).bind fun ds h => .ok (.tup ds) h) ρ2 H2 Q,
        fun H' z => ⟨m, Nat.lt_succ_self m, z⟩, fun y H' z => ⟨line_of (by omega), m, Nat.lt_succ_self m, z.2⟩, fun v H' y => (z2 v H' y).mono fun b H3 w => ?_⟩
      cases b with
      | true =>
        refine wpE.mono w fun y H4 ⟨ρ4, h4, d4, acc', t4, hr4, i4, et, p4⟩ => ?_
        obtain ⟨e1, e2⟩ := takeD_is et
        refine ⟨by rw [← iL.length]; exact e1, ρ4, h4, acc', ?_, ?_, tr.trans t4, hr4, p4⟩
        · rw [e2]; exact (iL.mono t4).append (IsL.cons i4 IsL.nil)
        · rw [e2, List.length_append]; exact e1
      | false => exact let ⟨ρ3, h3, t3, hr3, p3⟩ := w; ⟨ρ3, h3, ds, iL.mono t3, hl, tr.trans t3, hr3, p3⟩
/-- one turn of all or any -/
theorem short_step {v : Bool} {s : Src} {J : It} {m i : Nat} (sr : SrcR g Hb ρb s J) (t : Tr g.tb ρb Hb ρc Hc) (hr : HR g ρc Hc h) (he : EnvR g Hb ρb env σ) (p : PostE g (loopS v s (capE cap env) C tt elt (m + 1) i h) ρb Hb Q) :
    (J.stop i Hc ∧ Q (.bl (!v)) Hc) ∨ (J.go i Hc ∧ ∀ x H', J.yld i Hc x H' → wpT g C tt (some x :: capV cap σ) H' fun b H3 => if b = true then wpE g C elt (some x :: capV cap σ) H3 (fun y H4 => ∃ z, y = .bl z ∧ (z = !v → ∃ ρ4 h4, Tr g.tb ρb Hb ρ4 H4 ∧ HR g ρ4 H4 h4 ∧ PostE g (loopS v s (capE cap env) C tt elt m (i + 1) h4) ρb Hb Q) ∧ (z = v → Q (.bl v) H4))
      else ∃ ρ3 h3, Tr g.tb ρb Hb ρ3 H3 ∧ HR g ρ3 H3 h3 ∧ PostE g (loopS v s (capE cap env) C tt elt m (i + 1) h3) ρb Hb Q) := by
  rw [loopS] at p
  split at p
  · exact p.elim
  · rename_i eg
    exact .inl ⟨sr.stop i Hc ρc h t.kp hr eg, p _ ρc Hc t hr (by rw [Is])⟩
  · rename_i d eg
    refine .inr ⟨sr.go i Hc ρc h d t.kp hr eg, fun x H' y => ?_⟩
    obtain ⟨y1, y2⟩ := sr.yld i Hc ρc h d x H' t.kp hr eg y
    obtain ⟨ty, hry⟩ := yld_tr hr y1
    refine ⟨ρc, h, _, hry, cap_is (he.mono (t.trans ty)) y2, (Post.bindB (R := fun _ _ (b : Bool) c => c = b) p ρc H').mono fun b H3 ⟨ρ3, h3, d3, t3, hr3, i3, p3⟩ => ?_⟩
    subst i3
    cases b with
    | false => exact ⟨ρ3, h3, (t.trans ty).trans t3, hr3, p3⟩
    | true =>
      refine ⟨ρ3, h3, _, hr3, (cap_is (he.mono (t.trans ty)) y2).mono t3, (Post.bindB (R := Is g) p3 ρ3 H3).mono fun y H4 ⟨ρ4, h4, d4, t4, hr4, i4, p4⟩ => ?_⟩
      obtain ⟨z, ez, p5⟩ := Post.opt p4
      have tt4 := ((t.trans ty).trans t3).trans t4
      refine ⟨z, blD_is ez i4, fun e => ?_, fun e => ?_⟩
      · have : z ≠ v := by rw [e]; cases v <;> decide
        rw [if_neg this] at p5
        exact ⟨ρ4, h4, tt4, hr4, p5⟩
      · rw [if_pos e] at p5
        exact p5 _ ρ4 H4 tt4 hr4 (by rw [Is])
theorem allG_imp (hP : P ∈ g.tb) (q : wpE g C (eShort false it cap tt elt) σ H Q) : tAllG P cap (wpI g C it) (wpT g C.inner tt) (wpE g C.inner elt) σ H Q := by
  refine gen_begin (r := fun C env src h1 => loopS false src (capE cap env) C.inner tt elt (src.size h1 + 1) 0 h1) hP q fun J H1 hT k => ⟨hT, fun H2 t => ?_⟩
  obtain ⟨ρ2, h2, env, s, hr2, he, sr, p2⟩ := k H2 t
  refine ⟨fun i m H => ∃ ρ h, Tr g.tb ρ2 H2 ρ H ∧ HR g ρ H h ∧ PostE g (loopS false s (capE cap env) C.inner tt elt m i h) ρ2 H2 Q, ⟨_, ρ2, h2, Tr.refl hr2.tabs, hr2, p2⟩, ?_⟩
  rintro i m H ⟨ρ, h, tr, hr, p⟩
  cases m with
  | zero => exact p.elim
  | succ m =>
    rcases short_step sr tr hr he p with ⟨z1, z2⟩ | ⟨z1, z2⟩
    · exact .inl ⟨z1, z2⟩
    · exact .inr ⟨z1, fun H' => ∃ ρ h, Tr g.tb ρ2 H2 ρ H' ∧ HR g ρ H' h ∧ PostE g (loopS false s (capE cap env) C.inner tt elt m (i + 1) h) ρ2 H2 Q, fun H' z => ⟨m, Nat.lt_succ_self m, z⟩, z2⟩
theorem anyG_imp (hP : P ∈ g.tb) (q : wpE g C (eShort true it cap tt elt) σ H Q) : tAnyG P cap (wpI g C it) (wpT g C.inner tt) (wpE g C.inner elt) σ H Q := by
  refine gen_begin (r := fun C env src h1 => loopS true src (capE cap env) C.inner tt elt (src.size h1 + 1) 0 h1) hP q fun J H1 hT k => ⟨hT, fun H2 t => ?_⟩
  obtain ⟨ρ2, h2, env, s, hr2, he, sr, p2⟩ := k H2 t
  refine ⟨fun i m H => ∃ ρ h, Tr g.tb ρ2 H2 ρ H ∧ HR g ρ H h ∧ PostE g (loopS true s (capE cap env) C.inner tt elt m i h) ρ2 H2 Q, ⟨_, ρ2, h2, Tr.refl hr2.tabs, hr2, p2⟩, ?_⟩
  rintro i m H ⟨ρ, h, tr, hr, p⟩
  cases m with
  | zero => exact p.elim
  | succ m =>
    rcases short_step sr tr hr he p with ⟨z1, z2⟩ | ⟨z1, z2⟩
    · exact .inl ⟨z1, z2⟩
    · exact .inr ⟨z1, fun H' => ∃ ρ h, Tr g.tb ρ2 H2 ρ H' ∧ HR g ρ H' h ∧ PostE g (loopS true s (capE cap env) C.inner tt elt m (i + 1) h) ρ2 H2 Q, fun H' z => ⟨m, Nat.lt_succ_self m, z⟩, z2⟩

/-! ### by syntax -/
variable {k : Nat} {x : Str} {elt' iter : Expr} {ifs : List Expr} {scope : Scope}
theorem genStar {X : Cx} {e : Expr} (h : starB e = false) : starEach [e] X.env = (false, eval e X.env) :: starEach [] X.env := starEach_cons h
def dispB : Expr → Bool
  | .Set _ _ _ => true
  | .List _ _ => true
  | _ => false
theorem genFold_of {iter : Expr} (h : dispB iter = false) (env : Env) : ∀ v, genFold iter env v = pure v := by
  intro v
  cases iter <;> first | rfl | cases h
/-- where a generator expression may stand -/
structure GenOk (g : G) (X : Cx) (l : L) (C : CF) (k : Nat) (x : Str) (px : Pos) (iter : Expr) (ifs : List Expr) (elt' : Expr) (scope : Scope) (cap : List (Str × Nat)) (it : Iv) (tt : Tv) (elt : Ev) : Prop where
  q : Cq g X l C (k + 1)
  gen : l.gen = true
  cok : capB l.N l.sc scope x cap = true
  it : PI X (.Name x px) iter (wpI g C it)
  ts : ∀ X', Cq g X' (l.gn scope x cap) C.inner k → PTs X' ifs (wpT g C.inner tt)
  el : ∀ X', Cq g X' (l.gn scope x cap) C.inner k → PE X' elt' (wpE g C.inner elt)
  set : dispB iter = false
section
variable (G : GenOk g X l C k x px iter ifs elt' scope cap it tt elt)
include G
theorem GenOk.ok : CapOk X.N X.env.scope scope x cap := by rw [G.q.N, G.q.sc]; exact capOk_by G.cok
theorem e_sumG (hg : glB l "sum" = true) : PE X (.Call (.Name "sum" p) [gEx elt' x px iter ifs scope pos] [] cpos) (wpE g C (eSumG it cap tt elt)) := by
  obtain ⟨c, P, hc, TB, hP⟩ := G.q.code G.gen
  exact PV.PE.imp (pe_sumG G.q.room G.q.calm (G.q.gl hg) (G.q.mb rfl) TB hc G.ok G.it (fun s H c code fp => G.ts _ (G.q.gn G.ok s H c code fp)) (fun s H c code fp => G.el _ (G.q.gn G.ok s H c code fp)) (genFold_of G.set _) (genStar rfl)) fun _ _ _ q => sumG_imp hP q
theorem e_maxG (hg : glB l "max" = true) : PE X (.Call (.Name "max" p) [gEx elt' x px iter ifs scope pos] [] cpos) (wpE g C (eMaxG it cap tt elt)) := by
  obtain ⟨c, P, hc, TB, hP⟩ := G.q.code G.gen
  exact PV.PE.imp (pe_maxG G.q.room G.q.calm (G.q.gl hg) (G.q.mb rfl) TB hc G.ok G.it (fun s H c code fp => G.ts _ (G.q.gn G.ok s H c code fp)) (fun s H c code fp => G.el _ (G.q.gn G.ok s H c code fp)) (genFold_of G.set _) (genStar rfl)) fun _ _ _ q => maxG_imp hP q
theorem e_tupG (hg : glB l "tuple" = true) : PE X (.Call (.Name "tuple" p) [gEx elt' x px iter ifs scope pos] [] cpos) (wpE g C (eTupG it cap tt elt)) := by
  obtain ⟨c, P, hc, TB, hP⟩ := G.q.code G.gen
  exact PV.PE.imp (pe_tupG G.q.room G.q.calm (G.q.gl hg) (G.q.mb rfl) TB hc G.ok G.it (fun s H c code fp => G.ts _ (G.q.gn G.ok s H c code fp)) (fun s H c code fp => G.el _ (G.q.gn G.ok s H c code fp)) (genFold_of G.set _) (genStar rfl) rfl) fun _ _ _ q => tupG_imp hP q
theorem e_allG (hg : glB l "all" = true) : PE X (.Call (.Name "all" p) [gEx elt' x px iter ifs scope pos] [] cpos) (wpE g C (eShort false it cap tt elt)) := by
  obtain ⟨c, P, hc, TB, hP⟩ := G.q.code G.gen
  exact PV.PE.imp (pe_allG G.q.room G.q.calm (G.q.gl hg) (G.q.mb rfl) TB hc G.ok G.it (fun s H c code fp => G.ts _ (G.q.gn G.ok s H c code fp)) (fun s H c code fp => G.el _ (G.q.gn G.ok s H c code fp)) (genFold_of G.set _) (genStar rfl)) fun _ _ _ q => allG_imp hP q
theorem e_anyG (hg : glB l "any" = true) : PE X (.Call (.Name "any" p) [gEx elt' x px iter ifs scope pos] [] cpos) (wpE g C (eShort true it cap tt elt)) := by
  obtain ⟨c, P, hc, TB, hP⟩ := G.q.code G.gen
  exact PV.PE.imp (pe_anyG G.q.room G.q.calm (G.q.gl hg) (G.q.mb rfl) TB hc G.ok G.it (fun s H c code fp => G.ts _ (G.q.gn G.ok s H c code fp)) (fun s H c code fp => G.el _ (G.q.gn G.ok s H c code fp)) (genFold_of G.set _) (genStar rfl)) fun _ _ _ q => anyG_imp hP q
end
end
end PV
end

section
set_option Elab.async false
set_option linter.all false
set_option maxRecDepth 100000
set_option maxHeartbeats 4000000
/-! V13: methods of lists, dicts, ints. -/
namespace PV
open PySem PySem.Spec PyProof.Rows L2 GX GxR PG C8
open PySem.W (EachIs)

/-- the list at a reference, and the reference -/
def lstR (d : D) (h : Hs) : Option (Nat × List D) := (refD d).bind fun n => match h[n]? with
  | some (.lst xs) => some (n, xs)
  | _ => none
def dctR (d : D) (h : Hs) : Option (Nat × List (Key × D)) := (refD d).bind fun n => match h[n]? with
  | some (.dct xs) => some (n, xs)
  | _ => none
abbrev Mop := D → List D → Hs → Res D
def one1 {α : Type} (f : D → Res α) : List D → Res α
  | [d] => f d
  | _ => .bad
def none0 {α : Type} (f : Res α) : List D → Res α
  | [] => f
  | _ => .bad
/-- the items of a tuple, of a list of ours -/
def itsD (d : D) (h : Hs) : Option (List D) := match d with
  | .tup xs => some xs
  | d => (lstR d h).map (·.2)
def mAppend : Mop := fun d ds h => opt (lstR d h) fun p => one1 (fun y => chk (decide (p.2.length < 100000)) (.ok .non (h.set p.1 (.lst (p.2 ++ [y]))))) ds
def mExtend : Mop := fun d ds h => opt (lstR d h) fun p => one1 (fun y => opt (itsD y h) fun q => chk (decide (p.2.length + q.length ≤ 100000)) (.ok .non (h.set p.1 (.lst (p.2 ++ q))))) ds
def mPop : Mop := fun d ds h => opt (lstR d h) fun p => match ds with
  | [] => opt (p.2[p.2.length - 1]?) fun y => .ok y (h.set p.1 (.lst p.2.dropLast))
  | [e] => opt (intD e) fun i => chk (decide (i.natAbs.log2 < 63)) (opt (seqIndex? i p.2.length) fun k => opt (p.2[k]?) fun y => .ok y (h.set p.1 (.lst (p.2.eraseIdx k))))
  | _ => .bad
def posI (ns : List Int) (k : Int) : Nat → Option Nat := fun b => match ns with
  | [] => none
  | n :: r => if n = k then some b else posI r k (b + 1)
def mRemove : Mop := fun d ds h => opt (lstR d h) fun p => one1 (fun y => opt (intsOf p.2) fun ns => opt (intD y) fun k => opt (posI ns k 0) fun j => .ok .non (h.set p.1 (.lst ((ns.eraseIdx j).map D.int)))) ds
def posD (ys : List D) (y : D) : Nat → Option Nat := fun b => match ys with
  | [] => none
  | z :: r => if eqD z y = true then some b else posD r y (b + 1)
def mIndex : Mop := fun d ds h => opt (lstD d h) fun ys => one1 (fun y => chk (y.flat && ys.all D.flat) (opt (posD ys y 0) fun j => .ok (.int (j : Nat)) h)) ds
def mCount : Mop := fun d ds h => opt (lstD d h) fun xs => one1 (fun y => opt (intsOf xs) fun ns => opt (intD y) fun k => .ok (.int (ns.count k : Nat)) h) ds
/-- o.m(..) of a list -/
def eMl (f : Mop) (o : Ev) (a : Av) : Ev := fun C env h => (o C env h).bind fun d h1 => chk (lstD d h1).isSome ((a C env h1).bind fun xs h2 => f d xs h2)
def eBits (o : Ev) : Ev := fun C env h => (o C env h).bind fun d h1 => opt (intD d) fun i => .ok (.int (Builtin.Int.intBits i : Nat)) h1
def eGet2 (o a b : Ev) : Ev := fun C env h => (o C env h).bind fun d h1 => chk (dctD d h1).isSome ((a C env h1).bind fun x h2 => (b C env h2).bind fun z h3 => opt (dctD d h3) fun kvs => opt (keyD x) fun k => .ok ((getK kvs k).getD z) h3)
def eSetd (o a b : Ev) : Ev := fun C env h => (o C env h).bind fun d h1 => chk (dctD d h1).isSome ((a C env h1).bind fun x h2 => (b C env h2).bind fun z h3 => opt (dctR d h3) fun p => opt (keyD x) fun k => chk (decide (p.2.length < 100000)) (match getK p.2 k with
  | some v => .ok v h3
  | none => .ok z (h3.set p.1 (.dct (putD p.2 k z)))))

section
variable {g : G} {X : Cx} {l : L} {j : Nat} {ρ ρ' ρ1 ρ2 : List Addr} {H H' H1 H2 : Hp} {h h1 h2 : Hs} {C : CF} {σ : L2.St} {env : Env'} {pos p apos cpos : Pos} {a b c e o : Expr} {fa fb fc fo : Ev} {es : List Expr} {fs : Av} {Q : VK}
theorem lstR_at (hr : HR g ρ H h) {d : D} {v : V} {p : Nat × List D} (i : Is g H ρ d v) (e : lstR d h = some p) : ∃ a vs, v = .ref a ∧ ρ[p.1]? = some a ∧ h[p.1]? = some (.lst p.2) ∧ H a = some (.lst vs) ∧ IsL g H ρ p.2 vs := by
  cases d with
  | ref n =>
    rw [Is] at i
    obtain ⟨a, h1, rfl⟩ := i
    have e : (match h[n]? with | some (.lst xs) => some (n, xs) | _ => none) = some p := e
    split at e
    · rename_i xs q
      cases e
      obtain ⟨vs, y1, y2⟩ := seqL_of hr h1 q
      exact ⟨a, vs, rfl, h1, q, y1, y2⟩
    · cases e
  | _ => cases e
theorem dctR_at (hr : HR g ρ H h) {d : D} {v : V} {p : Nat × List (Key × D)} (i : Is g H ρ d v) (e : dctR d h = some p) : ∃ a vs, v = .ref a ∧ ρ[p.1]? = some a ∧ h[p.1]? = some (.dct p.2) ∧ H a = some (.dK vs) ∧ IsKV g H ρ p.2 vs := by
  cases d with
  | ref n =>
    rw [Is] at i
    obtain ⟨a, h1, rfl⟩ := i
    have e : (match h[n]? with | some (.dct xs) => some (n, xs) | _ => none) = some p := e
    split at e
    · rename_i xs q
      cases e
      obtain ⟨vs, y1, y2⟩ := seq_of hr h1 q
      exact ⟨a, vs, rfl, h1, q, y1, y2⟩
    · cases e
  | _ => cases e
/-- our list is written -/
theorem HR.setL (hr : HR g ρ H h) {n : Nat} {a : Addr} {xs ys : List D} {vs ws : List V} (hn : ρ[n]? = some a) (hu : h[n]? = some (.lst xs)) (hH : H a = some (.lst vs)) (i : IsL g H ρ ys ws) :
    Tr g.tb ρ H ρ (upd H a (.lst ws)) ∧ HR g ρ (upd H a (.lst ws)) (h.set n (.lst ys)) := by
  have t0 : Tr g.tb ρ H ρ (upd H a (.lst ws)) := Tr.set hr.tabs (List.mem_of_getElem? hn) hH rfl (fun _ z => by cases z)
  exact hr.set (o := .lst ws) (u' := .lst ys) hn hu rfl rfl ⟨_, upd_same, i.mono t0⟩
def rM (g : G) (f : Mop) : V → List V → Hp → VK → Prop := fun x xs H Q => ∃ ρ h d ds, HR g ρ H h ∧ Is g H ρ d x ∧ IsL g H ρ ds xs ∧ PostE g (f d ds h) ρ H Q
theorem MtR.imp {id : String} {r r' : V → List V → Hp → VK → Prop} (o : MtR X id r) (i : ∀ x xs H Q, r' x xs H Q → r x xs H Q) : MtR X id r' := fun pins s σ H x xs v us Q I rx rxs q => o pins s σ H x xs v us Q I rx rxs (i x xs H Q q)
theorem Post.one1 {α β : Type} {R : Hp → List Addr → α → β → Prop} {f : D → Res α} {ds : List D} {Q : β → Hp → Prop} (p : Post g R (one1 f ds) ρ H Q) : ∃ d, ds = [d] ∧ Post g R (f d) ρ H Q := by
  match ds, p with
  | [d], p => exact ⟨d, rfl, p⟩
  | [], p => exact p.elim
  | _ :: _ :: _, p => exact p.elim
theorem om_append : MtR X "list.append" (rM g mAppend) := by
  refine PV.MtR.imp (show MtR X "list.append" rAppend from mt_append) fun x xs H Q ⟨ρ, h, d, ds, hr, i1, i2, p⟩ => ?_
  obtain ⟨q, eq, p1⟩ := Post.opt p
  obtain ⟨y, rfl, p2⟩ := Post.one1 p1
  obtain ⟨hl, p3⟩ := Post.chk p2
  obtain ⟨a, vs, rfl, ha, hn, hH, iv⟩ := lstR_at hr i1 eq
  obtain ⟨v, rfl, iy⟩ := isL1 i2
  obtain ⟨t, hr2⟩ := hr.setL ha hn hH (iv.append (IsL.cons iy IsL.nil))
  exact ⟨a, vs, v, rfl, rfl, hH, by rw [← iv.length]; exact line_of (by have := of_decide_eq_true hl; omega), p3 _ ρ _ t hr2 (by rw [Is])⟩
/-- list.extend of a tuple, whatever else the tuple's object has -/
theorem extend_tupleD (l : Addr) (items : Array Value) (n : Nat) (b : Addr) (items2 : Array Value) (n2 : Nat) (dd : Option Addr) (sl : Array (Option Value)) (hs0 : ¬(!items.isEmpty && Builtin.List.listTooLong (items.size + items2.size)) = true) (hs1 : items.size ≤ sizeLine) (hs2 : items.size + items2.size ≤ sizeLine + 1) :
    Meets (Builtin.«list.extend» ⟨[.ref l, .ref b], []⟩) (fun _ R s => s.heap.get? l = some { cls := .type "list", dict := none, data := .seq items n, slots := #[] } ∧ s.heap.get? b = some { cls := .type "tuple", dict := dd, data := .seq items2 n2, slots := sl } ∧ R (.ok (.ret Value.none)) { s with heap := s.heap.update l (Obj.mapSeq fun x => x ++ items2), toks := s.toks }) :=
  .of_wp fun prog w A R s h => by
    obtain ⟨hp, g, d, tk, os⟩ := s; obtain ⟨hl, hb, h⟩ := h; have f1 := PySem.AutoSeq1.idx_int; have f2 := PySem.AutoSeq1.sub_tuple_tuple; have f3 := PySem.AutoSeq1.sub_list_list; have f4 := PySem.AutoSeq1.sub_tuple_list; have f5 := PySem.AutoSeq1.sub_list_tuple;
    have hz' : (items ++ items2).size ≤ sizeLine + 1 := by rw [Array.size_append]; exact hs2
    wp_walk using (wpAny_updateSeq hl rfl (hz := hs1) (_hz' := hz')), PySem.AutoSeq1.wpAny_loadPart' hl, PySem.AutoSeq1.wpAny_loadPart' hb; exact ⟨_, rfl, h⟩
/-- list.extend(tuple) -/
def rExtendT (K : PySem.W.Frag) : V → List V → Hp → VK → Prop := fun x vs H Q => ∃ l b xs zs, x = .ref l ∧ vs = [.ref b] ∧ H l = some (.lst xs) ∧ SqT K H b zs ∧ xs.length + zs.length ≤ sizeLine ∧ Q .non (upd H l (.lst (xs ++ zs)))
theorem mt_extendT : MtM X "list.extend" (rExtendT X.K) := by
  intro pins s σ H x vs v us Q I rx rv h
  obtain ⟨l, b, xs, zs, rfl, rfl, hH, hB, hz, q⟩ := h
  cases rx
  obtain ⟨u, rfl, ru⟩ := rv.one
  cases ru
  obtain ⟨z, its, n, r, hl, e⟩ := I.lstM hH
  obtain ⟨its2, r2, ⟨n2, e2, ex⟩, hl2⟩ := I.tuple hB
  have hl3 := r.length
  have lz := r2.length
  have hsz : its.toArray.size + its2.toArray.size ≤ sizeLine := by rw [List.size_toArray, List.size_toArray]; omega
  have hlong : ¬ (!its.toArray.isEmpty && Builtin.List.listTooLong (its.toArray.size + its2.toArray.size)) = true := by
    rw [notLongL hsz, Bool.and_false]
    exact Bool.false_ne_true
  obtain ⟨c, d, dt, sl⟩ := n2
  simp only at ex
  obtain ⟨ec, m, ed⟩ := ex
  subst ec ed
  refine call_meets F.slot_list_extend ⟨_, e, rfl⟩ F.entry_list_extend (F.args_list_extend_2 _ _)
    (extend_tupleD l its.toArray n b its2.toArray m d sl hlong (by rw [List.size_toArray]; omega) (by omega)) ⟨e, e2, ?_⟩
  refine ⟨.non, _, I.lset (its' := its ++ its2) hH e (by simp) (r.append r2) ?_, rfl, q⟩
  rw [List.length_append]
  omega
theorem om_extend (hK : X.K = g.K) : MtR X "list.extend" (rM g mExtend) := by
  refine PV.MtR.imp (MtR.or (show MtR X "list.extend" rExtend from mt_extend) (show MtR X "list.extend" (rExtendT X.K) from mt_extendT)) fun x xs H Q ⟨ρ, h, d, ds, hr, i1, i2, p⟩ => ?_
  obtain ⟨q, eq, p1⟩ := Post.opt p
  obtain ⟨y, rfl, p2⟩ := Post.one1 p1
  obtain ⟨r, er, p3⟩ := Post.opt p2
  obtain ⟨hl, p4⟩ := Post.chk p3
  obtain ⟨a, vs, rfl, ha, hn, hH, iv⟩ := lstR_at hr i1 eq
  obtain ⟨v, rfl, iy⟩ := isL1 i2
  have lst : ∀ r', lstR y h = some r' → r = r'.2 → rExtend (.ref a) [v] H Q := fun r' e0 e => by
    subst e
    obtain ⟨b, ws, rfl, hb, hm, hB, iw⟩ := lstR_at hr iy e0
    obtain ⟨t, hr2⟩ := hr.setL ha hn hH (iv.append iw)
    exact ⟨a, b, vs, ws, rfl, rfl, hH, hB, by rw [← iv.length, ← iw.length]; exact line_of (of_decide_eq_true hl), p4 _ ρ _ t hr2 (by rw [Is])⟩
  cases y with
  | tup zs =>
    cases er
    rw [Is] at iy
    obtain ⟨b, ws, rfl, y1, iw⟩ := iy
    obtain ⟨t, hr2⟩ := hr.setL ha hn hH (iv.append iw)
    exact .inr ⟨a, b, vs, ws, rfl, rfl, hH, by rw [hK]; exact y1, by rw [← iv.length, ← iw.length]; exact line_of (of_decide_eq_true hl), p4 _ ρ _ t hr2 (by rw [Is])⟩
  | ref n =>
    obtain ⟨r', e1, e2⟩ := Option.map_eq_some_iff.mp er
    exact .inl (lst r' e1 e2.symm)
  | _ => cases er
theorem IsL.dropLast {ds : List D} {vs : List V} (i : IsL g H ρ ds vs) : IsL g H ρ ds.dropLast vs.dropLast := by
  rw [List.dropLast_eq_take, List.dropLast_eq_take, i.length]
  exact i.take _
theorem IsL.eraseIdx {ds : List D} {vs : List V} (i : IsL g H ρ ds vs) (k : Nat) : IsL g H ρ (ds.eraseIdx k) (vs.eraseIdx k) := by
  rw [List.eraseIdx_eq_take_drop_succ, List.eraseIdx_eq_take_drop_succ]
  exact (i.take _).append (i.drop _)
theorem om_pop : MtR X "list.pop" (rM g mPop) := by
  refine PV.MtR.imp (MtR.or (show MtR X "list.pop" rPop from mt_pop) (show MtR X "list.pop" rPopAt from mt_popAt)) fun x xs H Q ⟨ρ, h, d, ds, hr, i1, i2, p⟩ => ?_
  obtain ⟨q, eq, p1⟩ := Post.opt p
  obtain ⟨a, vs, rfl, ha, hn, hH, iv⟩ := lstR_at hr i1 eq
  match ds, i2, p1 with
  | [], i2, p1 =>
    rw [IsL] at i2
    subst i2
    obtain ⟨y, ey, p2⟩ := Post.opt p1
    obtain ⟨v, hv, iy⟩ := iv.get ey
    obtain ⟨t, hr2⟩ := hr.setL ha hn hH iv.dropLast
    exact .inl ⟨a, vs, v, rfl, rfl, hH, by rw [← iv.length]; exact hv, p2 _ ρ _ t hr2 (iy.mono t)⟩
  | [e], i2, p1 =>
    obtain ⟨w, rfl, iw⟩ := isL1 i2
    obtain ⟨i, ei, p2⟩ := Post.opt p1
    obtain ⟨hb, p3⟩ := Post.chk p2
    obtain ⟨k, ek, p4⟩ := Post.opt p3
    obtain ⟨y, ey, p5⟩ := Post.opt p4
    have := intD_is ei iw
    subst this
    rw [decide_eq_true_eq] at hb
    have hb := log2_is hb
    obtain ⟨v, hv, iy⟩ := iv.get ey
    obtain ⟨t, hr2⟩ := hr.setL ha hn hH (iv.eraseIdx k)
    exact .inr ⟨a, vs, i, k, v, rfl, rfl, hH, Int.le_of_lt hb.1, hb.2, by rw [← iv.length]; exact ek, hv, p5 _ ρ _ t hr2 (iy.mono t)⟩
  | _ :: _ :: _, _, p1 => exact p1.elim
theorem posI_is : ∀ {ns : List Int} {k : Int} {b j : Nat}, posI ns k b = some j → b ≤ j ∧ ns[j - b]? = some k ∧ ∀ m, m < j - b → ns[m]? ≠ some k
  | [], k, b, j, e => by rw [posI] at e; cases e
  | n :: r, k, b, j, e => by
    rw [posI] at e
    split at e
    · rename_i q
      cases e
      subst q
      exact ⟨Nat.le_refl _, by simp, fun m hm => by omega⟩
    · rename_i q
      obtain ⟨h1, h2, h3⟩ := posI_is e
      refine ⟨by omega, ?_, fun m hm => ?_⟩
      · rw [show j - b = (j - (b + 1)) + 1 by omega, List.getElem?_cons_succ]; exact h2
      · cases m with
        | zero => simpa using q
        | succ m => rw [List.getElem?_cons_succ]; exact h3 m (by omega)
theorem om_remove : MtR X "list.remove" (rM g mRemove) := by
  refine PV.MtR.imp (show MtR X "list.remove" rRemI from mt_remove) fun x xs H Q ⟨ρ, h, d, ds, hr, i1, i2, p⟩ => ?_
  obtain ⟨q, eq, p1⟩ := Post.opt p
  obtain ⟨y, rfl, p2⟩ := Post.one1 p1
  obtain ⟨ns, en, p3⟩ := Post.opt p2
  obtain ⟨k, ek, p4⟩ := Post.opt p3
  obtain ⟨m, em, p5⟩ := Post.opt p4
  obtain ⟨a, vs, rfl, ha, hn, hH, iv⟩ := lstR_at hr i1 eq
  obtain ⟨v, rfl, iy⟩ := isL1 i2
  have := intD_is ek iy
  subst this
  have e1 := intsOf_eq en
  rw [e1] at iv
  have := iv.ints_eq
  subst this
  obtain ⟨_, h2, h3⟩ := posI_is em
  obtain ⟨t, hr2⟩ := hr.setL ha hn hH (ys := (ns.eraseIdx m).map D.int) (ws := (ns.eraseIdx m).map V.int) IsL.ints
  exact ⟨a, ns, k, m, rfl, rfl, hH, h2, h3, p5 _ ρ _ t hr2 (by rw [Is])⟩
theorem posD_is : ∀ {ys : List D} {y : D} {b j : Nat}, posD ys y b = some j → b ≤ j ∧ (∃ z, ys[j - b]? = some z ∧ eqD z y = true) ∧ ∀ m z, m < j - b → ys[m]? = some z → eqD z y = false
  | [], k, b, j, e => by rw [posD] at e; cases e
  | n :: r, k, b, j, e => by
    rw [posD] at e
    split at e
    · rename_i q
      cases e
      exact ⟨Nat.le_refl _, ⟨n, by simp, q⟩, fun m _ hm => by omega⟩
    · rename_i q
      obtain ⟨h1, ⟨z, h2, h4⟩, h3⟩ := posD_is e
      refine ⟨by omega, ⟨z, ?_, h4⟩, fun m w hm e => ?_⟩
      · rw [show j - b = (j - (b + 1)) + 1 by omega, List.getElem?_cons_succ]; exact h2
      · cases m with
        | zero => cases e; simpa using q
        | succ m => rw [List.getElem?_cons_succ] at e; exact h3 m w (by omega) e
theorem om_count (c : Ct g X l j) : MtR X "list.count" (rM g mCount) := by
  refine PV.MtR.imp (show MtR X "list.count" (rCntI X.K) from mt_lcount) fun x xs H Q ⟨ρ, h, d, ds, hr, i1, i2, p⟩ => ?_
  obtain ⟨q, eq, p1⟩ := Post.opt p
  obtain ⟨y, rfl, p2⟩ := Post.one1 p1
  obtain ⟨ns, en, p3⟩ := Post.opt p2
  obtain ⟨k, ek, p4⟩ := Post.opt p3
  obtain ⟨a, vs, rfl, hS, iv⟩ := lst_at hr i1 eq
  obtain ⟨v, rfl, iy⟩ := isL1 i2
  have := intD_is ek iy
  subst this
  have e1 := intsOf_eq en
  rw [e1] at iv
  have := iv.ints_eq
  subst this
  exact ⟨a, ns, k, rfl, rfl, by rw [c.K]; exact hS, p4.same hr (by rw [Is])⟩
theorem om_index (c : Ct g X l j) : MtR X "list.index" (rM g mIndex) := by
  refine PV.MtR.imp mt_index fun x xs H Q ⟨ρ, h, d, ds, hr, i1, i2, p⟩ => ?_
  obtain ⟨ys, eq, p1⟩ := Post.opt p
  obtain ⟨y, rfl, p2⟩ := Post.one1 p1
  obtain ⟨hf, p3⟩ := Post.chk p2
  obtain ⟨m, em, p4⟩ := Post.opt p3
  obtain ⟨a, vs, rfl, hS, iv⟩ := lst_at hr i1 eq
  obtain ⟨v, rfl, iy⟩ := isL1 i2
  rw [Bool.and_eq_true] at hf
  obtain ⟨_, ⟨z, hz, hzy⟩, hno⟩ := posD_is em
  have fl : ∀ {z : D} {i : Nat}, ys[i]? = some z → z.flat = true := fun e => List.all_eq_true.mp hf.2 _ (List.mem_of_getElem? e)
  obtain ⟨w, hw, iw⟩ := iv.get hz
  refine ⟨a, vs, v, m, w, rfl, rfl, by rw [c.K]; exact hS, flat_is iy hf.1, flats_is iv hf.2, hw, by rw [eqV_is iw iy (fl hz) hf.1]; exact hzy, fun k z' hk ez => ?_, p4.same hr (by rw [Is])⟩
  obtain ⟨d', ed, id'⟩ := iv.get' ez
  rw [eqV_is id' iy (fl ed) hf.1]
  exact hno k d' (by omega) ed
theorem e_ml {name : Str} {id : String} {f : Mop} (c : Ct g X l j) (slot : Slot "list" name id) (hty : typeOf (.builtin id) = pure (.type "method_descriptor")) (hm : MtR X id (rM g f)) (ho : PE X o (wpE g C fo)) (ha : PA X (e :: es) (wpA g C fs))
    (hbase : attributeBase o name X.env (eval o X.env) = eval o X.env) (hs : ((e :: es).any starB) = false) (hfew : (e :: es).length < 30) (hline : (apos.endLine == cpos.line) = true) : PE X (.Call (.Attribute o name apos) (e :: es) [] cpos) (wpE g C (eMl f fo fs)) := by
  have hs' := hs
  rw [List.any_cons, Bool.or_eq_false_iff] at hs'
  have few : ((backTo cpos (starEach (e :: es) X.env)).all (fun x => !x.1) && (backToKw cpos (keywordEach [] X.env)).all (fun x => x.1.isSome)
      && decide ((e :: es).length + ([] : List Keyword).length + (if ([] : List Keyword).isEmpty then 0 else 1) < 30)) = true := by
    have h1 := noStar_back (pos := cpos) (env := X.env) hs
    rw [Bool.and_eq_true, Bool.and_eq_true]
    refine ⟨⟨?_, rfl⟩, by simpa using hfew⟩
    rw [List.all_eq_true]
    rw [List.any_eq_false] at h1
    intro x hx
    have := h1 x hx
    simpa using this
  refine PV.PE.imp (pe_bm PySem.F.plainAttrs_list slot hty hm ho ha hbase few hline (starEach_cons hs'.1) (noStar_back hs'.2)) fun σ H Q ⟨ρ, h, env, hr, he, p⟩ => ⟨ρ, h, env, hr, he, (bE p).mono fun x H1 ⟨ρ1, h1, d, t, hr1, i1, p1⟩ => ?_⟩
  obtain ⟨hl, p2⟩ := Post.chk p1
  cases el : lstD d h1 with
  | none => rw [el] at hl; cases hl
  | some ys =>
    obtain ⟨a, vs, rfl, hS, iv⟩ := lst_at hr1 i1 el
    refine ⟨.inl ⟨rfl, vs, by rw [c.K]; exact hS⟩, ρ1, h1, env, hr1, he.mono t, (bA p2).mono fun xs H2 ⟨ρ2, h2, ds, t2, hr2, i2, p3⟩ => ?_⟩
    exact ⟨ρ2, h2, d, ds, hr2, i1.mono t2, i2, p3⟩
theorem e_ml0 {name : Str} {id : String} {f : Mop} (c : Ct g X l j) (slot : Slot "list" name id) (hty : typeOf (.builtin id) = pure (.type "method_descriptor")) (hm : MtR X id (rM g f)) (ho : PE X o (wpE g C fo))
    (hbase : attributeBase o name X.env (eval o X.env) = eval o X.env) (hline : (apos.endLine == cpos.line) = true) : PE X (.Call (.Attribute o name apos) [] [] cpos) (wpE g C (eMl f fo aNil)) := by
  refine PV.PE.imp (pe_bm0 PySem.F.plainAttrs_list slot hty hm ho hbase hline) fun σ H Q ⟨ρ, h, env, hr, he, p⟩ => ⟨ρ, h, env, hr, he, (bE p).mono fun x H1 ⟨ρ1, h1, d, t, hr1, i1, p1⟩ => ?_⟩
  obtain ⟨hl, p2⟩ := Post.chk p1
  cases el : lstD d h1 with
  | none => rw [el] at hl; cases hl
  | some ys =>
    obtain ⟨a, vs, rfl, hS, iv⟩ := lst_at hr1 i1 el
    exact ⟨.inl ⟨rfl, vs, by rw [c.K]; exact hS⟩, ρ1, h1, d, [], hr1, i1, IsL.nil, p2⟩
theorem e_bits (ho : PE X o (wpE g C fo)) (hbase : attributeBase o "bit_length" X.env (eval o X.env) = eval o X.env) (hline : (apos.endLine == cpos.line) = true) : PE X (.Call (.Attribute o "bit_length" apos) [] [] cpos) (wpE g C (eBits fo)) := by
  refine PV.PE.imp (pe_bits ho hbase hline) fun σ H Q ⟨ρ, h, env, hr, he, p⟩ => ⟨ρ, h, env, hr, he, (bE p).mono fun x H1 ⟨ρ1, h1, d, t, hr1, i1, p1⟩ => ?_⟩
  obtain ⟨i, ei, p2⟩ := Post.opt p1
  exact ⟨i, intD_is ei i1, p2.same hr1 (by rw [Is])⟩
theorem m2_of {name : Str} (hbase : attributeBase o name X.env (eval o X.env) = eval o X.env) (hline : (apos.endLine == cpos.line) = true) (ha : starB a = false) (hb : starB b = false) : M2 X o name apos a b cpos := by
  have e1 : starEach [a, b] X.env = [(false, eval a X.env), (false, eval b X.env)] := by rw [starEach_cons ha, starEach_cons hb]; rfl
  exact ⟨hbase, by rw [e1]; rfl, hline, by rw [e1]; rfl⟩
theorem isD_of (hr : HR g ρ H h) {d : D} {v : V} (i : Is g H ρ d v) (hd : (dctD d h).isSome = true) : ∃ a, v = .ref a ∧ IsD H a := by
  cases e : dctD d h with
  | none => rw [e] at hd; cases hd
  | some kvs =>
    obtain ⟨n, a, vs, rfl, rfl, h1, h2, h3, h4⟩ := dct_at hr i e
    exact ⟨a, rfl, .inl ⟨vs, .inl h3⟩⟩
theorem e_get2 (c : Ct g X l j) (ho : PE X o (wpE g C fo)) (ha : PE X a (wpE g C fa)) (hb : PE X b (wpE g C fb)) (m : M2 X o "get" apos a b cpos) : PE X (.Call (.Attribute o "get" apos) [a, b] [] cpos) (wpE g C (eGet2 fo fa fb)) := by
  refine PV.PE.imp (pe_dget2 c.u1 ho ha hb m) fun σ H Q ⟨ρ, h, env, hr, he, p⟩ => ⟨ρ, h, env, hr, he, (bE p).mono fun x H1 ⟨ρ1, h1, d, t, hr1, i1, p1⟩ => ?_⟩
  obtain ⟨hd, p2⟩ := Post.chk p1
  obtain ⟨q, rfl, hq⟩ := isD_of hr1 i1 hd
  refine ⟨q, rfl, hq, ρ1, h1, env, hr1, he.mono t, (bE p2).mono fun y H2 ⟨ρ2, h2, d2, t2, hr2, i2, p3⟩ => ?_⟩
  refine ⟨ρ2, h2, env, hr2, (he.mono t).mono t2, (bE p3).mono fun z H3 ⟨ρ3, h3, d3, t3, hr3, i3, p4⟩ => ?_⟩
  obtain ⟨kvs, ek, p5⟩ := Post.opt p4
  obtain ⟨k, e2, p6⟩ := Post.opt p5
  obtain ⟨n, a', vs, rfl, e3, y1, y2, y3, y4⟩ := dct_at hr3 ((i1.mono t2).mono t3) ek
  cases e3
  have := key_is e2 (i2.mono t3)
  subst this
  refine ⟨valV vs k, .inl ⟨vs, k, .inl y3, rfl, rfl⟩, ?_⟩
  obtain ⟨g1, g2⟩ := getK_is k y4
  cases e4 : getK kvs k with
  | none =>
    rw [e4] at g2 p6
    cases e5 : valV vs k with
    | none => exact p6.same hr3 i3
    | some w => rw [e5] at g2; cases g2
  | some w =>
    rw [e4] at p6
    obtain ⟨u, hu, iu⟩ := g1 w e4
    rw [hu]
    exact p6.same hr3 iu
theorem e_setd (c : Ct g X l j) (ho : PE X o (wpE g C fo)) (ha : PE X a (wpE g C fa)) (hb : PE X b (wpE g C fb)) (m : M2 X o "setdefault" apos a b cpos) : PE X (.Call (.Attribute o "setdefault" apos) [a, b] [] cpos) (wpE g C (eSetd fo fa fb)) := by
  refine PV.PE.imp (pe_dsetd ho ha hb m) fun σ H Q ⟨ρ, h, env, hr, he, p⟩ => ⟨ρ, h, env, hr, he, (bE p).mono fun x H1 ⟨ρ1, h1, d, t, hr1, i1, p1⟩ => ?_⟩
  obtain ⟨hd, p2⟩ := Post.chk p1
  obtain ⟨q, rfl, hq⟩ := isD_of hr1 i1 hd
  refine ⟨q, rfl, hq, ρ1, h1, env, hr1, he.mono t, (bE p2).mono fun y H2 ⟨ρ2, h2, d2, t2, hr2, i2, p3⟩ => ?_⟩
  refine ⟨ρ2, h2, env, hr2, (he.mono t).mono t2, (bE p3).mono fun z H3 ⟨ρ3, h3, d3, t3, hr3, i3, p4⟩ => ?_⟩
  obtain ⟨kvs, ek, p5⟩ := Post.opt p4
  obtain ⟨k, e2, p6⟩ := Post.opt p5
  obtain ⟨hl, p7⟩ := Post.chk p6
  obtain ⟨a', vs, e3, y1, y2, y3, y4⟩ := dctR_at hr3 ((i1.mono t2).mono t3) ek
  cases e3
  have := key_is e2 (i2.mono t3)
  subst this
  obtain ⟨g1, g2⟩ := getK_is k y4
  have len : kvs.2.length = vs.length := y4.length
  refine ⟨vs, k, y3, rfl, by rw [← len]; exact line_of (by have := of_decide_eq_true hl; omega), fun v hv => ?_, fun hv => ?_⟩
  · cases e4 : getK kvs.2 k with
    | none => rw [e4, hv] at g2; cases g2
    | some w =>
      rw [e4] at p7
      obtain ⟨u, hu, iu⟩ := g1 w e4
      rw [hu] at hv
      cases hv
      exact p7.same hr3 iu
  · cases e4 : getK kvs.2 k with
    | some w => rw [e4, hv] at g2; cases g2
    | none =>
      rw [e4] at p7
      have t0 : Tr g.tb ρ3 H3 ρ3 (upd H3 q (.dK (putK vs k z))) := Tr.set hr3.tabs (List.mem_of_getElem? y1) y3 rfl (fun _ z => by cases z)
      obtain ⟨t4, hr4⟩ := hr3.set (o := .dK (putK vs k z)) (u' := .dct (putD kvs.2 k d3)) y1 y2 rfl rfl ⟨_, upd_same, (put_is i3 k y4).mono t0⟩
      exact p7 _ ρ3 _ t4 hr4 (i3.mono t4)
end
end PV
end

section
set_option Elab.async false
set_option linter.all false
set_option maxRecDepth 100000
set_option maxHeartbeats 4000000
/-! VDs: dict displays with keys ints and texts. -/
namespace PV
open PySem PySem.Spec PyProof.Rows L2 GX GxR PG C8
open PySem.W (EachIs)

/-- a display's pairs, from the left -/
def evPs : List (Ev × Ev) → CF → Env' → Hs → Res (List (Key × D))
  | [], _, _, h => .ok [] h
  | (a, b) :: r, C, env, h => (a C env h).bind fun k h1 => (b C env h1).bind fun v h2 => (evPs r C env h2).bind fun ps h3 => opt (keyD k) fun x => .ok ((x, v) :: ps) h3
def mergeD (kvs more : List (Key × D)) : List (Key × D) := more.foldl (fun acc kv => putD acc kv.1 kv.2) kvs
def eDsp (ps : List (Ev × Ev)) : Ev := fun C env h => (mk (.dct []) h).bind fun d h1 => (evPs ps C env h1).bind fun kvs h2 => match dctR d h2 with
  | some (n, []) => chk (decide (kvs.length ≤ 15)) (.ok d (h2.set n (.dct (mergeD [] kvs))))
  | _ => .bad
section
variable {g : G} {X : Cx} {l : L} {j : Nat} {ρ ρ' ρ1 ρ2 : List Addr} {H H' H1 H2 : Hp} {h h1 h2 : Hs} {C : CF} {σ : L2.St} {env : Env'} {pos : Pos} {Q : VK}
/-- pairs as they lie in the kit's heap -/
def IsPs (g : G) (H : Hp) (ρ : List Addr) (ds : List (Key × D)) (ps : List (V × V)) : Prop := ∃ kvs : List (Key × V), ps = kvs.map (fun kv => (kV kv.1, kv.2)) ∧ IsKV g H ρ ds kvs
theorem merge_is : ∀ {ds : List (Key × D)} {vs : List (Key × V)} {ds0 : List (Key × D)} {vs0 : List (Key × V)}, IsKV g H ρ ds vs → IsKV g H ρ ds0 vs0 → IsKV g H ρ (mergeD ds0 ds) (mergeK vs0 vs)
  | [], vs, ds0, vs0, i, i0 => by rw [IsKV] at i; subst i; exact i0
  | x :: xs, vs, ds0, vs0, i, i0 => by
    rw [IsKV] at i
    obtain ⟨v, r, e, h1, h2⟩ := i
    subst e
    show IsKV g H ρ (mergeD (putD ds0 x.1 x.2) xs) (mergeK (putK vs0 x.1 v) r)
    exact merge_is h2 (put_is h1 x.1 i0)
theorem pairs_ok : ∀ {prs : List (Ev × Ev)} {ρ : List Addr} {H : Hp} {h : Hs} {Q : List (V × V) → Hp → Prop}, HR g ρ H h → EnvR g H ρ env σ → Post g (IsPs g) (evPs prs C env h) ρ H Q → tPairs (prs.map fun p => (wpE g C p.1, wpE g C p.2)) σ H Q
  | [], ρ, H, h, Q, hr, he, p => p [] ρ H (Tr.refl hr.tabs) hr ⟨[], rfl, by rw [IsKV]⟩
  | (a, b) :: r, ρ, H, h, Q, hr, he, p => by
    refine ⟨ρ, h, env, hr, he, (bE p).mono fun x H1 ⟨ρ1, h1, d, t, hr1, i1, p1⟩ => ?_⟩
    refine ⟨ρ1, h1, env, hr1, he.mono t, (bE p1).mono fun y H2 ⟨ρ2, h2, e, t2, hr2, i2, p2⟩ => ?_⟩
    refine pairs_ok hr2 ((he.mono t).mono t2) ((Post.bind (R := IsPs g) p2).mono fun ps H3 ⟨ρ3, h3, ds, t3, hr3, i3, _, p3⟩ => ?_)
    obtain ⟨k, ek, p4⟩ := Post.opt p3
    have := key_is ek ((i1.mono t2).mono t3)
    subst this
    obtain ⟨kvs, rfl, i4⟩ := i3
    exact p4 _ ρ3 H3 (Tr.refl hr3.tabs) hr3 ⟨(k, y) :: kvs, rfl, by rw [IsKV]; exact ⟨y, kvs, rfl, i2.mono t3, i4⟩⟩
theorem e_dsp {keys : List (Option Expr)} {values : List Expr} {prs : List (Ev × Ev)} (hp : PPs X pos keys values (prs.map fun p => (wpE g C p.1, wpE g C p.2))) (hall : keys.all (·.isSome) = true) (hl : keys.length = values.length) (h0 : keys ≠ []) (h15 : keys.length ≤ 15) :
    PE X (.Dict keys values pos) (wpE g C (eDsp prs)) := by
  refine PV.PE.imp (pe_disp hp hall hl h0 h15) fun σ H Q ⟨ρ, h, env, hr, he, p⟩ a ha => ?_
  have t : Tr g.tb ρ H (ρ ++ [a]) (upd H a (.dK [])) := Tr.own hr.tabs ha
  have hr1 : HR g (ρ ++ [a]) (upd H a (.dK [])) (h ++ [.dct []]) := hr.own ha ⟨[], upd_same, by rw [IsKV]⟩
  have ea : (ρ ++ [a])[h.length]? = some a := by rw [← hr.len]; simp
  have p : Post g (Is g) ((evPs prs C env (h ++ [.dct []])).bind fun kvs h2 => match dctR (.ref h.length) h2 with | some (n, []) => chk (decide (kvs.length ≤ 15)) (.ok (.ref h.length) (h2.set n (.dct (mergeD [] kvs)))) | _ => .bad) (ρ ++ [a]) (upd H a (.dK [])) Q := Post.tr t p
  refine pairs_ok hr1 (he.mono t) ((Post.bind (R := IsPs g) p).mono fun ps H2 ⟨ρ2, h2, ds, t2, hr2, i2, _, p2⟩ => ?_)
  obtain ⟨kvs, rfl, i3⟩ := i2
  have ia : Is g H2 ρ2 (.ref h.length) (.ref a) := by
    have : Is g (upd H a (.dK [])) (ρ ++ [a]) (.ref h.length) (.ref a) := by rw [Is]; exact ⟨a, ea, rfl⟩
    exact this.mono t2
  split at p2
  · rename_i n eq
    obtain ⟨hl, p3⟩ := Post.chk p2
    obtain ⟨a', vs, e1, y1, y2, y3, y4⟩ := dctR_at hr2 ia eq
    cases e1
    rw [IsKV] at y4
    subst y4
    refine ⟨y3, kvs, rfl, by rw [← i3.length]; exact of_decide_eq_true hl, ?_⟩
    have t0 : Tr g.tb ρ2 H2 ρ2 (upd H2 a (.dK (mergeK [] kvs))) := Tr.set hr2.tabs (List.mem_of_getElem? y1) y3 rfl (fun _ z => by cases z)
    obtain ⟨t4, hr4⟩ := hr2.set (o := .dK (mergeK [] kvs)) (u' := .dct (mergeD [] ds)) y1 y2 rfl rfl ⟨_, upd_same, (merge_is i3 (by rw [IsKV])).mono t0⟩
    exact p3 _ ρ2 _ t4 hr4 (ia.mono t4)
  · exact p2.elim
def eDsp0 : Ev := fun C env h => mk (.dct []) h
theorem e_dsp0 : PE X (.Dict [] [] pos) (wpE g C eDsp0) := by
  refine PV.PE.imp pe_dnewK fun σ H Q ⟨ρ, h, env, hr, he, p⟩ a ha => ?_
  have t : Tr g.tb ρ H (ρ ++ [a]) (upd H a (.dK [])) := Tr.own hr.tabs ha
  refine p _ (ρ ++ [a]) _ t (hr.own ha ⟨[], upd_same, by rw [IsKV]⟩) ?_
  rw [Is]
  exact ⟨a, by rw [← hr.len]; simp, rfl⟩
end
end PV
end

section
set_option Elab.async false
set_option linter.all false
set_option maxRecDepth 100000
set_option maxHeartbeats 4000000
/-! V14: what an expression computes, by its syntax. -/
namespace PV
open PySem PySem.Spec PyProof.Rows L2 GX GxR PG C8
open PySem.W (EachIs)

structure Dn where
  e : L → Expr → Ev
  t : L → Expr → Tv
  i : L → Expr → Expr → Iv
  s : L → Stmt → Sv
  x : L → Expr → Ev
structure Sd (r : Dn) : Prop where
  e : ∀ {g : G} {X : Cx} {l : L} {C : CF} {j : Nat}, Cq g X l C j → ∀ e, PE X e (wpE g C (r.e l e))
  t : ∀ {g : G} {X : Cx} {l : L} {C : CF} {j : Nat}, Cq g X l C j → ∀ e, PT X e (wpT g C (r.t l e))
  i : ∀ {g : G} {X : Cx} {l : L} {C : CF} {j : Nat}, Cq g X l C j → ∀ tg e, PI X tg e (wpI g C (r.i l tg e))
  s : ∀ {g : G} {X : Cx} {l : L} {C : CF} {j : Nat}, Cq g X l C j → ∀ e, PS X e (wpS g C (r.s l e))
  x : ∀ {g : G} {X : Cx} {l : L} {C : CF} {j : Nat} (E : XK), Cq g X l C j → Takes X (fun cls d _ H => E cls d H) → ∀ e, PE X e (wpEX g E C (r.x l e))

/-! ### names -/
def slot (l : L) (x : Str) : Option Nat := l.N.findIdx? (· == x)
theorem slot_is {l : L} {x : Str} {i : Nat} (h : slot l x = some i) : l.N[i]? = some x := by
  obtain ⟨hi, e, _⟩ := List.findIdx?_eq_some_iff_getElem.mp h
  rw [List.getElem?_eq_getElem hi]
  have := eq_of_beq e
  rw [this]
def visB (l : L) (x : Str) : Bool := l.sc.names.lookup x == some NameKind.local || l.sc.names.lookup x == some NameKind.cell || l.sc.names.lookup x == some NameKind.free
theorem visB_is {l : L} {x : Str} (h : visB l x = true) : Vis l.sc x := by
  unfold visB at h
  simp only [Bool.or_eq_true, beq_iff_eq] at h
  rcases h with (h | h) | h
  · exact .inl h
  · exact .inr (.inl h)
  · exact .inr (.inr h)
def stoB (l : L) (x : Str) : Bool := l.sc.names.lookup x == some NameKind.local || (l.sc.names.lookup x == some NameKind.cell && l.cl.contains x)
theorem stoB_is {l : L} {x : Str} (h : stoB l x = true) : Sto l x := by
  unfold stoB at h
  simp only [Bool.or_eq_true, Bool.and_eq_true, beq_iff_eq] at h
  exact h.imp id fun z => ⟨z.1, List.contains_iff_mem.mp z.2⟩
def oddN (x : Str) : Bool := x == ("__debug__" : Str) || x == ("__classdict__" : Str)
def tyNames : List (Str × String) := [("int", "int"), ("bool", "bool"), ("str", "str"), ("tuple", "tuple"), ("list", "list"), ("dict", "dict")]
def dName (l : L) (x : Str) : Ev :=
  if oddN x then eBad
  else if visB l x then match slot l x with
    | some i => eVar i
    | none => eBad
  else if glB l x then
    match l.df.lookup x with
    | some _ => eCon (.fn x)
    | none => match l.ks.lookup x with
      | some v => eCon (.int v)
      | none => match tyNames.lookup x with
        | some T => eCon (.ty T)
        | none => eBad
  else eBad
section
variable {g : G} {X : Cx} {l : L} {j : Nat} {C : CF} {pos : Pos}
theorem d_name (q : Cq g X l C j) (x : Str) : PE X (.Name x pos) (wpE g C (dName l x)) := by
  unfold dName
  split
  · exact e_bad
  · rename_i ho
    have ho : oddN x = false := by simpa using ho
    unfold oddN at ho
    rw [Bool.or_eq_false_iff] at ho
    split
    · rename_i hv
      split
      · rename_i i hi
        exact e_var q.toCt (slot_is hi) (visB_is hv) ho.1 ho.2
      · exact e_bad
    · split
      · rename_i hg
        split
        · rename_i np hd
          have m := PySem.mem_of_lookup hd
          obtain ⟨f, fd, ps, ds, F, hm, kp, b, dd⟩ := (q.cal 0 (Nat.zero_le _) _ m).ex
          exact e_con (v := .ref f) (pe_glob (q.gl hg) (by rw [q.mg]; exact hm) rfl ho.1) fun H ρ => by rw [Is]; exact ⟨f, hm, rfl⟩
        · split
          · rename_i v hk
            obtain ⟨u, hu, r⟩ := q.ks _ (PySem.mem_of_lookup hk)
            exact e_con (v := .int v) (pe_glob (q.gl hg) (by rw [q.mg]; exact hu) r ho.1) fun H ρ => by rw [Is]
          · split
            · rename_i T hT
              have m := PySem.mem_of_lookup hT
              have facts : bnms.contains x = true ∧ bootBuiltins x = some (.type T) ∧ x ≠ "__name__" := by
                simp only [tyNames, List.mem_cons, List.not_mem_nil, or_false, Prod.mk.injEq] at m
                rcases m with ⟨rfl, rfl⟩ | ⟨rfl, rfl⟩ | ⟨rfl, rfl⟩ | ⟨rfl, rfl⟩ | ⟨rfl, rfl⟩ | ⟨rfl, rfl⟩ <;> exact ⟨by decide, by decide +kernel, by decide⟩
              exact e_con (v := .ty T) (pe_bltn (q.gl hg) (q.mb facts.1) facts.2.1 rfl facts.2.2 ho.1) fun H ρ => by rw [Is]
            · exact e_bad
      · exact e_bad
end

/-! ### operators -/
def dBin : Operator → Option Op2
  | .Add => some gAdd
  | .Sub => some gSub
  | .Mult => some gMul
  | .FloorDiv => some gDiv
  | .Mod => some gMod
  | .Pow => some gPow
  | .LShift => some gShl
  | .RShift => some gShr
  | .BitAnd => some gAnd
  | .BitOr => some gOr
  | .BitXor => some gXor
  | _ => none
def dCmp : CmpOp → Op2
  | .Eq => gEq
  | .NotEq => gNe
  | .Lt => gLt
  | .LtE => gLe
  | .Gt => gGt
  | .GtE => gGe
  | .Is => gIs
  | .IsNot => gIsNot
  | .In => gIn
  | .NotIn => gNotIn
section
variable {g : G} {X : Cx} {l : L} {j : Nat} {C : CF} {pos : Pos}
theorem d_bin (c : Ct g X l j) {op : Operator} {f : Op2} (h : dBin op = some f) : OpR X (binaryOp op) (rD2 g f) := by
  cases op <;> first
    | (cases h; first | exact od_add c | exact od_sub | exact od_mul | exact od_div | exact od_mod | exact od_pow | exact od_shl | exact od_shr | exact od_and | exact od_or | exact od_xor)
    | cases h
theorem d_cmp (c : Ct g X l j) (op : CmpOp) : OpR X (compareOp op) (rD2 g (dCmp op)) := by
  cases op <;> first | exact od_eq c | exact od_ne c | exact od_lt c | exact od_le | exact od_gt | exact od_ge | exact od_is | exact od_isNot | exact od_in c | exact od_notIn c
end

/-! ### lists of expressions -/
def unstar : Expr → Expr
  | .Starred e _ => e
  | e => e
def dA (r : Dn) (l : L) : List Expr → Av
  | [] => aNil
  | e :: es => if starB e then aStar (r.e l (unstar e)) (dA r l es) else aCons (r.e l e) (dA r l es)
def dAndE (r : Dn) (l : L) : List Expr → Ev
  | [] => eBad
  | [e] => r.e l e
  | e :: es => eAnd (r.e l e) (dAndE r l es)
def dOrE (r : Dn) (l : L) : List Expr → Ev
  | [] => eBad
  | [e] => r.e l e
  | e :: es => eOr (r.e l e) (dOrE r l es)
def dAndT (r : Dn) (l : L) : List Expr → Tv
  | [] => tBad
  | [e] => r.t l e
  | e :: es => tAndV (r.t l e) (dAndT r l es)
def dOrT (r : Dn) (l : L) : List Expr → Tv
  | [] => tBad
  | [e] => r.t l e
  | e :: es => tOrV (r.t l e) (dOrT r l es)
def dTs (r : Dn) (l : L) : List Expr → Tv
  | [] => tYesV
  | [e] => r.t l e
  | _ => tBad
section
variable {r : Dn} {g : G} {X : Cx} {l : L} {j : Nat} {C : CF} {pos : Pos}
theorem d_a (S : Sd r) (q : Cq g X l C j) : ∀ es, PA X es (wpA g C (dA r l es))
  | [] => a_nil
  | e :: es => by
    rw [dA]
    by_cases h : starB e = true
    · rw [if_pos h]
      cases e with
      | Starred e p => exact a_star q.toCt (S.e q e) (d_a S q es)
      | _ => cases h
    · have h : starB e = false := by simpa using h
      rw [h]
      exact a_cons h (S.e q e) (d_a S q es)
theorem d_andE (S : Sd r) (q : Cq g X l C j) : ∀ es, PE X (.BoolOp .And es pos) (wpE g C (dAndE r l es))
  | [] => e_bad
  | [e] => pe_one (S.e q e)
  | e :: e' :: es => e_and q.toCt (S.e q e) (d_andE S q (e' :: es))
theorem d_orE (S : Sd r) (q : Cq g X l C j) : ∀ es, PE X (.BoolOp .Or es pos) (wpE g C (dOrE r l es))
  | [] => e_bad
  | [e] => pe_one (S.e q e)
  | e :: e' :: es => e_or q.toCt (S.e q e) (d_orE S q (e' :: es))
theorem w_bad {e : Expr} : PW X e (wpT g C tBad) := ⟨fun _ _ _ _ _ _ _ ⟨_, _, _, _, _, p⟩ => p.elim⟩
theorem d_andT (S : Sd r) (q : Cq g X l C j) : ∀ es, PW X (.BoolOp .And es pos) (wpT g C (dAndT r l es))
  | [] => w_bad
  | [e] => w_and1 (S.t q e)
  | e :: e' :: es => w_and (S.t q e) (d_andT S q (e' :: es))
theorem d_orT (S : Sd r) (q : Cq g X l C j) : ∀ es, PW X (.BoolOp .Or es pos) (wpT g C (dOrT r l es))
  | [] => w_bad
  | [e] => w_or1 (S.t q e)
  | e :: e' :: es => w_or (S.t q e) (d_orT S q (e' :: es))
theorem ts_bad {es : List Expr} : PTs X es (wpT g C tBad) := ⟨fun _ _ _ _ _ _ ⟨_, _, _, _, _, p⟩ => p.elim⟩
theorem d_ts (S : Sd r) (q : Cq g X l C j) : ∀ es, PTs X es (wpT g C (dTs r l es))
  | [] => ts_nil
  | [e] => ts_one (S.t q e)
  | _ :: _ :: _ => ts_bad
end

/-! ### targets -/
def tgBad : Tg := ⟨fun _ _ _ => .bad, []⟩
def dG (l : L) : Nat → Expr → Tg
  | 0, _ => tgBad
  | n + 1, e => match e with
    | .Name x _ => if stoB l x then match slot l x with
        | some i => tgName i
        | none => tgBad
      else tgBad
    | .Tuple es _ _ => if es.any starB then tgBad else tgTup (es.map (dG l n))
    | _ => tgBad
section
variable {r : Dn} {g : G} {X : Cx} {l : L} {j : Nat} {C : CF} {pos : Pos}
theorem g_bad {e : Expr} : PG X e (wpG g tgBad) := ⟨fun _ _ _ _ _ _ _ _ _ ⟨_, _, _, _, _, _, _, p⟩ => p.elim⟩
theorem assignEach_cons {e : Expr} {es : List Expr} {env : Env} (h : starB e = false) : assignEach (e :: es) env = (false, assign e env) :: assignEach es env := by
  cases e <;> first | rfl | cases h
theorem noStar_assign {env : Env} : ∀ {es : List Expr}, (es.any starB) = false → (assignEach es env).findIdx? (·.1) = none
  | [], _ => rfl
  | e :: es, h => by
    rw [List.any_cons, Bool.or_eq_false_iff] at h
    rw [assignEach_cons h.1, List.findIdx?_cons]
    rw [if_neg (by simp), noStar_assign h.2]
    rfl
theorem d_g (c : Ct g X l j) : ∀ n e, PG X e (wpG g (dG l n e))
  | 0, _ => g_bad
  | n + 1, e => by
    have ih := d_g c n
    have gs : ∀ es : List Expr, es.any starB = false → GsOk g X es (es.map (dG l n)) := fun es => by
      induction es with
      | nil => exact fun _ => .nil
      | cons e es ihe =>
        intro h
        rw [List.any_cons, Bool.or_eq_false_iff] at h
        exact .cons (ih e) (by rw [assignEach_cons h.1]; rfl) (ihe h.2)
    cases e with
    | Name x p =>
      show PG X _ (wpG g (if stoB l x then match slot l x with | some i => tgName i | none => tgBad else tgBad))
      split
      · rename_i h
        split
        · rename_i i hi
          exact g_name c (slot_is hi) (stoB_is h)
        · exact g_bad
      · exact g_bad
    | Tuple es k p =>
      show PG X _ (wpG g (if es.any starB then tgBad else tgTup (es.map (dG l n))))
      split
      · exact g_bad
      · rename_i h
        have h : es.any starB = false := by simpa using h
        exact g_tup c (gs es h) (noStar_assign h)
    | _ => exact g_bad
end
end PV
end

section
set_option Elab.async false
set_option linter.all false
set_option maxRecDepth 100000
set_option maxHeartbeats 4000000
/-! V15: ranges, sources, calls, methods, comprehensions by syntax. -/
namespace PV
open PySem PySem.Spec PyProof.Rows L2 GX GxR PG C8
open PySem.W (EachIs)

/-! ### ranges -/
def dR (r : Dn) (l : L) : Expr → Option Rv
  | .Call (.Name x _) [a] [] _ => if x == ("range" : Str) && glB l ("range" : Str) && !starB a then some (rg1 (r.e l a)) else none
  | .Call (.Name x _) [a, b] [] _ => if x == ("range" : Str) && glB l ("range" : Str) && (!starB a && !starB b) then some (rg2 (r.e l a) (r.e l b)) else none
  | _ => none
section
variable {r : Dn} {g : G} {X : Cx} {l : L} {j : Nat} {C : CF} {pos p cpos : Pos} {ρ ρ' ρ1 : List Addr} {H H1 : Hp} {σ : L2.St} {Q : VK}
/-- a range by syntax: as a source, as a value's beginning -/
theorem d_r (S : Sd r) (q : Cq g X l C j) {e : Expr} {f : Rv} (h : dR r l e = some f) : (∀ tg, PI X tg e (wpI g C (iRng f))) ∧ starB e = false ∧ ∃ t, PRg X e t ∧ ∀ σ H Q, wpR g C f σ H Q → t σ H Q := by
  unfold dR at h
  split at h
  · rename_i x p a pos
    split at h
    · rename_i hc
      simp only [Bool.and_eq_true, beq_iff_eq, Bool.not_eq_true'] at hc
      obtain ⟨⟨rfl, hg⟩, hs⟩ := hc
      cases h
      exact ⟨fun tg => i_rng1 (q.gl hg) (q.mb rfl) (S.e q a) (starEach_cons hs), rfl, _, prg_1 (q.gl hg) (q.mb rfl) (S.e q a) (starEach_cons hs), fun _ _ _ z => wpR.rg1 z⟩
    · cases h
  · rename_i x p a b pos
    split at h
    · rename_i hc
      simp only [Bool.and_eq_true, beq_iff_eq, Bool.not_eq_true'] at hc
      obtain ⟨⟨rfl, hg⟩, hs1, hs2⟩ := hc
      cases h
      have e2 : starEach [b] X.env = [(false, eval b X.env)] := starEach_cons hs2
      have e1 : starEach [a, b] X.env = [(false, eval a X.env), (false, eval b X.env)] := by rw [starEach_cons hs1, e2]
      exact ⟨fun tg => i_rng2 (q.gl hg) (q.mb rfl) (S.e q a) (S.e q b) e1 e2, rfl, _, prg_2 (q.gl hg) (q.mb rfl) (S.e q a) (S.e q b) (starEach_cons hs1) (starEach_cons hs2) (by rw [e2]; rfl), fun _ _ _ z => wpR.rg2 z⟩
    · cases h
  · cases h
theorem rgOk2 {p : Int × Int} (h : (rgOk p && decide ((p.2 - p.1).toNat ≤ 100000)) = true) : RgOk p.1 p.2 := by
  rw [Bool.and_eq_true, decide_eq_true_eq] at h
  have := rgOk_is h.1
  exact ⟨this.1, this.2.1, this.2.2.1, this.2.2.2, by omega⟩
theorem d_listR {e : Expr} {f : Rv} (q : Cq g X l C j) (hg : glB l ("list" : Str) = true) (hs : starB e = false) {t} (he : PRg X e t) (ht : ∀ σ H Q, wpR g C f σ H Q → t σ H Q) : PE X (.Call (.Name "list" p) [e] [] pos) (wpE g C (eLstR f)) := by
  refine PV.PE.imp (pe_listRg q.calm (q.gl hg) (q.mb rfl) he (starEach_cons hs)) fun σ H Q ⟨ρ, h, env, hr, hv, pp⟩ => ht _ _ _ ?_
  exact wpR.of hr hv pp fun a b H1 ρ1 h1 t hr1 p1 => by
    obtain ⟨hb, p2⟩ := Post.chk p1
    exact ⟨rgOk2 (p := (a, b)) hb, fun c hc => Post.newL p2 hr1 (rgV_is a b) hc⟩
theorem d_tupR {e : Expr} {f : Rv} (q : Cq g X l C j) (hg : glB l ("tuple" : Str) = true) (hs : starB e = false) {t} (he : PRg X e t) (ht : ∀ σ H Q, wpR g C f σ H Q → t σ H Q) : PE X (.Call (.Name "tuple" p) [e] [] pos) (wpE g C (eTupR f)) := by
  refine PV.PE.imp (pe_tupRg q.calm (q.gl hg) (q.mb rfl) he (starEach_cons hs)) fun σ H Q ⟨ρ, h, env, hr, hv, pp⟩ => ht _ _ _ ?_
  exact wpR.of hr hv pp fun a b H1 ρ1 h1 t hr1 p1 => by
    obtain ⟨hb, p2⟩ := Post.chk p1
    exact ⟨rgOk2 (p := (a, b)) hb, fun c hc => p2.newT hr1 (rgV_is a b) hc⟩
end
/-! ### sources -/
def tupB : Expr → Bool
  | .Tuple _ _ _ => true
  | _ => false
def dI (r : Dn) (l : L) (tg : Expr) (e : Expr) : Iv :=
  match dR r l e with
  | some f => iRng f
  | none => match e with
    | .Call (.Name x _) [e'] [] _ => if x == ("reversed" : Str) && glB l ("reversed" : Str) then match dR r l e' with
        | some f => iRev f
        | none => if starB e' then iVal (r.e l e) else iRevV (r.e l e')
      else if x == ("enumerate" : Str) && glB l ("enumerate" : Str) && tupB tg && !starB e' then iEnm (r.e l e')
      else iVal (r.e l e)
    | .Call (.Name x _) [e1, e2] [] _ => if x == ("zip" : Str) && glB l ("zip" : Str) && tupB tg && (!starB e1 && !starB e2) then iZip (r.e l e1) (r.e l e2) else iVal (r.e l e)
    | e => iVal (r.e l e)
section
variable {r : Dn} {g : G} {X : Cx} {l : L} {j : Nat} {C : CF} {pos p cpos : Pos}
theorem d_i (S : Sd r) (q : Cq g X l C j) (tg e : Expr) : PI X tg e (wpI g C (dI r l tg e)) := by
  unfold dI
  split
  · rename_i f h
    exact (d_r S q h).1 tg
  · split
    · rename_i x p e' pos _
      split
      · rename_i hc
        simp only [Bool.and_eq_true, beq_iff_eq] at hc
        obtain ⟨rfl, hg⟩ := hc
        split
        · rename_i f h
          obtain ⟨_, hs, t, h1, h2⟩ := d_r S q h
          exact i_rev (q.gl hg) (q.mb rfl) h1 h2 (starEach_cons hs)
        · split
          · exact i_val q.toCt (S.e q _)
          · rename_i hs
            exact i_revV q.toCt (q.gl hg) (q.mb rfl) (S.e q e') (starEach_cons (by simpa using hs))
      · split
        · rename_i hc
          simp only [Bool.and_eq_true, beq_iff_eq, Bool.not_eq_true'] at hc
          obtain ⟨⟨⟨rfl, hg⟩, ht⟩, hs⟩ := hc
          cases tg <;> first
            | exact i_enm q.toCt (q.gl hg) (q.mb rfl) (S.e q e') (starEach_cons hs)
            | cases ht
        · exact i_val q.toCt (S.e q _)
    · rename_i x p e1 e2 pos _
      split
      · rename_i hc
        simp only [Bool.and_eq_true, beq_iff_eq, Bool.not_eq_true'] at hc
        obtain ⟨⟨⟨rfl, hg⟩, ht⟩, hs1, hs2⟩ := hc
        cases tg <;> first
          | exact i_zip q.toCt (q.gl hg) (q.mb rfl) (S.e q e1) (S.e q e2) (starEach_cons hs1) (starEach_cons hs2)
          | cases ht
      · exact i_val q.toCt (S.e q _)
    · exact i_val q.toCt (S.e q _)
end
/-! ### comprehensions -/
def subB (xs ys : List Nat) : Bool := xs.all ys.contains
theorem subB_is {xs ys : List Nat} (h : subB xs ys = true) : ∀ i ∈ xs, i ∈ ys := fun i hi => List.contains_iff_mem.mp (List.all_eq_true.mp h i hi)
/-- a comprehension of one clause, of two: the checks -/
def okLC1 (l : L) (scope : Scope) (tg iter : Expr) : Bool := blkC l.N l.sc scope (ownOf l scope) && subB (dG (l.blk scope) 3 tg).slots ((ownOf l scope).map (·.2)) && !setB iter
def dLC (r : Dn) (l : L) (elt : Expr) (scope : Scope) : List Comprehension → Ev
  | [⟨tg, iter, ifs, 0⟩] => if okLC1 l scope tg iter then eLC (r.i l tg iter) (dG (l.blk scope) 3 tg) ((ownOf l scope).map (·.2)) (dTs r (l.blk scope) ifs) (r.e (l.blk scope) elt) else eBad
  | [⟨tg, iter, ifs, 0⟩, ⟨tg1, iter1, ifs1, 0⟩] => if okLC1 l scope tg iter && (subB (dG (l.blk scope) 3 tg1).slots ((ownOf l scope).map (·.2)) && !setB iter1) then
      eLC2 (r.i l tg iter) (dG (l.blk scope) 3 tg) ((ownOf l scope).map (·.2)) (dTs r (l.blk scope) ifs) (r.i (l.blk scope) tg1 iter1) (dG (l.blk scope) 3 tg1) (dG (l.blk scope) 3 tg1).slots (dTs r (l.blk scope) ifs1) (r.e (l.blk scope) elt) else eBad
  | _ => eBad
section
variable {r : Dn} {g : G} {X : Cx} {l : L} {j : Nat} {C : CF} {pos p cpos : Pos}
theorem okLC1_is {scope : Scope} {tg iter : Expr} (h : okLC1 l scope tg iter = true) : blkC l.N l.sc scope (ownOf l scope) = true ∧ (∀ i ∈ (dG (l.blk scope) 3 tg).slots, i ∈ (ownOf l scope).map (·.2)) ∧ setB iter = false := by
  unfold okLC1 at h
  simp only [Bool.and_eq_true, Bool.not_eq_true'] at h
  exact ⟨h.1.1, subB_is h.1.2, h.2⟩
theorem d_lc (S : Sd r) (q : Cq g X l C j) (elt : Expr) (scope : Scope) (gs : List Comprehension) : PE X (.ListComp elt gs scope pos) (wpE g C (dLC r l elt scope gs)) := by
  unfold dLC
  split
  · rename_i tg iter ifs
    split
    · rename_i h
      obtain ⟨h1, h2, h3⟩ := okLC1_is h
      exact e_lc q (S.i q tg iter) h1 h2 (fun X' q' => d_g q'.toCt 3 tg) (fun X' q' => d_ts S q' ifs) (fun X' q' => S.e q' elt) h3
    · exact e_bad
  · rename_i tg iter ifs tg1 iter1 ifs1
    split
    · rename_i h
      rw [Bool.and_eq_true, Bool.and_eq_true, Bool.not_eq_true'] at h
      obtain ⟨h1, h2, h3⟩ := okLC1_is h.1
      exact e_lc2 q (S.i q tg iter) h1 h2 (fun i hi => hi) (subB_is h.2.1) (fun X' q' => d_g q'.toCt 3 tg) (fun X' q' => d_ts S q' ifs) (fun X' q' => S.i q' tg1 iter1) (fun X' q' => d_g q'.toCt 3 tg1) (fun X' q' => d_ts S q' ifs1) (fun X' q' => S.e q' elt) h3 h.2.2
    · exact e_bad
  · exact e_bad
end
/-! ### calls -/
def goF (f : Ev) : Ev := fun C env h => match C.lv with
  | 0 => .bad
  | _ + 1 => f C env h
def genOf (x : Str) (it : Iv) (cap : List (Str × Nat)) (tt : Tv) (el : Ev) : Ev :=
  if x = ("all" : Str) then goF (eShort false it cap tt el)
  else if x = ("any" : Str) then goF (eShort true it cap tt el)
  else if x = ("sum" : Str) then goF (eSumG it cap tt el)
  else if x = ("max" : Str) then goF (eMaxG it cap tt el)
  else if x = ("tuple" : Str) then goF (eTupG it cap tt el)
  else eBad
/-- f(generator expression) -/
def dGen (r : Dn) (l : L) (x : Str) (elt y iter : Expr) (ifs : List Expr) (scope : Scope) : Ev := match y with
  | .Name y py => if l.gen && capB l.N l.sc scope y (capOf l scope) && !dispB iter && glB l x then
      genOf x (r.i l (.Name y py) iter) (capOf l scope) (dTs r (l.gn scope y (capOf l scope)) ifs) (r.e (l.gn scope y (capOf l scope)) elt)
    else eBad
  | _ => eBad
def bop (x : Str) : Option OpN :=
  if x = ("len" : Str) then some oLen
  else if x = ("sum" : Str) then some oSum
  else if x = ("abs" : Str) then some oAbs
  else if x = ("divmod" : Str) then some oDivmod
  else if x = ("isinstance" : Str) then some oIsi
  else if x = ("sorted" : Str) then some oSorted
  else if x = ("min" : Str) then some oMin
  else if x = ("max" : Str) then some oMax
  else if x = ("list" : Str) then some oList
  else if x = ("tuple" : Str) then some oTuple
  else if x = ("int" : Str) then some oInt
  else none
def nm1 (args : List Expr) : Option Expr := match args with
  | [e] => some e
  | _ => none
/-- a call of a def of the text -/
def eCall (x : Str) (np : Nat) (a : Av) : Ev := fun C env h => (a C env h).bind fun xs h1 => chk (decide (xs.length = np)) (C.fn 0 x xs h1)
/-- f(lambda: e), f(lambda a=0: e) -/
def dLam (r : Dn) (l : L) (x : Str) (args : List Expr) : Option Ev := match args with
  | [.Lambda params body scope _] => match l.lw.lookup x with
    | some hl => if glB l x && l.la && lamB l.N l.sc scope then match params with
        | ⟨[], [], none, [], [], none, []⟩ => some (eTry l.er hl.1 hl.2 (r.x (l.lm scope) body))
        | ⟨[], [⟨y, _, _⟩], none, [], [], none, [.Constant (.int _) _ _]⟩ => if (y = ("a" : Str) ∨ y = ("b" : Str)) ∧ scope.names.lookup y = some .local then some (eTry l.er hl.1 hl.2 (r.x (l.lm scope) body)) else none
        | _ => none
      else none
    | none => none
  | _ => none
def dCall (r : Dn) (l : L) (x : Str) (args : List Expr) : Ev := match dLam r l x args with
  | some f => f
  | none =>
  if !glB l x || args.any starB || args.isEmpty || oddN x then eBad
  else match l.df.lookup x with
    | some np => if args.length == np then eCall x np (dA r l args) else eBad
    | none => match (nm1 args).bind (dR r l) with
      | some f => if x = ("list" : Str) then eLstR f else if x = ("tuple" : Str) then eTupR f else eBad
      | none => match args with
        | [.GeneratorExp elt [⟨y, iter, ifs, 0⟩] scope _] => dGen r l x elt y iter ifs scope
        | args => match bop x with
          | some f => eArgs f (dA r l args)
          | none => eBad
section
variable {r : Dn} {g : G} {X : Cx} {l : L} {j : Nat} {C : CF} {pos p cpos : Pos}
theorem go_of {e : Expr} {f : Ev} (q : Cq g X l C j) (h : ∀ k, j = k + 1 → PE X e (wpE g C f)) : PE X e (wpE g C (goF f)) := by
  have lv : C.lv = j := q.lv
  cases j with
  | zero =>
    refine ⟨fun pins s σ H Q I ⟨ρ, h, env, hr, he, p⟩ => ?_⟩
    have e0 : goF f C env h = .bad := by unfold goF; rw [lv]
    rw [e0] at p
    exact p.elim
  | succ k =>
    refine PV.PE.imp (h k rfl) fun σ H Q ⟨ρ, h, env, hr, he, p⟩ => ⟨ρ, h, env, hr, he, ?_⟩
    have e0 : goF f C env h = f C env h := by unfold goF; rw [lv]
    rw [e0] at p
    exact p
theorem d_gen (S : Sd r) (q : Cq g X l C j) (x : Str) (elt y iter : Expr) (ifs : List Expr) (scope : Scope) {gpos : Pos} : PE X (.Call (.Name x p) [.GeneratorExp elt [⟨y, iter, ifs, 0⟩] scope gpos] [] pos) (wpE g C (dGen r l x elt y iter ifs scope)) := by
  unfold dGen
  split
  · rename_i y py
    split
    · rename_i hc
      simp only [Bool.and_eq_true, Bool.not_eq_true'] at hc
      obtain ⟨⟨⟨h1, h2⟩, h3⟩, h4⟩ := hc
      have G : ∀ k, j = k + 1 → GenOk g X l C k y py iter ifs elt scope (capOf l scope) (r.i l (.Name y py) iter) (dTs r (l.gn scope y (capOf l scope)) ifs) (r.e (l.gn scope y (capOf l scope)) elt) := fun k e => by
        subst e
        exact ⟨q, h1, h2, S.i q _ _, fun X' q' => d_ts S q' ifs, fun X' q' => S.e q' elt, h3⟩
      unfold genOf
      split
      · rename_i e; subst e
        exact go_of q fun k e => e_allG (G k e) h4
      split
      · rename_i e; subst e
        exact go_of q fun k e => e_anyG (G k e) h4
      split
      · rename_i e; subst e
        exact go_of q fun k e => e_sumG (G k e) h4
      split
      · rename_i e; subst e
        exact go_of q fun k e => e_maxG (G k e) h4
      split
      · rename_i e; subst e
        exact go_of q fun k e => e_tupG (G k e) h4
      · exact e_bad
    · exact e_bad
  · exact e_bad
theorem bop_is (c : Ct g X l j) {x : Str} {f : OpN} (h : bop x = some f) : bnms.contains x = true ∧ x ≠ "__name__" ∧ ((∃ id, bootBuiltins x = some (.builtin id) ∧ CallR X (.builtin id) (rDN g f)) ∨ ∃ T, bootBuiltins x = some (.type T) ∧ CallR X (.type T) (rDN g f)) := by
  unfold bop at h
  split at h
  · rename_i e; subst e; cases h; exact ⟨by decide, by decide, .inl ⟨_, by decide +kernel, oc_len c⟩⟩
  split at h
  · rename_i e; subst e; cases h; exact ⟨by decide, by decide, .inl ⟨_, by decide +kernel, oc_sum c⟩⟩
  split at h
  · rename_i e; subst e; cases h; exact ⟨by decide, by decide, .inl ⟨_, by decide +kernel, oc_abs⟩⟩
  split at h
  · rename_i e; subst e; cases h; exact ⟨by decide, by decide, .inl ⟨_, by decide +kernel, oc_divmod⟩⟩
  split at h
  · rename_i e; subst e; cases h; exact ⟨by decide, by decide, .inl ⟨_, by decide +kernel, oc_isi c⟩⟩
  split at h
  · rename_i e; subst e; cases h; exact ⟨by decide, by decide, .inl ⟨_, by decide +kernel, oc_sorted c⟩⟩
  split at h
  · rename_i e; subst e; cases h; exact ⟨by decide, by decide, .inl ⟨_, by decide +kernel, oc_min c⟩⟩
  split at h
  · rename_i e; subst e; cases h; exact ⟨by decide, by decide, .inl ⟨_, by decide +kernel, oc_max c⟩⟩
  split at h
  · rename_i e; subst e; cases h; exact ⟨by decide, by decide, .inr ⟨_, by decide +kernel, oc_list c⟩⟩
  split at h
  · rename_i e; subst e; cases h; exact ⟨by decide, by decide, .inr ⟨_, by decide +kernel, oc_tuple c⟩⟩
  split at h
  · rename_i e; subst e; cases h; exact ⟨by decide, by decide, .inr ⟨_, by decide +kernel, oc_int⟩⟩
  · cases h
theorem d_lam (S : Sd r) (q : Cq g X l C j) {x : Str} {args : List Expr} {f : Ev} (h : dLam r l x args = some f) : PE X (.Call (.Name x p) args [] pos) (wpE g C f) := by
  unfold dLam at h
  split at h
  · rename_i params body scope lpos
    split at h
    · rename_i hl hlw
      split at h
      · rename_i hc
        simp only [Bool.and_eq_true] at hc
        obtain ⟨⟨h1, h2⟩, h3⟩ := hc
        have hb : ∀ (k : Nat) (X' : Cx) (E : XK), j = k + 2 → Cq g X' (l.lm scope) C.inner.inner k → Takes X' (fun cls d _ H => E cls d H) → PE X' body (wpEX g E C.inner.inner (r.x (l.lm scope) body)) := fun k X' E _ q' tk => S.x E q' tk body
        split at h
        · cases h
          exact e_try q (PySem.mem_of_lookup hlw) h1 h2 .none h3 (fun y hy => nomatch hy) hb
        · split at h
          · rename_i hy
            cases h
            obtain ⟨rfl | rfl, hy⟩ := hy
            · exact e_try q (PySem.mem_of_lookup hlw) h1 h2 (.one _ _ _ _ _) h3 (fun y hm => by rw [List.mem_singleton.mp hm]; exact hy) hb
            · exact e_try q (PySem.mem_of_lookup hlw) h1 h2 (.oneB _ _ _ _ _) h3 (fun y hm => by rw [List.mem_singleton.mp hm]; exact hy) hb
          · cases h
        · cases h
      · cases h
    · cases h
  · cases h
theorem d_call (S : Sd r) (q : Cq g X l C j) (x : Str) (args : List Expr) : PE X (.Call (.Name x p) args [] pos) (wpE g C (dCall r l x args)) := by
  unfold dCall
  split
  · rename_i f hf
    exact d_lam S q hf
  split
  · exact e_bad
  · rename_i hc
    simp only [Bool.or_eq_true, Bool.not_eq_true', not_or] at hc
    obtain ⟨⟨⟨h1, h2⟩, h3⟩, h4⟩ := hc
    have h1 : glB l x = true := by simpa using h1
    have h2 : args.any starB = false := by simpa using h2
    have h4 : (x == ("__debug__" : Str)) = false := by
      unfold oddN at h4
      simp only [Bool.or_eq_true, not_or] at h4
      simpa using h4.1
    cases args with
    | nil => simp at h3
    | cons e es =>
      split
      · rename_i np hd
        split
        · rename_i hn
          exact e_callO q (PySem.mem_of_lookup hd) (q.gl h1) (d_a S q _) h4 h2 (by simpa using hn)
        · exact e_bad
      · split
        · rename_i f hf
          have hs : es = [] := by
            cases es with
            | nil => rfl
            | cons _ _ => cases hf
          subst hs
          obtain ⟨_, hs, t, k1, k2⟩ := d_r S q (show dR r l e = some f from hf)
          split
          · rename_i e; subst e; exact d_listR q h1 hs k1 k2
          · split
            · rename_i e; subst e; exact d_tupR q h1 hs k1 k2
            · exact e_bad
        · split
          · rename_i elt y iter ifs scope gpos heq
            cases heq
            exact d_gen S q x elt y iter ifs scope
          · split
            · rename_i f hf
              obtain ⟨b1, b2, b3⟩ := bop_is q.toCt hf
              rcases b3 with ⟨id, b3, b4⟩ | ⟨T, b3, b4⟩
              · exact e_callB b4 (q.gl h1) (q.mb b1) b3 (d_a S q _) b2 h4 h2
              · exact e_callTy b4 (q.gl h1) (q.mb b1) b3 (d_a S q _) b2 h4 h2
            · exact e_bad
end
/-! ### methods -/
def callB : Expr → Bool
  | .Call _ _ _ _ => true
  | _ => false
/-- name(): it might be super() -/
def supB : Expr → Bool
  | .Call (.Name _ _) [] [] _ => true
  | _ => false
def lop (m : Str) : Option Mop :=
  if m = ("append" : Str) then some mAppend
  else if m = ("extend" : Str) then some mExtend
  else if m = ("pop" : Str) then some mPop
  else if m = ("remove" : Str) then some mRemove
  else if m = ("index" : Str) then some mIndex
  else if m = ("count" : Str) then some mCount
  else none
def dMeth (r : Dn) (l : L) (o : Expr) (m : Str) (args : List Expr) (apos cpos : Pos) : Ev :=
  if !(apos.endLine == cpos.line) || supB o || args.any starB || decide (30 ≤ args.length) then eBad
  else match args with
    | [] => if m = ("bit_length" : Str) then eBits (r.e l o) else if m = ("pop" : Str) then eMl mPop (r.e l o) aNil else eBad
    | e :: es => match lop m with
      | some f => eMl f (r.e l o) (dA r l (e :: es))
      | none => match es with
        | [b] => if m = ("get" : Str) then eGet2 (r.e l o) (r.e l e) (r.e l b) else if m = ("setdefault" : Str) then eSetd (r.e l o) (r.e l e) (r.e l b) else eBad
        | _ => eBad
section
variable {r : Dn} {g : G} {X : Cx} {l : L} {j : Nat} {C : CF} {pos p apos cpos : Pos}
theorem base_of {o : Expr} (h : supB o = false) (m : Str) (env : Env) : attributeBase o m env (eval o env) = eval o env := by
  unfold attributeBase
  split
  · cases h
  · rfl
theorem lop_is (c : Ct g X l j) {m : Str} {f : Mop} (h : lop m = some f) : ∃ id, Slot "list" m id ∧ typeOf (.builtin id) = pure (.type "method_descriptor") ∧ MtR X id (rM g f) := by
  unfold lop at h
  split at h
  · rename_i e; subst e; cases h; exact ⟨_, PySem.F.slot_list_append, PySem.F.type_list_append, om_append⟩
  split at h
  · rename_i e; subst e; cases h; exact ⟨_, PySem.F.slot_list_extend, PySem.F.type_list_extend, om_extend c.K⟩
  split at h
  · rename_i e; subst e; cases h; exact ⟨_, PySem.F.slot_list_pop, PySem.F.type_list_pop, om_pop⟩
  split at h
  · rename_i e; subst e; cases h; exact ⟨_, PySem.F.slot_list_remove, PySem.F.type_list_remove, om_remove⟩
  split at h
  · rename_i e; subst e; cases h; exact ⟨_, PySem.F.slot_list_index, PySem.F.type_list_index, om_index c⟩
  split at h
  · rename_i e; subst e; cases h; exact ⟨_, PySem.F.slot_list_count, PySem.F.type_list_count, om_count c⟩
  · cases h
theorem d_meth (S : Sd r) (q : Cq g X l C j) (o : Expr) (m : Str) (args : List Expr) : PE X (.Call (.Attribute o m apos) args [] cpos) (wpE g C (dMeth r l o m args apos cpos)) := by
  unfold dMeth
  split
  · exact e_bad
  · rename_i hc
    simp only [Bool.or_eq_true, Bool.not_eq_true', not_or, decide_eq_true_eq] at hc
    obtain ⟨⟨⟨h1, h2⟩, h3⟩, h4⟩ := hc
    have h1 : (apos.endLine == cpos.line) = true := by simpa using h1
    have h2 : supB o = false := by simpa using h2
    have h3 : args.any starB = false := by simpa using h3
    split
    · split
      · rename_i e; subst e; exact e_bits (S.e q o) (base_of h2 _ _) h1
      · split
        · rename_i e; subst e; exact e_ml0 q.toCt PySem.F.slot_list_pop PySem.F.type_list_pop om_pop (S.e q o) (base_of h2 _ _) h1
        · exact e_bad
    · rename_i e es
      split
      · rename_i f hf
        obtain ⟨id, k1, k2, k3⟩ := lop_is q.toCt hf
        exact e_ml q.toCt k1 k2 k3 (S.e q o) (d_a S q _) (base_of h2 _ _) h3 (by omega) h1
      · split
        · rename_i b
          simp only [List.any_cons, List.any_nil, Bool.or_false, Bool.or_eq_false_iff] at h3
          split
          · rename_i e; subst e; exact e_get2 q.toCt (S.e q o) (S.e q _) (S.e q b) (m2_of (base_of h2 _ _) h1 h3.1 h3.2)
          · split
            · rename_i e; subst e; exact e_setd q.toCt (S.e q o) (S.e q _) (S.e q b) (m2_of (base_of h2 _ _) h1 h3.1 h3.2)
            · exact e_bad
        · exact e_bad
end
end PV
end

section
set_option Elab.async false
set_option linter.all false
set_option maxRecDepth 100000
set_option maxHeartbeats 4000000
/-! V16: the whole: expressions, tests, statements. -/
namespace PV
open PySem PySem.Spec PyProof.Rows L2 GX GxR PG C8
open PySem.W (EachIs)

def dConst : Const → Ev
  | .int i => eCon (.int i)
  | .bool b => eCon (.bl b)
  | .none => eCon .non
  | .str s => eCon (.str s)
  | _ => eBad
def dSub (r : Dn) (l : L) (o : Expr) : Expr → Ev
  | .Slice none none none _ => eSlc (r.e l o) none none
  | .Slice (some a) none none _ => eSlc (r.e l o) (some (r.e l a)) none
  | .Slice none (some b) none _ => eSlc (r.e l o) none (some (r.e l b))
  | .Slice (some a) (some b) none _ => eSlc (r.e l o) (some (r.e l a)) (some (r.e l b))
  | .Slice a b (some c) _ => match stepI c with
    | some k => eSlS k (r.e l o) (a.map (r.e l)) (b.map (r.e l))
    | none => eBad
  | i => eBin gIx (r.e l o) (r.e l i)
def dCmpE (r : Dn) (l : L) (a : Expr) (ops : List CmpOp) (es : List Expr) : Ev := match ops, es with
  | [op], [b] => if behindInMarks op b then eBad else eBin (dCmp op) (r.e l a) (r.e l b)
  | [op, op'], [b, c] => if behindInMarks op' c then eBad else eChain (dCmp op) (dCmp op') (r.e l a) (r.e l b) (r.e l c)
  | _, _ => eBad
/-- a display's pairs -/
def dPs (r : Dn) (l : L) : List (Option Expr) → List Expr → Option (List (Ev × Ev))
  | [], [] => some []
  | some k :: ks, v :: vs => (dPs r l ks vs).map fun ps => (r.e l k, r.e l v) :: ps
  | _, _ => none
def dDct (r : Dn) (l : L) (ks : List (Option Expr)) (vs : List Expr) : Ev := match ks with
  | [] => match vs with
    | [] => eDsp0
    | _ :: _ => eBad
  | _ :: _ => match dPs r l ks vs with
    | some ps => if ks.length ≤ 15 then eDsp ps else eBad
    | none => eBad
def stepE (r : Dn) (l : L) : Expr → Ev
  | .Constant c _ _ => dConst c
  | .Name x _ => dName l x
  | .BinOp a op b _ => match dBin op with
    | some f => eBin f (r.e l a) (r.e l b)
    | none => eBad
  | .UnaryOp op a _ => match op with
    | .USub => eUn gNeg (r.e l a)
    | .Not => eNot (r.e l a)
    | _ => eBad
  | .BoolOp op es _ => match op with
    | .And => dAndE r l es
    | .Or => dOrE r l es
  | .IfExp c a b _ => eIf (r.t l c) (r.e l a) (r.e l b)
  | .Compare a ops es _ => dCmpE r l a ops es
  | .Tuple es _ _ => eTup (dA r l es)
  | .List es _ => eLst (dA r l es)
  | .Subscript o i _ => dSub r l o i
  | .Dict ks vs _ => dDct r l ks vs
  | .ListComp elt gs scope _ => dLC r l elt scope gs
  | .Call f args [] pos => match f with
    | .Name x _ => dCall r l x args
    | .Attribute o m apos => dMeth r l o m args apos pos
    | _ => eBad
  | _ => eBad
def stepT (r : Dn) (l : L) : Expr → Tv
  | .UnaryOp op a p => match op with
    | .Not => tNotV (r.t l a)
    | _ => tVal (r.e l (.UnaryOp op a p))
  | .BoolOp op es _ => match op with
    | .And => dAndT r l es
    | .Or => dOrT r l es
  | .Compare a ops es _ => tBl (dCmpE r l a ops es)
  | .IfExp _ _ _ _ => tBad
  | e => tVal (r.e l e)

section
variable {r : Dn} {g : G} {X : Cx} {l : L} {j : Nat} {C : CF} {pos p cpos : Pos}
theorem d_const (q : Ct g X l j) (c : Const) {k : Nat} : PE X (.Constant c k pos) (wpE g C (dConst c)) := by
  cases c <;> first
    | exact e_con pe_int fun H ρ => by rw [Is]
    | exact e_con pe_bl fun H ρ => by rw [Is]
    | exact e_con pe_non fun H ρ => by rw [Is]
    | exact e_con pe_str fun H ρ => by rw [Is]
    | exact e_bad
theorem d_sub (S : Sd r) (q : Cq g X l C j) (o i : Expr) : PE X (.Subscript o i pos) (wpE g C (dSub r l o i)) := by
  cases i with
  | Slice a b c p =>
    cases c with
    | some c =>
      have hO : ∀ a : Option Expr, PO X a (wpO g C (a.map (r.e l))) := fun a => by
        cases a with
        | none => exact po_none'
        | some a => exact po_some' (S.e q a)
      have : PE X (.Subscript o (.Slice a b (some c) p) pos) (wpE g C (match stepI c with | some k => eSlS k (r.e l o) (a.map (r.e l)) (b.map (r.e l)) | none => eBad)) := by
        split
        · rename_i k hk
          obtain ⟨h0, h1, h2⟩ := stepI_ok (X := X) hk
          exact PV.PE.imp (SLX.pe_slS h0 h1 (S.e q o) (hO a) (hO b) h2) fun _ _ _ z => sls_imp q.K z
        · exact e_bad
      cases a <;> cases b <;> exact this
    | none =>
      cases a with
      | none => cases b with
        | none => exact e_sl00 q.toCt (S.e q o)
        | some b => exact e_sl01 q.toCt (S.e q o) (S.e q b)
      | some a => cases b with
        | none => exact e_sl10 q.toCt (S.e q o) (S.e q a)
        | some b => exact e_sl11 q.toCt (S.e q o) (S.e q a) (S.e q b)
  | _ => exact e_ix q.toCt (S.e q o) (S.e q _) rfl
theorem d_cmpE (S : Sd r) (q : Cq g X l C j) (a : Expr) (ops : List CmpOp) (es : List Expr) : PE X (.Compare a ops es pos) (wpE g C (dCmpE r l a ops es)) := by
  unfold dCmpE
  split
  · split
    · exact e_bad
    · rename_i h
      exact e_cmp (d_cmp q.toCt _) (S.e q _) (S.e q _) (by simpa using h)
  · split
    · exact e_bad
    · rename_i h
      exact e_chain (d_cmp q.toCt _) (d_cmp q.toCt _) (S.e q _) (S.e q _) (S.e q _) (by simpa using h)
  · exact e_bad
theorem d_cmpT (S : Sd r) (q : Cq g X l C j) (a : Expr) (ops : List CmpOp) (es : List Expr) : PT X (.Compare a ops es pos) (wpT g C (tBl (dCmpE r l a ops es))) := by
  have bad : ∀ {e : Expr}, PT X e (wpT g C (tBl eBad)) := ⟨fun _ _ _ _ _ _ ⟨_, _, _, _, _, p⟩ => p.elim⟩
  unfold dCmpE
  split
  · split
    · exact bad
    · rename_i h
      exact t_cmp (d_cmp q.toCt _) (S.e q _) (S.e q _) (by simpa using h)
  · split
    · exact bad
    · rename_i h
      exact t_chain (d_cmp q.toCt _) (d_cmp q.toCt _) (S.e q _) (S.e q _) (S.e q _) (by simpa using h)
  · exact bad
theorem dPs_is (S : Sd r) (q : Cq g X l C j) : ∀ {ks : List (Option Expr)} {vs : List Expr} {ps : List (Ev × Ev)}, dPs r l ks vs = some ps → PPs X pos ks vs (ps.map fun p => (wpE g C p.1, wpE g C p.2)) ∧ ks.all (·.isSome) = true ∧ ks.length = vs.length
  | [], [], ps, h => by cases h; exact ⟨pps_nil, rfl, rfl⟩
  | some k :: ks, v :: vs, ps, h => by
    have h : (dPs r l ks vs).map (fun ps => (r.e l k, r.e l v) :: ps) = some ps := h
    obtain ⟨ps', h1, h2⟩ := Option.map_eq_some_iff.mp h
    subst h2
    obtain ⟨a1, a2, a3⟩ := dPs_is S q h1
    exact ⟨pps_cons (S.e q k) (S.e q v) a1, by rw [List.all_cons, a2]; rfl, by rw [List.length_cons, List.length_cons, a3]⟩
  | [], _ :: _, _, h => nomatch h
  | none :: _, _, _, h => by unfold dPs at h; cases h
  | some _ :: _, [], _, h => nomatch h
theorem d_dct (S : Sd r) (q : Cq g X l C j) (ks : List (Option Expr)) (vs : List Expr) : PE X (.Dict ks vs pos) (wpE g C (dDct r l ks vs)) := by
  unfold dDct
  split
  · split
    · exact e_dsp0
    · exact e_bad
  · split
    · rename_i ps h
      split
      · rename_i h15
        obtain ⟨a1, a2, a3⟩ := dPs_is (pos := pos) S q h
        exact e_dsp a1 a2 a3 (by simp) h15
      · exact e_bad
    · exact e_bad
theorem step_e (S : Sd r) (q : Cq g X l C j) (e : Expr) : PE X e (wpE g C (stepE r l e)) := by
  cases e with
  | Constant c k p => exact d_const q.toCt c
  | Name x p => exact d_name q x
  | BinOp a op b p =>
    show PE X _ (wpE g C (match dBin op with | some f => eBin f (r.e l a) (r.e l b) | none => eBad))
    split
    · rename_i f h; exact e_bin (d_bin q.toCt h) (S.e q a) (S.e q b)
    · exact e_bad
  | UnaryOp op a p =>
    cases op with
    | USub => exact e_neg (S.e q a)
    | Not => exact e_not q.toCt (S.e q a)
    | _ => exact e_bad
  | BoolOp op es p =>
    cases op with
    | And => exact d_andE S q es
    | Or => exact d_orE S q es
  | IfExp c a b p => exact e_if (S.t q c) (S.e q a) (S.e q b)
  | Compare a ops es p => exact d_cmpE S q a ops es
  | Tuple es k p => exact e_tup (k := 0) (d_a S q es)
  | List es p => exact e_lst (d_a S q es)
  | Subscript o i p => exact d_sub S q o i
  | Dict ks vs p => exact d_dct S q ks vs
  | ListComp elt gs scope p => exact d_lc S q elt scope gs
  | Call f args kw p =>
    cases kw with
    | cons _ _ => exact e_bad
    | nil =>
      cases f with
      | Name x p => exact d_call S q x args
      | Attribute o m ap => exact d_meth S q o m args
      | _ => exact e_bad
  | _ => exact e_bad
theorem step_t (S : Sd r) (q : Cq g X l C j) (e : Expr) : PT X e (wpT g C (stepT r l e)) := by
  cases e with
  | UnaryOp op a p =>
    cases op with
    | Not => exact t_not (S.t q a)
    | _ => exact t_val q.toCt (S.e q _) rfl
  | BoolOp op es p =>
    cases op with
    | And => exact (d_andT S q es).pt
    | Or => exact (d_orT S q es).pt
  | IfExp c a b p => exact t_bad
  | Compare a ops es p => exact d_cmpT S q a ops es
  | _ => exact t_val q.toCt (S.e q _) rfl
end

/-! ### expressions that may raise -/
def xArgs (r : Dn) (l : L) : List Expr → Av
  | [] => aNil
  | e :: es => aCons (r.x l e) (xArgs r l es)
/-- a name that holds a def, called -/
def eCallV (i : Nat) (df : List (Str × Nat)) (rs : List Str) (a : Av) : Ev := fun C env h => opt (getV env i) fun d => match d with
  | .fn x => opt (df.lookup x) fun np => chk (rs.contains x) ((a C env h).bind fun xs h1 => chk (decide (xs.length = np)) (C.fn 0 x xs h1))
  | _ => .bad
def stepX (r : Dn) (l : L) (e : Expr) : Ev := match e with
  | .Call (.Name x _) args [] _ => if args.any starB || args.isEmpty || oddN x then eStr (stepE r l e)
    else if visB l x then match slot l x with
      | some i => eCallV i l.df l.rs (xArgs r l args)
      | none => eBad
    else match l.df.lookup x with
      | some np => if glB l x && l.rs.contains x && args.length == np then eCall x np (xArgs r l args) else eStr (stepE r l e)
      | none => eStr (stepE r l e)
  | .Tuple es _ _ => if es.any starB then eStr (stepE r l e) else eTup (xArgs r l es)
  | e => eStr (stepE r l e)
section
variable {r : Dn} {g : G} {X : Cx} {l : L} {j : Nat} {C : CF} {pos p cpos : Pos} {E : XK}
theorem x_args (S : Sd r) (q : Cq g X l C j) (tk : Takes X fun cls d _ H => E cls d H) : ∀ {es : List Expr}, es.any starB = false → PA X es (wpAX g E C (xArgs r l es))
  | [], _ => ax_nil
  | e :: es, h => by
    rw [List.any_cons, Bool.or_eq_false_iff] at h
    exact PV.PA.imp (pa_cons (S.x E q tk e) (x_args S q tk h.2) (starEach_cons h.1)) fun _ _ _ z => wpAX.cons z
theorem x_callV (S : Sd r) (q : Cq g X l C j) (tk : Takes X fun cls d _ H => E cls d H) {x : Str} {i : Nat} {e : Expr} {es : List Expr} (hi : slot l x = some i) (hv : visB l x = true) (ho : oddN x = false) (hs : (e :: es).any starB = false) :
    PE X (.Call (.Name x p) (e :: es) [] pos) (wpEX g E C (eCallV i l.df l.rs (xArgs r l (e :: es)))) := by
  unfold oddN at ho
  rw [Bool.or_eq_false_iff] at ho
  have hs' := hs
  rw [List.any_cons, Bool.or_eq_false_iff] at hs'
  refine PV.PE.imp (pe_callV (CX := L2.CX X.prog X.w) (by rw [q.N]; exact slot_is hi) (by rw [q.sc]; exact visB_is hv) (x_args S q tk hs) ho.1 ho.2 (starEach_cons hs'.1) (noStar_back hs'.2)) fun σ H Q ⟨ρ, h, env, hr, he, pp⟩ => ?_
  unfold eCallV at pp
  cases ed : getV env i with
  | none => rw [ed] at pp; exact pp.elim
  | some d =>
    rw [ed] at pp
    cases d with
    | fn y =>
      have pp : PostX g E (Is g) (opt (l.df.lookup y) fun np => chk (l.rs.contains y) ((xArgs r l (e :: es) C env h).bind fun xs h1 => chk (decide (xs.length = np)) (C.fn 0 y xs h1))) ρ H Q := pp
      cases en : l.df.lookup y with
      | none => rw [en] at pp; exact pp.elim
      | some np =>
        rw [en] at pp
        obtain ⟨hrs, p1⟩ := PostX.chk (b := l.rs.contains y) pp
        obtain ⟨f, fd, ps, Fo, hm, kp, b⟩ := (q.calX 0 (Nat.zero_le _) (y, np) (PySem.mem_of_lookup en) hrs).ex
        have Fo : FnOk X.prog X.w X.K X.mg X.base (L2.CX X.prog X.w) j f fd ps (spXF g (C.fn 0 y) np) := by
          rw [q.prog, q.w, q.K, q.mg, q.base]; exact Fo
        obtain ⟨v, hv1, iv⟩ := getV_is he ed
        rw [Is] at iv
        obtain ⟨f', hm', ev⟩ := iv
        have ef : f' = f := by
          have := hm'.symm.trans hm
          cases this; rfl
        subst ef
        refine ⟨f', fd, ps, j, _, E, by rw [hv1, ev], Fo, q.room, by rw [q.K]; exact kp, by rw [q.K]; exact b, passX tk σ, ρ, h, env, hr, he, (PostX.bind (R := IsL g) p1).mono fun xs H1 ⟨ρ1, h1, ds, t, hr1, i1, p2⟩ => ?_⟩
        obtain ⟨hl, p3⟩ := PostX.chk p2
        exact ⟨by rw [← i1.length]; exact of_decide_eq_true hl, ρ1, h1, ds, hr1, i1, p3⟩
    | _ => exact pp.elim
theorem step_x (S : Sd r) (E : XK) (q : Cq g X l C j) (tk : Takes X fun cls d _ H => E cls d H) (e : Expr) : PE X e (wpEX g E C (stepX r l e)) := by
  cases e with
  | Call f args kw p =>
    cases kw with
    | cons _ _ => cases f <;> exact ex_str (step_e S q _)
    | nil =>
      cases f with
      | Name x px =>
        show PE X _ (wpEX g E C (if args.any starB || args.isEmpty || oddN x then eStr (stepE r l _) else if visB l x then match slot l x with | some i => eCallV i l.df l.rs (xArgs r l args) | none => eBad else match l.df.lookup x with | some np => if glB l x && l.rs.contains x && args.length == np then eCall x np (xArgs r l args) else eStr (stepE r l _) | none => eStr (stepE r l _)))
        split
        · exact ex_str (step_e S q _)
        · rename_i hc
          simp only [Bool.or_eq_true, not_or] at hc
          obtain ⟨⟨h1, h2⟩, h3⟩ := hc
          have h1 : args.any starB = false := by simpa using h1
          have h3 : oddN x = false := by simpa using h3
          cases args with
          | nil => simp at h2
          | cons e es =>
            split
            · rename_i hv
              split
              · rename_i i hi
                exact x_callV S q tk hi hv h3 h1
              · exact ⟨fun _ _ _ _ _ _ ⟨_, _, _, _, _, z⟩ => z.elim⟩
            · split
              · rename_i np hd
                split
                · rename_i hc2
                  simp only [Bool.and_eq_true, beq_iff_eq] at hc2
                  obtain ⟨⟨h4, h5⟩, h6⟩ := hc2
                  have h1' := h1
                  rw [List.any_cons, Bool.or_eq_false_iff] at h1'
                  unfold oddN at h3
                  rw [Bool.or_eq_false_iff] at h3
                  exact ex_call q.toCt (q.calX 0 (Nat.zero_le _) (x, np) (PySem.mem_of_lookup hd) h5) tk (q.gl h4) (x_args S q tk h1) h3.1 (starEach_cons h1'.1) (noStar_back h1'.2)
                · exact ex_str (step_e S q _)
              · exact ex_str (step_e S q _)
      | _ => exact ex_str (step_e S q _)
  | Tuple es k p =>
    show PE X _ (wpEX g E C (if es.any starB then eStr (stepE r l _) else eTup (xArgs r l es)))
    split
    · exact ex_str (step_e S q _)
    · rename_i h
      have h : es.any starB = false := by simpa using h
      refine PV.PE.imp (pe_tup (x_args S q tk h)) fun σ H Q ⟨ρ, h, env, hr, he, p⟩ => ⟨ρ, h, env, hr, he, (PostX.bind (R := IsL g) p).mono fun xs H1 ⟨ρ1, h1, ds, t, hr1, i1, p1⟩ => ?_⟩
      obtain ⟨hl, p2⟩ := PostX.chk p1
      have hl := of_decide_eq_true hl
      exact ⟨by rw [← i1.length]; exact line_of hl, fun q hq => (PostX.ok p2).newT hr1 i1 hq⟩
  | _ => exact ex_str (step_e S q _)
end

/-! ### statements -/
def compB : Expr → Bool
  | .ListComp _ _ _ _ => true
  | .SetComp _ _ _ _ => true
  | .DictComp _ _ _ _ _ => true
  | _ => false
/-- a, b = x, y with plain local names -/
def sPar2 (i j : Nat) (a : Av) : Sv := fun C env h => (a C env h).toS fun ds h1 => match ds with
  | [x, y] => .nx ((env.set i (some x)).set j (some y)) h1
  | _ => .bad
def sPar3 (i j k : Nat) (a : Av) : Sv := fun C env h => (a C env h).toS fun ds h1 => match ds with
  | [x, y, z] => .nx (((env.set i (some x)).set j (some y)).set k (some z)) h1
  | _ => .bad
/-- the names that are stored on one line -/
def parN (sc : Scope) (line : Nat) : Expr → Option Str
  | .Name id pos => if (sc.names.lookup id == some NameKind.local && pos.line == line) = true then some id else none
  | _ => none
def parL (ts : List Expr) : Nat := (ts.head?.map fun x => x.pos.line).getD 0
/-- how a pair of tuples is stored -/
def swapK (ts vs : List Expr) (sc : Scope) : Option (Option (List Str)) :=
  if (!(ts.length == 2 || ts.length == 3) || vs.length != ts.length) = true then some none
  else if (vs.any starB) = true then some none
  else if ((ts.filterMap (parN sc (parL ts))).length != ts.length || (ts.filterMap (parN sc (parL ts))).eraseDups.length != (ts.filterMap (parN sc (parL ts))).length) = true then some none
  else if vs.all (foldedForSure 8) = true then some none
  else if vs.all (constantsAlone 8) = true then none
  else some (some (ts.filterMap (parN sc (parL ts))))
section
variable {r : Dn} {g : G} {X : Cx} {l : L} {j : Nat} {C : CF} {pos p cpos : Pos}
theorem swapK_is {ts vs : List Expr} {sc : Scope} {env : Env} {o : Option (List Str)} {k k2 : Nat} {p p2 : Pos} (hs : env.scope = sc) (hk : sc.kind = .function) (h : swapK ts vs sc = some o) : swappedStores [.Tuple ts k p] (.Tuple vs k2 p2) env = pure o := by
  have bk : env.blockKind = .function := by unfold Env.blockKind; rw [hs, hk]; rfl
  have ko : ∀ x, env.kindOf x = sc.names.lookup x := fun x => by unfold Env.kindOf; rw [hs]
  have Fa : ∀ f : Expr → Bool, (∀ e, f e = starB e) → vs.any f = vs.any starB := fun f hf => by rw [show f = starB from funext hf]
  have Fm : ∀ f : Expr → Option Str, (∀ e, f e = parN sc (parL ts) e) → ts.filterMap f = ts.filterMap (parN sc (parL ts)) := fun f hf => by rw [show f = _ from funext hf]
  unfold swapK at h
  unfold swappedStores
  simp only [bk, ko]
  by_cases h1 : (!(ts.length == 2 || ts.length == 3) || vs.length != ts.length) = true
  · rw [if_pos h1] at h
    cases h
    have h1 : (!(ts.length == 2 || ts.length == 3) || vs.length != ts.length || (ScopeKind.function != ScopeKind.function)) = true := by
      rw [h1]; rfl
    rw [if_pos h1]
  · rw [if_neg h1] at h
    have h1 : ¬ ((!(ts.length == 2 || ts.length == 3) || vs.length != ts.length || (ScopeKind.function != ScopeKind.function)) = true) := by
      intro z; apply h1; simpa using z
    rw [if_neg h1]
    rw [Fa]
    · by_cases h2 : vs.any starB = true
      · rw [if_pos h2] at h ⊢
        cases h; rfl
      · rw [if_neg h2] at h ⊢
        rw [Fm]
        · by_cases h3 : ((ts.filterMap (parN sc (parL ts))).length != ts.length || (ts.filterMap (parN sc (parL ts))).eraseDups.length != (ts.filterMap (parN sc (parL ts))).length) = true
          · rw [if_pos h3] at h ⊢
            cases h; rfl
          · rw [if_neg h3] at h ⊢
            by_cases h4 : vs.all (foldedForSure 8) = true
            · rw [if_pos h4] at h ⊢
              cases h; rfl
            · rw [if_neg h4] at h ⊢
              by_cases h5 : vs.all (constantsAlone 8) = true
              · rw [if_pos h5] at h; cases h
              · rw [if_neg h5] at h ⊢
                cases h; rfl
        · intro e; cases e <;> rfl
    · intro e; cases e <;> rfl
theorem PostA.toS {r : Res (List D)} {f : List D → Hs → RS} {ρ : List Addr} {H : Hp} {Dd : Ends} (p : PostS g (r.toS f) ρ H Dd) :
    PostA g r ρ H fun v H1 => ∃ ρ1 h1 d, Tr g.tb ρ H ρ1 H1 ∧ HR g ρ1 H1 h1 ∧ IsL g H1 ρ1 d v ∧ PostS g (f d h1) ρ1 H1 Dd :=
  (PostS.toS (R := IsL g) p).mono fun _ _ ⟨ρ1, h1, d, t, hr, i, _, p⟩ => ⟨ρ1, h1, d, t, hr, i, p⟩
theorem isL3 {H : Hp} {ρ : List Addr} {d e f : D} {xs : List V} (i : IsL g H ρ [d, e, f] xs) : ∃ v u w, xs = [v, u, w] ∧ Is g H ρ d v ∧ Is g H ρ e u ∧ Is g H ρ f w := by
  rw [IsL] at i
  obtain ⟨v, r, e, h1, h2⟩ := i
  obtain ⟨u, w, e2, h3, h4⟩ := isL2 h2
  exact ⟨v, u, w, by rw [e, e2], h1, h3, h4⟩
theorem par2_imp {i k : Nat} {fs : Av} {D : Ends} {σ : L2.St} {H : Hp} (q : wpS g C (sPar2 i k fs) D σ H) : tPar i k (wpA g C fs) D σ H := by
  obtain ⟨ρ, h, env, hr, hv, p⟩ := q
  refine ⟨ρ, h, env, hr, hv, (PostA.toS p).mono fun xs H1 ⟨ρ1, h1, ds, t, hr1, i1, p1⟩ => ?_⟩
  match ds, i1, p1 with
  | [x, y], i1, p1 =>
    obtain ⟨v, u, rfl, iv, iu⟩ := isL2 i1
    exact ⟨v, u, rfl, p1 _ ρ1 H1 (Tr.refl hr1.tabs) hr1 (((hv.mono t).set iv i).set iu k)⟩
  | [], _, p1 => exact p1.elim
  | [_], _, p1 => exact p1.elim
  | _ :: _ :: _ :: _, _, p1 => exact p1.elim
theorem par3_imp {i k m : Nat} {fs : Av} {D : Ends} {σ : L2.St} {H : Hp} (q : wpS g C (sPar3 i k m fs) D σ H) : tPar3 i k m (wpA g C fs) D σ H := by
  obtain ⟨ρ, h, env, hr, hv, p⟩ := q
  refine ⟨ρ, h, env, hr, hv, (PostA.toS p).mono fun xs H1 ⟨ρ1, h1, ds, t, hr1, i1, p1⟩ => ?_⟩
  match ds, i1, p1 with
  | [x, y, z], i1, p1 =>
    obtain ⟨v, u, w, rfl, iv, iu, iw⟩ := isL3 i1
    exact ⟨v, u, w, rfl, p1 _ ρ1 H1 (Tr.refl hr1.tabs) hr1 ((((hv.mono t).set iv i).set iu k).set iw m)⟩
  | [], _, p1 => exact p1.elim
  | [_], _, p1 => exact p1.elim
  | [_, _], _, p1 => exact p1.elim
  | _ :: _ :: _ :: _ :: _, _, p1 => exact p1.elim
theorem sw_plain {e : Expr} (h : compB e = false) (t : Option Expr) (n : Nat) (env : Env) : swapsWith e t n env = pure false := by
  cases e <;> first | rfl | cases h
theorem sw_tup (e : Expr) (ts : List Expr) (k : Nat) (p : Pos) (n : Nat) (env : Env) : swapsWithSole [.Tuple ts k p] e n env = pure false := by
  cases e <;> rfl
theorem sw_sub (e : Expr) (a b : Expr) (p : Pos) (n : Nat) (env : Env) : swapsWithSole [.Subscript a b p] e n env = pure false := by
  cases e <;> rfl
theorem st_none {t e : Expr} {env : Env} (h : ∀ ts k p, t ≠ .Tuple ts k p) (h2 : ∀ ts p, t ≠ .List ts p) : swappedStores [t] e env = pure none := by
  cases t <;> first | exact absurd rfl (h _ _ _) | exact absurd rfl (h2 _ _) | rfl
theorem st_none2 {t e : Expr} {env : Env} (h : ∀ ts k p, e ≠ .Tuple ts k p) : swappedStores [t] e env = pure none := by
  cases e <;> first | exact absurd rfl (h _ _ _) | (cases t <;> rfl)
theorem ae1 {t : Expr} {env : Env} (h : starB t = false) : (assignEach [t] env).map (·.2) = [assign t env] := by
  rw [assignEach_cons h]; rfl
end
/-! ### the assignments -/
def swB (l : L) (scope : Scope) (x : Str) (py pe : Pos) : Bool :=
  l.sc.kind == .function && l.sc.names.lookup x == some NameKind.local && py.line == pe.line && !(scope.names.any fun (n, k) => n == x && (k == .local || k == .cell))
def dAsgName (r : Dn) (l : L) (x : Str) (py : Pos) (e : Expr) : Sv := match e with
  | .ListComp elt gs scope pos => if stoB l x && l.sc.kind == .function then match slot l x with
      | some i => sAsg (dLC r l elt scope gs) (tgName i)
      | none => sBad
    else sBad
  | e => if compB e then sBad else sAsg (r.e l e) (dG l 3 (.Name x py))
def dAsgTup (r : Dn) (l : L) (ts : List Expr) (k : Nat) (pt : Pos) (e : Expr) : Sv := match e with
  | .Tuple vs k2 p2 => if l.sc.kind == .function then match swapK ts vs l.sc with
      | none => sBad
      | some none => sAsg (r.e l (.Tuple vs k2 p2)) (dG l 3 (.Tuple ts k pt))
      | some (some _) => match ts, vs with
        | [.Name x _, .Name y _], [a, b] => match slot l x, slot l y with
          | some i, some j => if i ≠ j ∧ l.sc.names.lookup x = some NameKind.local ∧ l.sc.names.lookup y = some NameKind.local then sPar2 i j (dA r l [a, b]) else sBad
          | _, _ => sBad
        | [.Name x _, .Name y _, .Name z _], [a, b, c] => match slot l x, slot l y, slot l z with
          | some i, some j, some k => if (i ≠ j ∧ i ≠ k ∧ j ≠ k) ∧ l.sc.names.lookup x = some NameKind.local ∧ l.sc.names.lookup y = some NameKind.local ∧ l.sc.names.lookup z = some NameKind.local then sPar3 i j k (dA r l [a, b, c]) else sBad
          | _, _, _ => sBad
        | _, _ => sBad
    else sBad
  | e => sAsg (r.e l e) (dG l 3 (.Tuple ts k pt))
end PV
end

section
set_option Elab.async false
set_option linter.all false
set_option maxRecDepth 100000
set_option maxHeartbeats 4000000
/-! V16b: o[i] op= e. -/
namespace PV
open PySem PySem.Spec PyProof.Rows L2 GX GxR PG C8
open PySem.W (EachIs)
/-- o[i], o a list or a dict -/
def gIxL : Op2 := fun d e h =>
  match dctD d h with
  | some kvs => opt (keyD e) fun k => opt (getK kvs k) fun v => .ok v h
  | none => opt (lstD d h) fun xs => opt (intD e) fun i => opt (atI xs i) fun v => .ok v h
def sAugS (o i : Ev) (op : Op2) (a : Ev) : Sv := fun C env h => (o C env h).toS fun d h1 => (i C env h1).toS fun e h2 => (gIxL d e h2).toS fun x h3 => (a C env h3).toS fun y h4 => (op x y h4).toS fun z h5 => match setD d e z h5 with
  | some h6 => .nx env h6
  | none => .bad
section
variable {g : G} {X : Cx} {l : L} {j : Nat} {C : CF} {pos p cpos : Pos}
theorem pget_d (c : Ct g X l j) : PGet X (rD2 g gIxL) := by
  intro pins s σ H o i ov iv Q I ro ri ⟨ρ, h, d, e, hr, i1, i2, p⟩
  have p : Post g (Is g) (match dctD d h with | some kvs => opt (keyD e) fun k => opt (getK kvs k) fun v => .ok v h | none => opt (lstD d h) fun xs => opt (intD e) fun i => opt (atI xs i) fun v => .ok v h) ρ H Q := p
  split at p
  · rename_i kvs e0
    obtain ⟨k, ek, p1⟩ := Post.opt p
    obtain ⟨v, ev, p2⟩ := Post.opt p1
    obtain ⟨n, a, vs, rfl, rfl, _, _, y1, y2⟩ := dct_at hr i1 e0
    have := key_is ek i2
    subst this
    obtain ⟨w, ew, iw⟩ := (getK_is k y2).1 v ev
    cases ro
    exact d_getItem c.u1 I (.inl ⟨vs, k, .inl y1, rfl, ew.symm⟩) ri fun w' s' I' rw' => ⟨w, H, I', rw', p2.same hr iw⟩
  · obtain ⟨xs, e0, p1⟩ := Post.opt p
    obtain ⟨k, ek, p2⟩ := Post.opt p1
    obtain ⟨v, ev, p3⟩ := Post.opt p2
    have := intD_is ek i2
    subst this
    obtain ⟨a, vs, rfl, h1, h2⟩ := lst_at hr i1 e0
    obtain ⟨w, he, iw⟩ := atI_is h2 ev
    cases ro
    obtain ⟨t, rfl⟩ := ri
    obtain ⟨its, r, pl, hz⟩ := I.list (show SqL X.K H a vs by rw [c.K]; exact h1)
    obtain ⟨m, e1, e2, e3, e4, e5⟩ := atI_get he
    obtain ⟨u, eu, ru⟩ := r.get e2
    have hl := r.length
    have hn := line63
    have fin : EP X pins σ Q u s := ⟨w, H, I, ru, p3.same hr iw⟩
    by_cases h0 : 0 ≤ k
    · have hj : k.toNat = m := by
        rw [seqIndex_of h0 e5] at e1
        exact Option.some.inj e1
      exact wpAny_getItem_list (Q := fun r s' => EP X pins σ Q r s') pl.isList h0 (by omega) (by rw [hj]; simpa using eu) fin
    · have hj : (k + (its.toArray.size : Int)).toNat = m := by
        rw [seqIndex_neg (by omega) e4] at e1
        rw [List.size_toArray, ← hl]
        exact Option.some.inj e1
      exact wpAny_getItem_list_neg (Q := fun r s' => EP X pins σ Q r s') pl.isList (by omega) (by rw [List.size_toArray] <;> omega) (by omega) (by rw [hj]; simpa using eu) fin
theorem s_augS (c : Ct g X l j) {o i e : Expr} {op : Operator} {tpos : Pos} {fo fi fa : Ev} {f : Op2} (ho : PE X o (wpE g C fo)) (hi : PE X i (wpE g C fi)) (he : PE X e (wpE g C fa)) (hp : OpR X (inplaceOp op) (rD2 g f)) (hsl : slcB i = false) : PS X (.AugAssign (.Subscript o i tpos) op e pos) (wpS g C (sAugS fo fi f fa)) := by
  have ha : ∀ ov iv new, augStore i ov iv new = (do holding [new, ov, iv] (setItem ov iv new); release [new, ov, iv] []; pure .next) := by
    intro ov iv new
    cases i <;> first | rfl | cases hsl
  refine PV.PS.imp (ps_augS ho hi (pget_d c) he (ip_of hp) (pset_d c) ha) fun D σ H ⟨ρ, h, env, hr, hv, p⟩ => ?_
  refine ⟨ρ, h, env, hr, hv, (PostS.toS (R := Is g) p).mono fun x H1 ⟨ρ1, h1, d1, t1, hr1, i1, _, p1⟩ => ?_⟩
  refine ⟨ρ1, h1, env, hr1, hv.mono t1, (PostS.toS (R := Is g) p1).mono fun y H2 ⟨ρ2, h2, d2, t2, hr2, i2, _, p2⟩ => ?_⟩
  refine ⟨ρ2, h2, d1, d2, hr2, i1.mono t2, i2, (PostS.toS (R := Is g) p2).mono fun z H3 ⟨ρ3, h3, d3, t3, hr3, i3, _, p3⟩ => ?_⟩
  refine ⟨ρ3, h3, env, hr3, ((hv.mono t1).mono t2).mono t3, (PostS.toS (R := Is g) p3).mono fun w H4 ⟨ρ4, h4, d4, t4, hr4, i4, _, p4⟩ => ?_⟩
  refine ⟨ρ4, h4, d3, d4, hr4, i3.mono t4, i4, (PostS.toS (R := Is g) p4).mono fun u H5 ⟨ρ5, h5, d5, t5, hr5, i5, _, p5⟩ => ?_⟩
  exact ⟨ρ5, h5, d1, d2, d5, hr5, (((i1.mono t2).mono t3).mono t4).mono t5, ((i2.mono t3).mono t4).mono t5, i5, setEnd (((((hv.mono t1).mono t2).mono t3).mono t4).mono t5) p5⟩
end
end PV
end

section
set_option Elab.async false
set_option linter.all false
set_option maxRecDepth 100000
set_option maxHeartbeats 4000000
/-! V17: statements by syntax; the whole function. -/
namespace PV
open PySem PySem.Spec PyProof.Rows L2 GX GxR PG C8
open PySem.W (EachIs)

def dIop : Operator → Option Op2
  | .Add => some (gInt2 fun i j => .int (i + j))
  | .Sub => some gSub
  | _ => none
def dAug (r : Dn) (l : L) (x : Str) (op : Operator) (e : Expr) : Sv := match dIop op, slot l x with
  | some f, some i => if stoB l x then sAug i f (r.e l e) else sBad
  | _, _ => sBad
def dB (r : Dn) (l : L) : List Stmt → Sv
  | [] => sNil
  | s :: rest => sCons (r.s l s) (dB r l rest)
def dAsg (r : Dn) (l : L) (tg e : Expr) : Sv := match tg with
  | .Name x py => dAsgName r l x py e
  | .Tuple ts k pt => dAsgTup r l ts k pt e
  | .Subscript o i _ => if slcB i then sBad else sSetIx (r.e l e) (r.e l o) (r.e l i)
  | _ => sBad
def stepS (r : Dn) (l : L) : Stmt → Sv
  | .Expr e _ => if compB e then sBad else sExpr (r.e l e)
  | .Return v _ => match v with
    | some e => sRet (r.e l e)
    | none => sRetN
  | .Assign ts e _ => match ts with
    | [tg] => dAsg r l tg e
    | _ => sBad
  | .AugAssign t op e _ => match t with
    | .Name x _ => dAug r l x op e
    | .Subscript o i _ => match dIop op with
      | some f => if slcB i then sBad else sAugS (r.e l o) (r.e l i) f (r.e l e)
      | none => sBad
    | _ => sBad
  | .If c p q _ => sIf (r.t l c) (dB r l p) (dB r l q)
  | .For tg it body els _ => match els with
    | [] => if setB it then sBad else sFor (r.i l tg it) (dG l 3 tg) (dB r l body)
    | _ => sBad
  | .While c body els _ => match els with
    | [] => sWhile (r.t l c) (dB r l body)
    | _ => sBad
  | .Pass _ => sNil
  | .Break _ => sBreak
  | .Continue _ => sCont
  | _ => sBad
section
variable {r : Dn} {g : G} {X : Cx} {l : L} {j : Nat} {C : CF} {pos p cpos : Pos}
theorem d_iop {op : Operator} {f : Op2} (h : dIop op = some f) : OpR X (inplaceOp op) (rD2 g f) := by
  cases op <;> first
    | (cases h; first | exact od_int2 iop_add fun _ _ _ _ => by rw [Is] | exact od_int2 iop_sub fun _ _ _ _ => by rw [Is])
    | cases h
theorem d_b (S : Sd r) (q : Cq g X l C j) : ∀ ss, PSs X ss (wpS g C (dB r l ss))
  | [] => ss_nil
  | s :: rest => ss_cons (S.s q s) (d_b S q rest)
theorem asgBad {st : Stmt} {t : Tg} : PS X st (wpS g C (sAsg eBad t)) := ⟨fun _ _ _ _ _ _ ⟨_, _, _, _, _, p⟩ => p.elim⟩
theorem s_setLc2 (q : Cq g X l C j) {i : Nat} {y : Str} {py spos : Pos} {elt tg iter tg1 iter1 : Expr} {ifs ifs1 : List Expr} {scope : Scope} {own : List (Str × Nat)} {vs1 : List Nat} {it it1 : Iv} {t t1 : Tg} {tt tt1 : Tv} {f : Ev} (hy : l.N[i]? = some y) (hyl : l.sc.names.lookup y = some .local)
    (hsw : swapsWith (.ListComp elt [⟨tg, iter, ifs, 0⟩, ⟨tg1, iter1, ifs1, 0⟩] scope pos) (some (.Name y py)) spos.line X.env = pure true) (hi : PI X tg iter (wpI g C it)) (ok : blkC l.N l.sc scope own = true) (hsl : ∀ i ∈ t.slots, i ∈ own.map (·.2)) (hsl1 : ∀ i ∈ t1.slots, i ∈ vs1) (hv : ∀ i ∈ vs1, i ∈ own.map (·.2))
    (hg : ∀ X', Cq g X' (l.blk scope) C j → PG X' tg (wpG g t)) (ht : ∀ X', Cq g X' (l.blk scope) C j → PTs X' ifs (wpT g C tt)) (hi1 : ∀ X', Cq g X' (l.blk scope) C j → PI X' tg1 iter1 (wpI g C it1)) (hg1 : ∀ X', Cq g X' (l.blk scope) C j → PG X' tg1 (wpG g t1)) (ht1 : ∀ X', Cq g X' (l.blk scope) C j → PTs X' ifs1 (wpT g C tt1))
    (he : ∀ X', Cq g X' (l.blk scope) C j → PE X' elt (wpE g C f)) (hs : setB iter = false) (hs1 : setB iter1 = false) :
    PS X (.Assign [.Name y py] (.ListComp elt [⟨tg, iter, ifs, 0⟩, ⟨tg1, iter1, ifs1, 0⟩] scope pos) spos) (wpS g C (sAsg (eLC2 it t (own.map (·.2)) tt it1 t1 vs1 tt1 f) (tgName i))) := by
  refine PV.PS.imp (ps_setLc2 q.calm (by rw [q.N]; exact q.nd) (by rw [q.N]; exact hy) (by rw [q.sc]; exact hyl) hsw hi (by rw [q.N, q.sc]; exact blkOk_by ok) hv (fun s H c cl fp => hg _ (q.blk scope s H c cl fp)) (fun s H c cl fp => ht _ (q.blk scope s H c cl fp)) (fun s H c cl fp => hi1 _ (q.blk scope s H c cl fp)) (fun s H c cl fp => hg1 _ (q.blk scope s H c cl fp)) (fun s H c cl fp => ht1 _ (q.blk scope s H c cl fp)) (fun s H c cl fp => he _ (q.blk scope s H c cl fp)) (folded_ofB hs _) (fun env => folded_ofB hs1 env)) fun D σ H ⟨ρ, h, env, hr, hv, p⟩ => ?_
  refine lc2_imp hsl hsl1 ⟨ρ, h, env, hr, hv, (PostS.toS (R := Is g) p).mono fun x H1 ⟨ρ1, h1, d, t1, hr1, i1, _, p1⟩ => ?_⟩
  exact p1 _ ρ1 H1 (Tr.refl hr1.tabs) hr1 ((hv.mono t1).set i1 i)
/-- name = [..] -/
theorem d_asgLC (S : Sd r) (q : Cq g X l C j) {x : Str} {py : Pos} {i : Nat} (hi : slot l x = some i) (hx : stoB l x = true) (hk : l.sc.kind = .function) (elt : Expr) (gs : List Comprehension) (scope : Scope) {lp : Pos} : PS X (.Assign [.Name x py] (.ListComp elt gs scope lp) pos) (wpS g C (sAsg (dLC r l elt scope gs) (tgName i))) := by
  have bk : X.env.blockKind = .function := by unfold Env.blockKind; rw [q.sc, hk]; rfl
  have sw : swapsWith (.ListComp elt gs scope lp) (some (.Name x py)) pos.line X.env = pure (ScopeKind.function == ScopeKind.function && l.sc.names.lookup x == some NameKind.local && py.line == lp.line && !(scope.names.any fun (n, k) => n == x && (k == .local || k == .cell))) := by
    have ko : X.env.kindOf x = l.sc.names.lookup x := by unfold Env.kindOf; rw [q.sc]
    show (pure (X.env.blockKind == .function && X.env.kindOf x == some .local && py.line == lp.line && !(scope.names.any fun (n, k) => n == x && (k == .local || k == .cell))) : Sem Bool) = _
    rw [bk, ko]
  cases hb : (ScopeKind.function == ScopeKind.function && l.sc.names.lookup x == some NameKind.local && py.line == lp.line && !(scope.names.any fun (n, k) => n == x && (k == .local || k == .cell))) with
  | false =>
    rw [hb] at sw
    exact s_asg (d_lc S q elt scope gs) (g_name q.toCt (slot_is hi) (stoB_is hx)) sw rfl rfl
  | true =>
    rw [hb] at sw
    simp only [Bool.and_eq_true, beq_iff_eq] at hb
    have hl : l.sc.names.lookup x = some .local := hb.1.1.2
    unfold dLC
    split
    · rename_i tg iter ifs
      split
      · rename_i h
        obtain ⟨h1, h2, h3⟩ := okLC1_is h
        exact s_setLc q (slot_is hi) hl sw (S.i q tg iter) h1 h2 (fun X' q' => d_g q'.toCt 3 tg) (fun X' q' => d_ts S q' ifs) (fun X' q' => S.e q' elt) h3
      · exact asgBad
    · rename_i tg iter ifs tg1 iter1 ifs1
      split
      · rename_i h
        rw [Bool.and_eq_true, Bool.and_eq_true, Bool.not_eq_true'] at h
        obtain ⟨h1, h2, h3⟩ := okLC1_is h.1
        exact s_setLc2 q (slot_is hi) hl sw (S.i q tg iter) h1 h2 (fun i hi => hi) (subB_is h.2.1) (fun X' q' => d_g q'.toCt 3 tg) (fun X' q' => d_ts S q' ifs) (fun X' q' => S.i q' tg1 iter1) (fun X' q' => d_g q'.toCt 3 tg1) (fun X' q' => d_ts S q' ifs1) (fun X' q' => S.e q' elt) h3 h.2.2
      · exact asgBad
    · exact asgBad
theorem d_asgName (S : Sd r) (q : Cq g X l C j) (x : Str) (py : Pos) (e : Expr) : PS X (.Assign [.Name x py] e pos) (wpS g C (dAsgName r l x py e)) := by
  unfold dAsgName
  split
  · split
    · rename_i h
      rw [Bool.and_eq_true, beq_iff_eq] at h
      split
      · rename_i i hi
        exact d_asgLC S q hi h.1 h.2 _ _ _
      · exact s_bad
    · exact s_bad
  · split
    · exact s_bad
    · rename_i h
      have h : compB e = false := by simpa using h
      exact s_asg (S.e q e) (d_g q.toCt 3 _) (sw_plain h (some (.Name x py)) pos.line X.env) rfl rfl
theorem d_asgTup (S : Sd r) (q : Cq g X l C j) (ts : List Expr) (k : Nat) (pt : Pos) (e : Expr) : PS X (.Assign [.Tuple ts k pt] e pos) (wpS g C (dAsgTup r l ts k pt e)) := by
  unfold dAsgTup
  split
  · rename_i vs k2 p2
    split
    · rename_i hk
      have hk : l.sc.kind = .function := by simpa using hk
      split
      · exact s_bad
      · rename_i hw
        exact s_asg (S.e q _) (d_g q.toCt 3 _) (sw_tup _ _ _ _ _ _) (swapK_is q.sc hk hw) rfl
      · rename_i nm hw
        split
        · rename_i x px y py a b
          split
          · rename_i i m hi hm
            split
            · rename_i hc
              have sw := swapK_is (k := k) (k2 := k2) (p := pt) (p2 := p2) q.sc hk hw
              have nm2 : nm = [x, y] := by
                have h2 := hw
                unfold swapK at h2
                split at h2
                · cases h2
                split at h2
                · cases h2
                split at h2
                · cases h2
                split at h2
                · cases h2
                split at h2
                · cases h2
                rename_i h3 _ _
                have e0 := Option.some.inj (Option.some.inj h2)
                have lx : (List.lookup x l.sc.names == some NameKind.local) = true := by rw [hc.2.1]; rfl
                have ly : (List.lookup y l.sc.names == some NameKind.local) = true := by rw [hc.2.2]; rfl
                simp only [bne_iff_ne, ne_eq, Bool.or_eq_true, not_or, Classical.not_not, List.length_cons, List.length_nil] at h3
                have h3 := h3.1
                rw [← e0]
                rw [List.filterMap_cons, List.filterMap_cons, List.filterMap_nil] at h3 ⊢
                have f1 : ∀ (z : Str) (pz : Pos) (n : Nat), parN l.sc n (.Name z pz) = none ∨ parN l.sc n (.Name z pz) = some z := fun z pz n => by
                  show (if (List.lookup z l.sc.names == some NameKind.local && pz.line == n) = true then some z else none) = none ∨ (if (List.lookup z l.sc.names == some NameKind.local && pz.line == n) = true then some z else none) = some z
                  by_cases hz : (List.lookup z l.sc.names == some NameKind.local && pz.line == n) = true
                  · rw [if_pos hz]; exact .inr rfl
                  · rw [if_neg hz]; exact .inl rfl
                rcases f1 x px (parL [.Name x px, .Name y py]) with e1 | e1 <;> rcases f1 y py (parL [.Name x px, .Name y py]) with e2 | e2 <;> rw [e1, e2] at h3 ⊢ <;> first | rfl | (simp at h3)
              subst nm2
              refine PV.PS.imp (ps_par q.calm (by rw [q.N]; exact q.nd) (by rw [q.N]; exact slot_is hi) (by rw [q.N]; exact slot_is hm) hc.1 (by rw [q.sc]; exact hc.2.1) (by rw [q.sc]; exact hc.2.2) (d_a S q _) sw (sw_tup _ _ _ _ _ _)) fun D σ H z => par2_imp z
            · exact s_bad
          · exact s_bad
        · rename_i x px y py z pz a b c
          split
          · rename_i i m n hi hm hn
            split
            · rename_i hc
              have sw := swapK_is (k := k) (k2 := k2) (p := pt) (p2 := p2) q.sc hk hw
              have nm2 : nm = [x, y, z] := by
                have h2 := hw
                unfold swapK at h2
                split at h2
                · cases h2
                split at h2
                · cases h2
                split at h2
                · cases h2
                split at h2
                · cases h2
                split at h2
                · cases h2
                rename_i h3 _ _
                have e0 := Option.some.inj (Option.some.inj h2)
                simp only [bne_iff_ne, ne_eq, Bool.or_eq_true, not_or, Classical.not_not, List.length_cons, List.length_nil] at h3
                have h3 := h3.1
                rw [← e0]
                rw [List.filterMap_cons, List.filterMap_cons, List.filterMap_cons, List.filterMap_nil] at h3 ⊢
                have f1 : ∀ (z : Str) (pz : Pos) (n : Nat), parN l.sc n (.Name z pz) = none ∨ parN l.sc n (.Name z pz) = some z := fun z pz n => by
                  show (if (List.lookup z l.sc.names == some NameKind.local && pz.line == n) = true then some z else none) = none ∨ (if (List.lookup z l.sc.names == some NameKind.local && pz.line == n) = true then some z else none) = some z
                  by_cases hz : (List.lookup z l.sc.names == some NameKind.local && pz.line == n) = true
                  · rw [if_pos hz]; exact .inr rfl
                  · rw [if_neg hz]; exact .inl rfl
                rcases f1 x px (parL [.Name x px, .Name y py, .Name z pz]) with e1 | e1 <;> rcases f1 y py (parL [.Name x px, .Name y py, .Name z pz]) with e2 | e2 <;> rcases f1 z pz (parL [.Name x px, .Name y py, .Name z pz]) with e3 | e3 <;> rw [e1, e2, e3] at h3 ⊢ <;> first | rfl | (simp at h3)
              subst nm2
              refine PV.PS.imp (ps_par3 q.calm (by rw [q.N]; exact q.nd) (by rw [q.N]; exact slot_is hi) (by rw [q.N]; exact slot_is hm) (by rw [q.N]; exact slot_is hn) hc.1.1 hc.1.2.1 hc.1.2.2 (by rw [q.sc]; exact hc.2.1) (by rw [q.sc]; exact hc.2.2.1) (by rw [q.sc]; exact hc.2.2.2) (d_a S q _) sw (sw_tup _ _ _ _ _ _)) fun D σ H z => par3_imp z
            · exact s_bad
          · exact s_bad
        · exact s_bad
    · exact s_bad
  · rename_i hne
    exact s_asg (S.e q e) (d_g q.toCt 3 _) (sw_tup _ _ _ _ _ _) (st_none2 fun ts k p z => hne ts k p z) rfl
theorem d_asg (S : Sd r) (q : Cq g X l C j) (tg e : Expr) : PS X (.Assign [tg] e pos) (wpS g C (dAsg r l tg e)) := by
  cases tg with
  | Name x py => exact d_asgName S q x py e
  | Tuple ts k pt => exact d_asgTup S q ts k pt e
  | Subscript o i p =>
    show PS X _ (wpS g C (if slcB i then sBad else sSetIx (r.e l e) (r.e l o) (r.e l i)))
    split
    · exact s_bad
    · rename_i h
      exact s_setIx q.toCt (S.e q e) (S.e q o) (S.e q i) (fun a b d e z => by subst z; exact h rfl) (sw_sub _ _ _ _ _ _) (st_none (fun _ _ _ z => nomatch z) (fun _ _ z => nomatch z))
  | _ => exact s_bad
theorem step_s (S : Sd r) (q : Cq g X l C j) (st : Stmt) : PS X st (wpS g C (stepS r l st)) := by
  cases st with
  | Expr e p =>
    show PS X _ (wpS g C (if compB e then sBad else sExpr (r.e l e)))
    split
    · exact s_bad
    · rename_i h
      exact s_expr (S.e q e) (sw_plain (by simpa using h) _ _ _)
  | Return v p =>
    cases v with
    | some e => exact s_ret (S.e q e)
    | none => exact s_retN
  | Assign ts e p =>
    match ts with
    | [tg] => exact d_asg S q tg e
    | [] => exact s_bad
    | _ :: _ :: _ => exact s_bad
  | AugAssign t op e p =>
    cases t with
    | Name x px =>
      show PS X _ (wpS g C (dAug r l x op e))
      unfold dAug
      split
      · rename_i f i hf hi
        split
        · rename_i hx
          exact s_aug q.toCt (slot_is hi) (stoB_is hx) (S.e q e) (d_iop hf)
        · exact s_bad
      · exact s_bad
    | Subscript o i px =>
      show PS X _ (wpS g C (match dIop op with | some f => if slcB i then sBad else sAugS (r.e l o) (r.e l i) f (r.e l e) | none => sBad))
      split
      · rename_i f hf
        split
        · exact s_bad
        · rename_i hs
          exact s_augS q.toCt (S.e q o) (S.e q i) (S.e q e) (d_iop hf) (by simpa using hs)
      · exact s_bad
    | _ => exact s_bad
  | If c p q' pp => exact s_if (S.t q c) (d_b S q p) (d_b S q q')
  | For tg it body els p =>
    cases els with
    | nil =>
      show PS X _ (wpS g C (if setB it then sBad else sFor (r.i l tg it) (dG l 3 tg) (dB r l body)))
      split
      · exact s_bad
      · rename_i h
        exact s_for q.toCt (S.i q tg it) (d_g q.toCt 3 tg) (d_b S q body) (folded_ofB (by simpa using h) _)
    | cons _ _ => exact s_bad
  | While c body els p =>
    cases els with
    | nil => exact s_while q.toCt (S.t q c) (d_b S q body)
    | cons _ _ => exact s_bad
  | Pass p => exact s_pass
  | Break p => exact s_break
  | Continue p => exact s_cont
  | _ => exact s_bad
end
/-! ### statements of a def that may raise -/
def xL (rec : L → Stmt → Sv) (l : L) : List Stmt → Sv
  | [] => sNil
  | s :: rest => sCons (rec l s) (xL rec l rest)
def stepXS (r : Dn) (rec : L → Stmt → Sv) (l : L) (st : Stmt) : Sv := match st with
  | .Expr e _ => if compB e then sBad else sExpr (r.x l e)
  | .Return (some e) _ => sRet (r.x l e)
  | .If c p q _ => sIf (tStr (r.t l c)) (xL rec l p) (xL rec l q)
  | .Raise (some (.Call (.Name x _) [] [] _)) none _ => if glB l x && (l.er.lookup x).isSome && !oddN x then sRaise x else sBad
  | .For tg it body [] _ => if setB it then sBad else sForX (r.i l tg it) (dG l 3 tg) (xL rec l body)
  | .Assign [.Name x py] e _ => if callB e && stoB l x then match slot l x with
      | some i => sAsg (r.x l e) (tgName i)
      | none => sBad
    else sStr (r.s l st)
  | st => sStr (r.s l st)
section
variable {r : Dn} {g : G} {X : Cx} {l : L} {j : Nat} {C : CF} {pos : Pos} {E : XK}
theorem x_l {rec : L → Stmt → Sv} (h : ∀ st, PS X st (wpSX g E C (rec l st))) : ∀ ss, PSs X ss (wpSX g E C (xL rec l ss))
  | [] => sx_nil
  | s :: rest => sx_cons (h s) (x_l h rest)
theorem sx_bad {st : Stmt} : PS X st (wpSX g E C sBad) := ⟨fun _ _ _ _ _ _ ⟨_, _, _, _, _, z⟩ => z.elim⟩
theorem step_xs (S : Sd r) (q : Cq g X l C j) (tk : Takes X fun cls d _ H => E cls d H) {rec : L → Stmt → Sv} (ih : ∀ st, PS X st (wpSX g E C (rec l st))) (st : Stmt) : PS X st (wpSX g E C (stepXS r rec l st)) := by
  unfold stepXS
  split
  · split
    · exact sx_bad
    · rename_i h
      exact sx_expr (S.x E q tk _) (sw_plain (by simpa using h) _ _ _)
  · exact sx_ret (S.x E q tk _)
  · exact sx_if (tx_str (S.t q _)) (x_l ih _) (x_l ih _)
  · rename_i x px cp rp
    split
    · rename_i hc
      simp only [Bool.and_eq_true, Bool.not_eq_true'] at hc
      obtain ⟨⟨h1, h2⟩, h3⟩ := hc
      obtain ⟨ms, hm⟩ := Option.isSome_iff_exists.mp h2
      obtain ⟨C0, o⟩ := q.er _ (PySem.mem_of_lookup hm)
      unfold oddN at h3
      rw [Bool.or_eq_false_iff] at h3
      exact sx_raise q.toCt o tk (q.gl h1) h3.1
    · exact sx_bad
  · rename_i tg it body p
    split
    · exact sx_bad
    · rename_i h
      exact sx_for q.toCt (S.i q tg it) (d_g q.toCt 3 tg) (x_l ih body) (folded_ofB (by simpa using h) _)
  · rename_i x py e ap
    split
    · rename_i hc
      rw [Bool.and_eq_true] at hc
      have hcb : compB e = false := by
        have := hc.1
        cases e <;> first | rfl | cases this
      split
      · rename_i i hi
        exact sx_asg (S.x E q tk e) (g_name q.toCt (slot_is hi) (stoB_is hc.2)) (sw_plain hcb (some (.Name x py)) ap.line X.env) rfl rfl
      · exact sx_bad
    · exact sx_str (S.s q _)
  · exact sx_str (S.s q _)
end
/-! ### the whole function -/
def den : Nat → Dn
  | 0 => ⟨fun _ _ => eBad, fun _ _ => tBad, fun _ _ _ => iBad, fun _ _ => sBad, fun _ _ => eBad⟩
  | n + 1 => ⟨stepE (den n), stepT (den n), dI (den n), stepS (den n), stepX (den n)⟩
theorem den_ok : ∀ n, Sd (den n)
  | 0 => ⟨fun _ _ => e_bad, fun _ _ => t_bad, fun _ _ _ => i_bad, fun _ _ => s_bad, fun _ _ _ _ => ⟨fun _ _ _ _ _ _ ⟨_, _, _, _, _, z⟩ => z.elim⟩⟩
  | n + 1 => ⟨fun q e => step_e (den_ok n) q e, fun q e => step_t (den_ok n) q e, fun q tg e => d_i (den_ok n) q tg e, fun q e => step_s (den_ok n) q e, fun E q tk e => step_x (den_ok n) E q tk e⟩
/-- a def's body -/
def denB (n : Nat) (l : L) (body : List Stmt) : Sv := dB (den n) l body
/-- the body of a def that may raise: by statements within statements -/
def denXS (n : Nat) : Nat → L → Stmt → Sv
  | 0 => fun _ _ => sBad
  | m + 1 => stepXS (den n) (denXS n m)
def denXB (n : Nat) (l : L) (body : List Stmt) : Sv := xL (denXS n 12) l body
theorem denXS_ok {g : G} {X : Cx} {l : L} {j : Nat} {C : CF} {E : XK} (n : Nat) (q : Cq g X l C j) (tk : Takes X fun cls d _ H => E cls d H) : ∀ (m : Nat) (st : Stmt), PS X st (wpSX g E C (denXS n m l st))
  | 0, _ => sx_bad
  | m + 1, st => step_xs (den_ok n) q tk (denXS_ok n q tk m) st
theorem denXB_ok {g : G} {X : Cx} {l : L} {j : Nat} {C : CF} {E : XK} (n : Nat) (q : Cq g X l C j) (tk : Takes X fun cls d _ H => E cls d H) (body : List Stmt) : PSs X body (wpSX g E C (denXB n l body)) := x_l (denXS_ok n q tk 12) body
end PV
end

section
set_option Elab.async false
set_option linter.all false
set_option maxRecDepth 100000
set_option maxHeartbeats 4000000
/-! V18: the whole text: what its functions compute; that they do. -/
namespace PV
open PySem PySem.Spec PyProof.Rows L2 GX GxR C8
open _root_.PG
open PySem.W (EachIs)

structure Code where
  np : Nat
  nl : Nat
  body : Sv
abbrev Md := List (Str × Code)
def RS.toR : RS → Res D
  | .rt d h => .ok d h
  | .nx _ h => .ok .non h
  | .err c fs h => .err c fs h
  | _ => .bad
def badF : CallF := fun _ _ _ => .bad
def cfOf (k : Nat) (t : List CallF) : CF := ⟨k, fun d => t.getD d badF⟩
def stepC (M : Md) (C : CF) : CallF := fun x ds h => match M.lookup x with
  | some c => if ds.length = c.np then (c.body C (ds.map some ++ List.replicate (c.nl - c.np) none) h).toR else .bad
  | none => .bad
/-- the text's functions, by how many levels of calls are left -/
def tab (M : Md) : Nat → List CallF
  | 0 => [badF]
  | k + 1 => stepC M (cfOf k (tab M k)) :: tab M k
def Cn (M : Md) (k : Nat) : CF := cfOf k (tab M k)
def run (M : Md) (k : Nat) : CallF := (tab M k).getD 0 badF
theorem run_zero (M : Md) : run M 0 = badF := rfl
theorem run_succ (M : Md) (k : Nat) : run M (k + 1) = stepC M (Cn M k) := rfl
theorem Cn_fn (M : Md) : ∀ (k d : Nat), d ≤ k → (Cn M k).fn d = run M (k - d)
  | k, 0, _ => rfl
  | 0, d + 1, h => by omega
  | k + 1, d + 1, h => by
    rw [Nat.add_sub_add_right]
    exact Cn_fn M k d (Nat.le_of_succ_le_succ h)
theorem Cn_lv (M : Md) (k : Nat) : (Cn M k).lv = k := rfl
theorem Cn_inner (M : Md) (k : Nat) : (Cn M (k + 1)).inner = Cn M k := rfl

/-- a def, as the text has it -/
structure Df where
  x : Str
  params : Arguments
  body : List Stmt
  scope : Scope
  N : List Str
  ps : List Str
  gen : Bool
/-- of the whole text: its errors, the defs that try a lambda, those that may raise, those that make lambdas -/
structure Ex where
  er : List (Str × List Str)
  lw : List (Str × (List (Str × Str) × Str))
  rs : List Str
  lam : List Str
def lOf (rows : List Df) (ks : List (Str × Int)) (ex : Ex) (r : Df) : L := ⟨r.N, r.scope, r.gen, (r.scope.names.filter fun y => y.2 == NameKind.cell).map (·.1), rows.map fun r => (r.x, r.ps.length), ks, ex.er, ex.lw, ex.lam.contains r.x, ex.rs⟩
def cdOf (n : Nat) (rows : List Df) (ks : List (Str × Int)) (ex : Ex) (r : Df) : Code := ⟨r.ps.length, r.N.length, if ex.rs.contains r.x then denXB n (lOf rows ks ex r) r.body else denB n (lOf rows ks ex r) r.body⟩
def mdOf (n : Nat) (rows : List Df) (ks : List (Str × Int)) (ex : Ex) : Md := rows.map fun r => (r.x, cdOf n rows ks ex r)
def lamQ (x : Str) : Str := x ++ ".<locals>." ++ "<lambda>"
structure DfOk (g : G) (ex : Ex) (r : Df) : Prop where
  F : ∃ fd, FunD g.K r.x r.x r.params r.body r.scope [] [] (He.ga g.K r.x) fd
  m : g.mg r.x = some (.ref (He.ga g.K r.x))
  S : FnScope r.N r.ps r.scope
  hb : ∀ (kV doc pm : Value) (an : Option Addr) (cdv ct : Value) (us : List Value), us.length = r.ps.length → bindArgs (PySem.W.fnOf r.x r.x r.params r.body r.scope .none kV doc pm an cdv ct) ⟨us, []⟩ = pure (r.ps.zip us)
  tab : r.gen = true → ∃ P, TabB g.base g.mg (cA g.K r.x) P ∧ P ∈ g.tb
  lam : ex.lam.contains r.x = true → ∃ P, LamX.TabB g.base g.mg (cA g.K r.x) P ∧ (P, lamQ r.x) ∈ g.lt
/-- the whole text -/
structure TxOk (g : G) (n : Nat) (rows : List Df) (ks : List (Str × Int)) (ex : Ex) : Prop where
  defs : ∀ r ∈ rows, DfOk g ex r
  look : ∀ r ∈ rows, (mdOf n rows ks ex).lookup r.x = some (cdOf n rows ks ex r)
  ks : ∀ p ∈ ks, ∃ u, g.mg p.1 = some u ∧ RelV (.int p.2) u
  bn : ∀ x ∈ bnms, g.mg x = none
  er : ∀ p ∈ ex.er, ∃ C, ErOk g p.1 C
  lw : ∀ q ∈ ex.lw, LwOk g ex.er q
def spF (g : G) (M : Md) (k : Nat) (x : Str) (np : Nat) : Sp := fun vs H Q _ => vs.length = np ∧ ∃ ρ h ds, HR g ρ H h ∧ IsL g H ρ ds vs ∧ PostE g (run M k x ds h) ρ H Q
/-- a def by its body, errors told -/
theorem okCX {CX : CXT} {P : Program} {w : World} {K : PySem.W.Frag} {mg : Str → Option Value} {base : Heap} {x : Str} {params : Arguments} {body : List Stmt} {scope : Scope} {fd : FuncData} {N ps : List Str} {k : Nat} {sp : Sp} (F : FunD K x x params body scope [] [] (He.ga K x) fd) (S : FnScope N ps scope) (len : ∀ vs H Q E, sp vs H Q E → vs.length = ps.length)
    (hbody : ∀ (A : Around) (outer : List Env) (s : Shared) (H : Hp) (vs : List V) (Q : VK) (E : XK), Room k (A.deeper (envOfC x scope s.heap.objs.size (He.ga K x) (.ref (cA K x)))) → sp vs H Q E →
      ∃ t, PSs (cxOf CX P w K mg base N x scope (He.ga K x) (.ref (cA K x)) A outer s H E) body t ∧ t { nx := fun _ H' => Q .non H', rt := Q } (L2.start N vs) H) : FnOk P w K mg base CX (k + 1) (He.ga K x) fd ps sp := by
  obtain ⟨oc, od, dV, kV, doc, pm, an, cdv, ct, osl, rfl, lk, hcd, _, _⟩ := F.ex
  obtain ⟨c, rfl⟩ := He.codeIn_ref hcd
  have e : cA K x = c := He.codeOf_eq (p := (x, none)) lk rfl
  refine fn_of lk hcd S len fun A outer s H vs Q E hr hsp => ?_
  rw [e] at hbody
  exact hbody A outer s H vs Q E hr hsp
section
variable {g : G} {n : Nat} {rows : List Df} {ks : List (Str × Int)} {ex : Ex}
theorem start_is {N : List Str} {ds : List D} {vs : List V} {H : Hp} {ρ : List Addr} (i : IsL g H ρ ds vs) : EnvR g H ρ (ds.map some ++ List.replicate (N.length - vs.length) none) (L2.start N vs) := by
  have hl := i.length
  refine ⟨by unfold L2.start; simp [hl], fun k d hk => ?_⟩
  unfold L2.start
  by_cases h : k < ds.length
  · rw [List.getElem?_append_left (by rw [List.length_map]; exact h), List.getElem?_map] at hk
    cases e : ds[k]? with
    | none => rw [e] at hk; cases hk
    | some u =>
      rw [e] at hk
      cases hk
      obtain ⟨v, hv, iv⟩ := i.get e
      refine ⟨v, ?_, iv⟩
      rw [List.getElem?_append_left (by rw [List.length_map, ← hl]; exact h), List.getElem?_map, hv]
      rfl
  · rw [List.getElem?_append_right (by rw [List.length_map]; omega), List.getElem?_replicate] at hk
    split at hk <;> cases hk
theorem toR_post {r : RS} {ρ : List Addr} {H : Hp} {Q : VK} (p : PostE g r.toR ρ H Q) : PostS g r ρ H { nx := fun _ H' => Q .non H', rt := Q } := by
  cases r with
  | nx e h => exact fun σ' ρ' H' t hr _ => p .non ρ' H' t hr (by rw [Is])
  | rt d h => exact fun v ρ' H' t hr i => p v ρ' H' t hr i
  | bk => exact p.elim
  | ct => exact p.elim
  | err => exact p.elim
  | bad => exact p.elim
theorem toR_postX {E : XK} {r : RS} {ρ : List Addr} {H : Hp} {Q : VK} (p : PostX g E (Is g) r.toR ρ H Q) : PostSX g E r ρ H { nx := fun _ H' => Q .non H', rt := Q } := by
  cases r with
  | nx e h => exact fun σ' ρ' H' t hr _ => p .non ρ' H' t hr (by rw [Is])
  | rt d h => exact fun v ρ' H' t hr i => p v ρ' H' t hr i
  | bk => exact p.elim
  | ct => exact p.elim
  | err => exact p
  | bad => exact p.elim
/-- the defs keep what is computed; those that may raise, with their errors -/
theorem okBoth (T : TxOk g n rows ks ex) : ∀ (k : Nat) (r : Df), r ∈ rows → ∀ fd, FunD g.K r.x r.x r.params r.body r.scope [] [] (He.ga g.K r.x) fd →
    FnOk g.P g.w g.K g.mg g.base C8.CX0 k (He.ga g.K r.x) fd r.ps (spF g (mdOf n rows ks ex) k r.x r.ps.length) ∧
    (ex.rs.contains r.x = true → FnOk g.P g.w g.K g.mg g.base (L2.CX g.P g.w) k (He.ga g.K r.x) fd r.ps (spXF g (run (mdOf n rows ks ex) k r.x) r.ps.length)) := by
  intro k
  induction k using Nat.strongRecOn with
  | _ k ih =>
  intro r hr fd F
  have cal : ∀ k' < k, ∀ r ∈ rows, Cal g.P g.w g.K g.mg g.base k' r.x (spF g (mdOf n rows ks ex) k' r.x r.ps.length) [] := fun k' hk r hr => by
    obtain ⟨⟨fd, F⟩, m, S, hb, _, _⟩ := T.defs r hr
    exact ⟨He.ga g.K r.x, fd, r.ps, [], (ih k' hk r hr fd F).1, m, F.kp, F.bindsN hb, .nil⟩
  have calX : ∀ k' < k, ∀ r ∈ rows, ex.rs.contains r.x = true → CalX g k' r.x (spXF g (run (mdOf n rows ks ex) k' r.x) r.ps.length) := fun k' hk r hr hrs => by
    obtain ⟨⟨fd, F⟩, m, S, hb, _, _⟩ := T.defs r hr
    exact ⟨He.ga g.K r.x, fd, r.ps, (ih k' hk r hr fd F).2 hrs, m, F.kp, F.bindsN hb⟩
  cases k with
  | zero => exact ⟨⟨fun vs H Q E h => h.1, fun A outer s H args us vs Q E _ _ _ _ ⟨_, _, _, _, _, _, p⟩ => p.elim⟩, fun _ => ⟨fun vs H Q E h => h.1, fun A outer s H args us vs Q E _ _ _ _ ⟨_, _, _, _, _, _, p⟩ => p.elim⟩⟩
  | succ k =>
    obtain ⟨_, m, S, hb, tb, lm⟩ := T.defs r hr
    have q0 : ∀ (CX : CXT) (A : Around) (outer : List Env) (s : Shared) (H : Hp) (E : XK) (xe : Value → Shared → Prop), Room k (A.deeper (envOfC r.x r.scope s.heap.objs.size (He.ga g.K r.x) (.ref (cA g.K r.x)))) → PassesOwn (model g.P g.w) (A.deeper (envOfC r.x r.scope s.heap.objs.size (He.ga g.K r.x) (.ref (cA g.K r.x)))) (envOfC r.x r.scope s.heap.objs.size (He.ga g.K r.x) (.ref (cA g.K r.x))) xe →
        Cq g ((cxOf CX g.P g.w g.K g.mg g.base r.N r.x r.scope (He.ga g.K r.x) (.ref (cA g.K r.x)) A outer s H E).wish xe) (lOf rows ks ex r) (Cn (mdOf n rows ks ex) k) k := fun CX A outer s H E xe room po => by
      refine ⟨⟨rfl, rfl, rfl, rfl, rfl, rfl, S.nd, rfl, fun _ _ => rfl, rfl, room, po, fun hg => ?_⟩, Cn_lv _ k, fun d hd q hq => ?_, T.ks, T.bn, fun d hd q hq hrs => ?_, T.er, T.lw, fun hl => ?_⟩
      · obtain ⟨P, h1, h2⟩ := tb hg
        exact ⟨_, P, rfl, h1, h2⟩
      · obtain ⟨r', hr', rfl⟩ := List.mem_map.mp hq
        rw [Cn_fn _ k d hd]
        exact cal (k - d) (by omega) r' hr'
      · obtain ⟨r', hr', rfl⟩ := List.mem_map.mp hq
        rw [Cn_fn _ k d hd]
        exact calX (k - d) (by omega) r' hr' hrs
      · obtain ⟨P, h1, h2⟩ := lm hl
        exact ⟨_, P, rfl, h1, h2⟩
    have at0 : ∀ {ds : List D} {vs : List V} {H : Hp} {ρ : List Addr} {h : Hs}, IsL g H ρ ds vs → vs.length = r.ps.length → run (mdOf n rows ks ex) (k + 1) r.x ds h = ((cdOf n rows ks ex r).body (Cn (mdOf n rows ks ex) k) (ds.map some ++ List.replicate (r.N.length - vs.length) none) h).toR := fun {ds vs H ρ h} i hl => by
      rw [run_succ]
      unfold stepC
      rw [T.look r hr]
      have hl' : ds.length = r.ps.length := by rw [i.length]; exact hl
      show (if ds.length = r.ps.length then _ else _) = _
      rw [if_pos hl', hl]
      rfl
    by_cases hx : ex.rs.contains r.x = true
    · have eb : (cdOf n rows ks ex r).body = denXB n (lOf rows ks ex r) r.body := if_pos hx
      refine ⟨okC F S (fun vs H Q E h => h.1) fun A outer s H vs Q E room ⟨hl, ρ, h, ds, hh, i, p⟩ => ⟨wpSX g (fun _ _ _ => False) (Cn (mdOf n rows ks ex) k) (denXB n (lOf rows ks ex r) r.body), denXB_ok n (q0 C8.CX0 A outer s H E _ room PassesOwn.never) LamX.takes0 r.body, ?_⟩, fun _ => okCX F S (fun vs H Q E h => h.1) fun A outer s H vs Q E room ⟨hl, ρ, h, ds, hh, i, p⟩ => ⟨wpSX g E (Cn (mdOf n rows ks ex) k) (denXB n (lOf rows ks ex r) r.body), denXB_ok n (q0 (L2.CX g.P g.w) A outer s H E _ room (passes_of (X := cxOf (L2.CX g.P g.w) g.P g.w g.K g.mg g.base r.N r.x r.scope (He.ga g.K r.x) (.ref (cA g.K r.x)) A outer s H E) rfl)) (takes_of rfl rfl rfl rfl) r.body, ?_⟩⟩
      · refine ⟨ρ, h, ds.map some ++ List.replicate (r.N.length - vs.length) none, hh, start_is i, toR_postX ?_⟩
        rw [at0 i hl, eb] at p
        exact PostX.of p
      · refine ⟨ρ, h, ds.map some ++ List.replicate (r.N.length - vs.length) none, hh, start_is i, toR_postX ?_⟩
        rw [at0 i hl, eb] at p
        exact p
    · have eb : (cdOf n rows ks ex r).body = denB n (lOf rows ks ex r) r.body := if_neg hx
      refine ⟨okC F S (fun vs H Q E h => h.1) fun A outer s H vs Q E room ⟨hl, ρ, h, ds, hh, i, p⟩ => ⟨wpS g (Cn (mdOf n rows ks ex) k) (denB n (lOf rows ks ex r) r.body), d_b (den_ok n) (q0 C8.CX0 A outer s H E _ room PassesOwn.never) r.body, ?_⟩, fun z => absurd z hx⟩
      refine ⟨ρ, h, ds.map some ++ List.replicate (r.N.length - vs.length) none, hh, start_is i, toR_post ?_⟩
      rw [at0 i hl, eb] at p
      exact p
/-! ### the defs that try a lambda -/
def hlB (sg : Scope) : List ExceptHandler → Option (List (Str × Str))
  | [] => some []
  | .ExceptHandler (some (.Name e _)) none [.Return (some (.Constant (.str ret) _ _)) _] _ :: r => if sg.names.lookup e == some NameKind.globalImplicit && !(e == ("__debug__" : Str)) then (hlB sg r).map fun hl => (e, ret) :: hl else none
  | _ => none
def lwB (sg : Scope) : List Stmt → Option (Str × List (Str × Str) × Str)
  | [.Try [.Expr (.Call (.Name a _) [] [] _) _] (h0 :: hds) [] [] _, .Return (some (.Constant (.str el) _ _)) _] => (hlB sg (h0 :: hds)).map fun hl => (a, hl, el)
  | _ => none
theorem hlB_is {g : G} {sg : Scope} : ∀ {hds : List ExceptHandler} {hl : List (Str × Str)}, hlB sg hds = some hl → (∀ c ∈ hl, ∃ C, g.mg c.1 = some (.ref C)) → HlOk g sg hds hl
  | [], hl, h, _ => by cases h; exact .nil
  | hd :: r, hl, h, hm => by
    unfold hlB at h
    split at h
    · rename_i e; cases e
    · rename_i e p4 ret j p5 p6 p7 r' heq
      cases heq
      split at h
      · rename_i hc
        simp only [Bool.and_eq_true, beq_iff_eq, Bool.not_eq_true'] at hc
        obtain ⟨hl', h1, h2⟩ := Option.map_eq_some_iff.mp h
        subst h2
        obtain ⟨C, hC⟩ := hm _ List.mem_cons_self
        exact .cons hc.1 hc.2 hC (hlB_is h1 fun c hc => hm c (List.mem_cons_of_mem _ hc))
      · cases h
    · cases h
theorem lw_of {g : G} {ex : Ex} {r : Df} {a el : Str} {hl : List (Str × Str)} {er : List (Str × List Str)} (T : DfOk g ex r) (h : lwB r.scope r.body = some (a, hl, el)) (hps : r.ps = [a]) (hN : r.N[0]? = some a) (hv : visB ⟨r.N, r.scope, false, [], [], [], [], [], false, []⟩ a = true)
    (hx : (r.x == ("__debug__" : Str)) = false) (ha : (a == ("__debug__" : Str)) = false) (ha2 : (a == ("__classdict__" : Str)) = false) (hm : ∀ c ∈ hl, ∃ C, g.mg c.1 = some (.ref C))
    (exm : ∀ p ∈ er, ∀ C, g.mg p.1 = some (.ref C) → ∀ c ∈ hl, ∀ C', g.mg c.1 = some (.ref C') → PySem.W.exmOne g.K (.ref C) (.ref C') = some (p.2.contains c.1)) : LwOk g er (r.x, hl, el) := by
  obtain ⟨⟨fd, F⟩, m, S, hb, _, _⟩ := T
  have hkp := F.kp
  have hbi := F.bindsN hb
  rw [hps] at hbi S
  obtain ⟨oc, od, dV, kV, doc, pm, an, cdv, ct, osl, rfl, lk, hcd, _, _⟩ := F.ex
  generalize hbd : r.body = body at *
  unfold lwB at h
  split at h
  · rename_i a' p1 p2 p3 h0 hds p7 el' jj p8 p9
    obtain ⟨hl', h1, h2⟩ := Option.map_eq_some_iff.mp h
    cases h2
    refine ⟨⟨He.ga g.K r.x, a, r.params, h0, hds, r.scope, dV, kV, doc, pm, cdv, ct, oc, an, od, osl, r.N, p1, p2, p3, p7, p8, p9, jj, m, hkp, lk, hcd, hbi, S, hN, visB_is hv, fun f => ?_, hx, ha, ha2, hlB_is h1 hm⟩, exm⟩
    show (([V.ref f].map some ++ List.replicate (r.N.length - [V.ref f].length) none : List (Option V)))[0]? = _
    rfl
  · cases h
theorem lookup_map {α : Type} (F : Df → α) : ∀ {rows : List Df} {r : Df}, (rows.map Df.x).Nodup → r ∈ rows → (rows.map fun r => (r.x, F r)).lookup r.x = some (F r)
  | [], _, _, h => by cases h
  | q :: rows, r, hn, h => by
    rw [List.map_cons, List.nodup_cons] at hn
    rw [List.map_cons, List.lookup_cons]
    rcases List.mem_cons.mp h with rfl | h
    · rw [beq_self_eq_true]
    · have : (r.x == q.x) = false := by
        rw [beq_eq_false_iff_ne]
        intro e
        exact hn.1 (by rw [← e]; exact List.mem_map.mpr ⟨r, h, rfl⟩)
      rw [this]
      exact lookup_map F hn.2 h
/-- the law: at any script it says True -/
def spLw (K : PySem.W.Frag) (tb : List Addr) (lt : List (Addr × Str)) (ok : List Int → Prop) : Sp := fun vs H Q _ => ∃ (a : Addr) (ns : List Int), vs = [.ref a] ∧ ok ns ∧ SqL K H a (ns.map V.int) ∧ Tabs tb H ∧ LamX.Tabs lt H ∧ ∀ H', Q (.bl true) H'
theorem ok_lw {P : Program} {w : World} {K : PySem.W.Frag} {mg : Str → Option Value} {base : Heap} {tb : List Addr} {lt : List (Addr × Str)} {ok : List Int → Prop} {k : Nat} {r : Df} (hsep : (∀ p ∈ lt, p.1 ∉ tb) ∧ ∀ p ∈ lt, ∀ p' ∈ lt, p.1 = p'.1 → p' = p) (T : ∀ a ns, TxOk ⟨P, w, K, mg, base, tb, a, ns, lt⟩ n rows ks ex) (hr : r ∈ rows) (hps : r.ps.length = 1) {fd : FuncData} (F : FunD K r.x r.x r.params r.body r.scope [] [] (He.ga K r.x) fd)
    (h : ∀ ns, ok ns → ∃ h', run (mdOf n rows ks ex) k r.x [.scr ns] [] = .ok (.bl true) h') : FnOk P w K mg base C8.CX0 k (He.ga K r.x) fd r.ps (spLw K tb lt ok) := by
  refine ⟨fun vs H Q E ⟨a, ns, e, _⟩ => by rw [e, hps]; rfl, fun A outer s H args us vs Q E room env b v ⟨a, ns, e, ho, hS, hT, hL, hQ⟩ => ?_⟩
  refine (okBoth (T a ns) k r hr fd F).1.run A outer s H args us vs Q E room env b v ⟨by rw [e, hps]; rfl, [], [], [.scr ns], ⟨rfl, fun i j a o o' h1 => by simp at h1, fun i a o h1 => by simp at h1, hT, ?_, hL, hsep⟩, ?_, ?_⟩
  · rcases hS with (hS | ⟨o, hS⟩) | hS
    · exact .inr ⟨by simp, _, hS, .inl rfl⟩
    · exact .inr ⟨by simp, _, hS, .inr ⟨o, rfl⟩⟩
    · exact .inl hS
  · rw [e]
    exact IsL.cons (by rw [Is]; exact ⟨rfl, rfl⟩) IsL.nil
  · obtain ⟨h', eh⟩ := h ns ho
    rw [eh]
    intro v ρ' H' _ _ iv
    rw [Is] at iv
    rw [iv]
    exact hQ H'
end
end PV
end

section
set_option Elab.async false
set_option linter.all false
set_option maxRecDepth 100000
set_option maxHeartbeats 4000000
/-! Written by wip/mkcode.py: what the defs compute. -/
namespace PV
open PySem PySem.Spec PyProof.Rows L2
def c_mask_of : Code := ⟨1, 2, sCons (sRet (goF (eSumG (iVal (eVar 0)) [] tYesV (eBin gShl (eCon (.int 1)) (eVar 0))))) sNil⟩
def c_masks_of : Code := ⟨1, 2, sCons (sRet (eLC (iVal (eVar 0)) (tgName 1) [1] tYesV (eCall "mask_of" 1 (aCons (eVar 1) aNil)))) sNil⟩
def c_holds_two : Code := ⟨1, 1, sCons (sRet (eBin gNe (eBin gAnd (eVar 0) (eBin gSub (eVar 0) (eCon (.int 1)))) (eCon (.int 0)))) sNil⟩
def c_missing_bead : Code := ⟨1, 4, sCons (sAsg (eCon (.int 0)) (tgName 1)) (sCons (sFor (iVal (eVar 0)) (tgName 2) (sCons (sAsg (eBin gOr (eVar 1) (eVar 2)) (tgName 1)) sNil)) (sCons (sFor (iRng (rg1 (eBits (eVar 1)))) (tgName 3) (sCons (sIf (tNotV (tVal (eBin gAnd (eBin gShr (eVar 1) (eVar 3)) (eCon (.int 1))))) (sCons (sRet (eVar 3)) sNil) sNil) sNil)) (sCons (sRet (eCon .non)) sNil)))⟩
def c_first_double : Code := ⟨1, 3, sCons (sFor (iRng (rg1 (eArgs oLen (aCons (eVar 0) aNil)))) (tgName 1) (sCons (sFor (iRng (rg1 (eVar 1))) (tgName 2) (sCons (sIf (tVal (eCall "holds_two" 1 (aCons (eBin gAnd (eBin gIx (eVar 0) (eVar 2)) (eBin gIx (eVar 0) (eVar 1))) aNil))) (sCons (sRet (eTup (aCons (eVar 2) (aCons (eVar 1) aNil)))) sNil) sNil) sNil)) sNil)) (sCons (sRet (eCon .non)) sNil)⟩
def c_hanging_with_first : Code := ⟨1, 5, sCons (sAsg (eCon (.int 0)) (tgName 1)) (sCons (sAsg (eBin gIx (eVar 0) (eCon (.int 0))) (tgName 2)) (sCons (sWhile (tBl (eBin gNe (eVar 1) (eVar 2))) (sCons (sAsg (eVar 2) (tgName 1)) (sCons (sFor (iVal (eVar 0)) (tgName 3) (sCons (sIf (tVal (eBin gAnd (eVar 3) (eVar 2))) (sCons (sAsg (eBin gOr (eVar 2) (eVar 3)) (tgName 2)) sNil) sNil) sNil)) sNil))) (sCons (sRet (goF (eTupG (iRng (rg1 (eArgs oLen (aCons (eVar 0) aNil)))) [("joined", 1), ("masks", 0)] (tVal (eBin gAnd (eBin gIx (eVar 2) (eVar 0)) (eVar 1))) (eVar 0)))) sNil)))⟩
def c_twice_held : Code := ⟨1, 4, sCons (sAsg (eCon (.int 0)) (tgName 1)) (sCons (sAsg (eCon (.int 0)) (tgName 2)) (sCons (sFor (iVal (eVar 0)) (tgName 3) (sCons (sAsg (eBin gOr (eVar 2) (eBin gAnd (eVar 1) (eVar 3))) (tgName 2)) (sCons (sAsg (eBin gOr (eVar 1) (eVar 3)) (tgName 1)) sNil))) (sCons (sRet (eVar 2)) sNil)))⟩
def c_left_in_rings : Code := ⟨1, 5, sCons (sAsg (eLst aNil) (tgName 1)) (sCons (sAsg (eLstR (rg1 (eArgs oLen (aCons (eVar 0) aNil)))) (tgName 2)) (sCons (sWhile (tBl (eBin gNe (eVar 1) (eVar 2))) (sCons (sAsg (eVar 2) (tgName 1)) (sCons (sAsg (eCall "twice_held" 1 (aCons (eLC (iVal (eVar 1)) (tgName 4) [4] tYesV (eBin gIx (eVar 0) (eVar 4))) aNil)) (tgName 3)) (sCons (sAsg (eLC (iVal (eVar 1)) (tgName 4) [4] (tVal (eCall "holds_two" 1 (aCons (eBin gAnd (eBin gIx (eVar 0) (eVar 4)) (eVar 3)) aNil))) (eVar 4)) (tgName 2)) sNil)))) (sCons (sRet (eArgs oTuple (aCons (eVar 1) aNil))) sNil)))⟩
def c_first_bar : Code := ⟨1, 6, sCons (sAsg (eCall "masks_of" 1 (aCons (eVar 0) aNil)) (tgName 1)) (sCons (sAsg (eCall "missing_bead" 1 (aCons (eVar 1) aNil)) (tgName 2)) (sCons (sIf (tBl (eBin gIsNot (eVar 2) (eCon .non))) (sCons (sRet (eTup (aCons (eCon (.str "bead")) (aCons (eVar 2) aNil)))) sNil) sNil) (sCons (sAsg (eCall "first_double" 1 (aCons (eVar 1) aNil)) (tgName 3)) (sCons (sIf (tBl (eBin gIsNot (eVar 3) (eCon .non))) (sCons (sRet (eTup (aCons (eCon (.str "two")) (aCons (eBin gIx (eVar 3) (eCon (.int 0))) (aCons (eBin gIx (eVar 3) (eCon (.int 1))) aNil))))) sNil) sNil) (sCons (sAsg (eCall "hanging_with_first" 1 (aCons (eVar 1) aNil)) (tgName 4)) (sCons (sIf (tBl (eBin gLt (eArgs oLen (aCons (eVar 4) aNil)) (eArgs oLen (aCons (eVar 1) aNil)))) (sCons (sRet (eTup (aCons (eCon (.str "apart")) (aCons (eVar 4) aNil)))) sNil) sNil) (sCons (sAsg (eCall "left_in_rings" 1 (aCons (eVar 1) aNil)) (tgName 5)) (sCons (sIf (tVal (eVar 5)) (sCons (sRet (eTup (aCons (eCon (.str "ring")) (aCons (eVar 5) aNil)))) sNil) sNil) (sCons (sRet (eCon .non)) sNil)))))))))⟩
def c_bead_count : Code := ⟨1, 2, sCons (sRet (eBin gAdd (goF (eMaxG (iVal (eVar 0)) [] tYesV (eBin gIx (eVar 0) (eUn gNeg (eCon (.int 1)))))) (eCon (.int 1)))) sNil⟩
def c_degrees_of : Code := ⟨1, 4, sCons (sAsg (eBin gMul (eLst (aCons (eCon (.int 0)) aNil)) (eCall "bead_count" 1 (aCons (eVar 0) aNil))) (tgName 1)) (sCons (sFor (iVal (eVar 0)) (tgName 2) (sCons (sFor (iVal (eVar 2)) (tgName 3) (sCons (sAugS (eVar 1) (eVar 3) (gInt2 fun i j => .int (i + j)) (eCon (.int 1))) sNil)) sNil)) (sCons (sRet (eVar 1)) sNil))⟩
def c_is_integer : Code := ⟨1, 1, sCons (sRet (eAnd (eArgs oIsi (aCons (eVar 0) (aCons (eCon (.ty "int")) aNil))) (eNot (eArgs oIsi (aCons (eVar 0) (aCons (eCon (.ty "bool")) aNil)))))) sNil⟩
def c_is_between : Code := ⟨3, 3, sCons (sRet (eAnd (eCall "is_integer" 1 (aCons (eVar 0) aNil)) (eChain gLe gLe (eVar 1) (eVar 0) (eVar 2)))) sNil⟩
def c_is_ascending : Code := ⟨1, 2, sCons (sRet (goF (eShort false (iRng (rg1 (eBin gSub (eArgs oLen (aCons (eVar 0) aNil)) (eCon (.int 1))))) [("items", 0)] tYesV (eBin gLt (eBin gIx (eVar 1) (eVar 0)) (eBin gIx (eVar 1) (eBin gAdd (eVar 0) (eCon (.int 1)))))))) sNil⟩
def c_are_integers : Code := ⟨3, 4, sCons (sRet (eAnd (eArgs oIsi (aCons (eVar 0) (aCons (eCon (.ty "tuple")) aNil))) (goF (eShort false (iVal (eVar 0)) [("least", 1), ("most", 2)] tYesV (eCall "is_between" 3 (aCons (eVar 0) (aCons (eVar 1) (aCons (eVar 2) aNil)))))))) sNil⟩
def c_is_bead_tuple : Code := ⟨1, 1, sCons (sRet (eAnd (eCall "are_integers" 3 (aCons (eVar 0) (aCons (eCon (.int 0)) (aCons (eBin gSub (eCon (.int 60)) (eCon (.int 1))) aNil)))) (eCall "is_ascending" 1 (aCons (eVar 0) aNil)))) sNil⟩
def c_is_bag : Code := ⟨1, 1, sCons (sRet (eAnd (eCall "is_bead_tuple" 1 (aCons (eVar 0) aNil)) (eBin gGe (eArgs oLen (aCons (eVar 0) aNil)) (eCon (.int 2))))) sNil⟩
def c_are_bags : Code := ⟨1, 2, sCons (sIf (tOrV (tNotV (tVal (eArgs oIsi (aCons (eVar 0) (aCons (eCon (.ty "tuple")) aNil))))) (tNotV (tVal (eVar 0)))) (sCons (sRet (eCon (.bl false))) sNil) sNil) (sCons (sRet (eAnd (goF (eShort false (iVal (eVar 0)) [] tYesV (eCall "is_bag" 1 (aCons (eVar 0) aNil)))) (eCall "is_ascending" 1 (aCons (eVar 0) aNil)))) sNil)⟩
def c_makes_family : Code := ⟨1, 1, sCons (sRet (eAnd (eCall "are_bags" 1 (aCons (eVar 0) aNil)) (eBin gIs (eCall "first_bar" 1 (aCons (eVar 0) aNil)) (eCon .non)))) sNil⟩
def c_check_bags : Code := ⟨1, 1, sCons (sIf (tNotV (tVal (eCall "are_bags" 1 (aCons (eVar 0) aNil)))) (sCons sBad sNil) sNil) sNil⟩ -- ['Raise']
def c_check_family : Code := ⟨1, 1, sCons (sExpr (eCall "check_bags" 1 (aCons (eVar 0) aNil))) (sCons (sIf (tBl (eBin gIsNot (eCall "first_bar" 1 (aCons (eVar 0) aNil)) (eCon .non))) (sCons sBad sNil) sNil) sNil)⟩ -- ['Raise']
def c_check_number : Code := ⟨3, 3, sCons (sIf (tNotV (tVal (eCall "is_between" 3 (aCons (eVar 0) (aCons (eVar 1) (aCons (eVar 2) aNil)))))) (sCons sBad sNil) sNil) sNil⟩ -- ['Raise']
def c_is_family : Code := ⟨1, 1, sCons (sRet (eCall "makes_family" 1 (aCons (eVar 0) aNil))) sNil⟩
def c_bar : Code := ⟨1, 1, sCons (sExpr (eCall "check_bags" 1 (aCons (eVar 0) aNil))) (sCons (sRet (eCall "first_bar" 1 (aCons (eVar 0) aNil))) sNil)⟩
def c_beads : Code := ⟨1, 1, sCons (sExpr (eCall "check_family" 1 (aCons (eVar 0) aNil))) (sCons (sRet (eCall "bead_count" 1 (aCons (eVar 0) aNil))) sNil)⟩
def c_degrees : Code := ⟨1, 1, sCons (sExpr (eCall "check_family" 1 (aCons (eVar 0) aNil))) (sCons (sRet (eArgs oTuple (aCons (eCall "degrees_of" 1 (aCons (eVar 0) aNil)) aNil))) sNil)⟩
def c_sizes : Code := ⟨1, 2, sCons (sExpr (eCall "check_family" 1 (aCons (eVar 0) aNil))) (sCons (sRet (eArgs oTuple (aCons (eArgs oSorted (aCons (eLC (iVal (eVar 0)) (tgName 1) [1] tYesV (eArgs oLen (aCons (eVar 1) aNil))) aNil)) aNil))) sNil)⟩
def c_one_bag : Code := ⟨1, 1, sCons (sExpr (eCall "check_number" 3 (aCons (eVar 0) (aCons (eCon (.int 2)) (aCons (eCon (.int 60)) aNil))))) (sCons (sRet (eTup (aCons (eTupR (rg1 (eVar 0))) aNil))) sNil)⟩
def c_rank : Code := ⟨1, 1, sCons (sExpr (eCall "check_family" 1 (aCons (eVar 0) aNil))) (sCons (sRet (eBin gSub (eArgs oLen (aCons (eVar 0) aNil)) (eCon (.int 1)))) sNil)⟩
def c_law_taken : Code := ⟨2, 4, sCons (sIf (tBl (eBin gGt (eBin gIx (eVar 0) (eCon (.int 3))) (eCon (.int 0)))) (sCons (sAsg (eBin gMod (eArgs oInt (aCons (eBin gIx (eVar 0) (eCon (.int 3))) aNil)) (eVar 1)) (tgName 3)) (sCons (sSetIx (eBin gDiv (eBin gIx (eVar 0) (eCon (.int 3))) (eVar 1)) (eVar 0) (eCon (.int 3))) (sCons (sRet (eVar 3)) sNil))) sNil) (sCons (sSetIx (eBin gAdd (eBin gIx (eVar 0) (eCon (.int 1))) (eCon (.int 1))) (eVar 0) (eCon (.int 1))) (sCons (sIf (tBl (eBin gGt (eBin gIx (eVar 0) (eCon (.int 1))) (eArgs oLen (aCons (eBin gIx (eVar 0) (eCon (.int 0))) aNil)))) (sCons (sSetIx (eBin gMod (eArgs oInt (aCons (eBin gAdd (eBin gMul (eBin gIx (eVar 0) (eCon (.int 2))) (eCon (.int 48271))) (eCon (.int 11))) aNil)) (eCon (.int 2147483647))) (eVar 0) (eCon (.int 2))) (sCons (sRet (eBin gMod (eArgs oInt (aCons (eBin gDiv (eBin gIx (eVar 0) (eCon (.int 2))) (eCon (.int 7))) aNil)) (eVar 1))) sNil)) sNil) (sCons (sAsg (eBin gIx (eBin gIx (eVar 0) (eCon (.int 0))) (eBin gSub (eBin gIx (eVar 0) (eCon (.int 1))) (eCon (.int 1)))) (tgName 2)) (sCons (sSetIx (eBin gMod (eArgs oInt (aCons (eBin gAdd (eBin gAdd (eBin gMul (eBin gIx (eVar 0) (eCon (.int 2))) (eCon (.int 48271))) (eVar 2)) (eCon (.int 11))) aNil)) (eCon (.int 2147483647))) (eVar 0) (eCon (.int 2))) (sCons (sIf (tBl (eBin gGe (eVar 2) (eBin gPow (eCon (.int 10)) (eCon (.int 18))))) (sCons (sSetIx (eBin gDiv (eVar 2) (eVar 1)) (eVar 0) (eCon (.int 3))) sNil) sNil) (sCons (sRet (eBin gMod (eArgs oInt (aCons (eVar 2) aNil)) (eVar 1))) sNil))))))⟩
def c_law_pick : Code := ⟨2, 2, sCons (sRet (eBin gIx (eVar 1) (eCall "_law_taken" 2 (aCons (eVar 0) (aCons (eArgs oLen (aCons (eVar 1) aNil)) aNil))))) sNil⟩
def c_law_alike : Code := ⟨2, 3, sCons (sIf (tVal (eArgs oIsi (aCons (eVar 1) (aCons (eTup (aCons (eCon (.ty "tuple")) (aCons (eCon (.ty "list")) aNil))) aNil)))) (sCons (sIf (tOrV (tNotV (tVal (eArgs oIsi (aCons (eVar 0) (aCons (eTup (aCons (eCon (.ty "tuple")) (aCons (eCon (.ty "list")) aNil))) aNil))))) (tBl (eBin gNe (eArgs oIsi (aCons (eVar 0) (aCons (eCon (.ty "list")) aNil))) (eArgs oIsi (aCons (eVar 1) (aCons (eCon (.ty "list")) aNil)))))) (sCons (sRet (eCon (.bl false))) sNil) sNil) (sCons (sIf (tBl (eBin gNe (eArgs oLen (aCons (eVar 0) aNil)) (eArgs oLen (aCons (eVar 1) aNil)))) (sCons (sRet (eCon (.bl false))) sNil) sNil) (sCons (sRet (eBin gEq (eLC (iRng (rg1 (eArgs oLen (aCons (eVar 1) aNil)))) (tgName 2) [2] (tNotV (tVal (eCall "_law_alike" 2 (aCons (eBin gIx (eVar 0) (eVar 2)) (aCons (eBin gIx (eVar 1) (eVar 2)) aNil))))) (eVar 2)) (eLst aNil))) sNil))) sNil) (sCons (sIf (tOrV (tBl (eBin gIs (eVar 1) (eCon .non))) (tVal (eArgs oIsi (aCons (eVar 1) (aCons (eCon (.ty "str")) aNil))))) (sCons (sRet (eAnd (eBin gEq (eVar 0) (eVar 1)) (eBin gEq (eArgs oIsi (aCons (eVar 0) (aCons (eCon (.ty "str")) aNil))) (eArgs oIsi (aCons (eVar 1) (aCons (eCon (.ty "str")) aNil)))))) sNil) sNil) (sCons (sRet (eAnd (eArgs oIsi (aCons (eVar 0) (aCons (eCon (.ty "int")) aNil))) (eAnd (eBin gEq (eArgs oIsi (aCons (eVar 0) (aCons (eCon (.ty "bool")) aNil))) (eArgs oIsi (aCons (eVar 1) (aCons (eCon (.ty "bool")) aNil)))) (eBin gEq (eVar 0) (eVar 1))))) sNil))⟩
def c_law_mixed : Code := ⟨2, 5, sCons (sPar2 3 4 (aCons (eArgs oList (aCons (eVar 1) aNil)) (aCons (eLst aNil) aNil))) (sCons (sFor (iRng (rg1 (eArgs oLen (aCons (eVar 3) aNil)))) (tgName 2) (sCons (sExpr (eMl mAppend (eVar 4) (aCons (eMl mPop (eVar 3) (aCons (eCall "_law_taken" 2 (aCons (eVar 0) (aCons (eArgs oLen (aCons (eVar 3) aNil)) aNil))) aNil)) aNil))) sNil)) (sCons (sRet (eVar 4)) sNil))⟩
def c_law_named : Code := ⟨2, 4, sCons (sRet (eArgs oTuple (aCons (eArgs oSorted (aCons (eLC (iVal (eVar 0)) (tgName 2) [2] tYesV (eArgs oTuple (aCons (eArgs oSorted (aCons (eLC (iVal (eVar 2)) (tgName 3) [3] tYesV (eBin gIx (eVar 1) (eVar 3))) aNil)) aNil))) aNil)) aNil))) sNil⟩
def c_law_family : Code := ⟨2, 6, sCons (sPar2 4 5 (aCons (eBin gAdd (eCon (.int 2)) (eCall "_law_taken" 2 (aCons (eVar 0) (aCons (eBin gSub (eVar 1) (eCon (.int 1))) aNil)))) (aCons (eCall "_law_pick" 2 (aCons (eVar 0) (aCons (eLst (aCons (eCon (.int 2)) (aCons (eCon (.int 3)) (aCons (eCon (.int 3)) (aCons (eCon (.int 4)) (aCons (eCon (.int 9)) aNil)))))) aNil))) aNil))) (sCons (sAsg (eLst (aCons (eLst (aCons (eCon (.int 0)) (aCons (eCon (.int 1)) aNil))) aNil)) (tgName 2)) (sCons (sFor (iRng (rg2 (eCon (.int 2)) (eVar 4))) (tgName 3) (sCons (sIf (tBl (eBin gEq (eCall "_law_taken" 2 (aCons (eVar 0) (aCons (eVar 5) aNil))) (eCon (.int 0)))) (sCons (sExpr (eMl mAppend (eBin gIx (eVar 2) (eCall "_law_taken" 2 (aCons (eVar 0) (aCons (eArgs oLen (aCons (eVar 2) aNil)) aNil)))) (aCons (eVar 3) aNil))) sNil) (sCons (sExpr (eMl mAppend (eVar 2) (aCons (eLst (aCons (eCall "_law_taken" 2 (aCons (eVar 0) (aCons (eVar 3) aNil))) (aCons (eVar 3) aNil))) aNil))) sNil)) sNil)) (sCons (sRet (eCall "_law_named" 2 (aCons (eVar 2) (aCons (eCall "_law_mixed" 2 (aCons (eVar 0) (aCons (eLstR (rg1 (eVar 4))) aNil))) aNil)))) sNil)))⟩
def c_law_size : Code := ⟨1, 2, sCons (sRet (eBin gAdd (eCon (.int 1)) (eArgs oMax (aCons (eLC (iVal (eVar 0)) (tgName 1) [1] tYesV (eBin gIx (eVar 1) (eUn gNeg (eCon (.int 1))))) aNil)))) sNil⟩
def c_law_k00 : Code := ⟨1, 6, sCons (sAsg (eLst (aCons (eVar 0) (aCons (eCon (.int 0)) (aCons (eCon (.int 5200)) (aCons (eCon (.int 0)) aNil))))) (tgName 1)) (sCons (sAsg (eCall "_law_family" 2 (aCons (eVar 1) (aCons (eCall "_law_pick" 2 (aCons (eVar 1) (aCons (eLst (aCons (eCon (.int 6)) (aCons (eCon (.int 20)) (aCons (eCon (.int 60)) aNil)))) aNil))) aNil))) (tgName 2)) (sCons (sAsg (eCall "_law_size" 1 (aCons (eVar 2) aNil)) (tgName 3)) (sCons (sIf (tOrV (tNotV (tVal (eCall "_law_alike" 2 (aCons (eCall "beads" 1 (aCons (eVar 2) aNil)) (aCons (eVar 3) aNil))))) (tOrV (tBl (eBin gIsNot (eCall "is_family" 1 (aCons (eVar 2) aNil)) (eCon (.bl true)))) (tBl (eBin gIsNot (eCall "bar" 1 (aCons (eVar 2) aNil)) (eCon .non))))) (sCons (sRet (eCon (.bl false))) sNil) sNil) (sCons (sIf (tNotV (tVal (eCall "_law_alike" 2 (aCons (eCall "degrees" 1 (aCons (eVar 2) aNil)) (aCons (eArgs oTuple (aCons (eLC (iRng (rg1 (eVar 3))) (tgName 4) [4] tYesV (eArgs oLen (aCons (eLC (iVal (eVar 2)) (tgName 5) [5] (tBl (eBin gIn (eVar 4) (eVar 5))) (eCon (.int 1))) aNil))) aNil)) aNil))))) (sCons (sRet (eCon (.bl false))) sNil) sNil) (sCons (sIf (tOrV (tNotV (tVal (eCall "_law_alike" 2 (aCons (eCall "sizes" 1 (aCons (eVar 2) aNil)) (aCons (eArgs oTuple (aCons (eArgs oSorted (aCons (eLC (iVal (eVar 2)) (tgName 5) [5] tYesV (eArgs oLen (aCons (eVar 5) aNil))) aNil)) aNil)) aNil))))) (tNotV (tVal (eCall "_law_alike" 2 (aCons (eCall "rank" 1 (aCons (eVar 2) aNil)) (aCons (eBin gSub (eArgs oLen (aCons (eVar 2) aNil)) (eCon (.int 1))) aNil)))))) (sCons (sRet (eCon (.bl false))) sNil) sNil) (sCons (sRet (eCall "_law_alike" 2 (aCons (eCall "one_bag" 1 (aCons (eVar 3) aNil)) (aCons (eTup (aCons (eTupR (rg1 (eVar 3))) aNil)) aNil)))) sNil))))))⟩
def md_k00 : Md := [(("mask_of" : Str), c_mask_of), (("masks_of" : Str), c_masks_of), (("holds_two" : Str), c_holds_two), (("missing_bead" : Str), c_missing_bead), (("first_double" : Str), c_first_double), (("hanging_with_first" : Str), c_hanging_with_first), (("twice_held" : Str), c_twice_held), (("left_in_rings" : Str), c_left_in_rings), (("first_bar" : Str), c_first_bar), (("bead_count" : Str), c_bead_count), (("degrees_of" : Str), c_degrees_of), (("is_integer" : Str), c_is_integer), (("is_between" : Str), c_is_between), (("is_ascending" : Str), c_is_ascending), (("are_integers" : Str), c_are_integers), (("is_bead_tuple" : Str), c_is_bead_tuple), (("is_bag" : Str), c_is_bag), (("are_bags" : Str), c_are_bags), (("makes_family" : Str), c_makes_family), (("check_bags" : Str), c_check_bags), (("check_family" : Str), c_check_family), (("check_number" : Str), c_check_number), (("is_family" : Str), c_is_family), (("bar" : Str), c_bar), (("beads" : Str), c_beads), (("degrees" : Str), c_degrees), (("sizes" : Str), c_sizes), (("one_bag" : Str), c_one_bag), (("rank" : Str), c_rank), (("_law_taken" : Str), c_law_taken), (("_law_pick" : Str), c_law_pick), (("_law_alike" : Str), c_law_alike), (("_law_mixed" : Str), c_law_mixed), (("_law_named" : Str), c_law_named), (("_law_family" : Str), c_law_family), (("_law_size" : Str), c_law_size), (("law" : Str), c_law_k00)]
end PV
end

section
set_option Elab.async false
set_option linter.all false
set_option maxRecDepth 100000
set_option maxHeartbeats 4000000
/-! V20: reasoning about what the text computes. -/
namespace PV
open PySem PySem.Spec PyProof.Rows L2

/-- an answer of which P holds -/
def Ok {α : Type} (r : Res α) (P : α → Hs → Prop) : Prop := match r with
  | .ok a h => P a h
  | _ => False
/-- ends of a statement -/
structure Ek where
  nx : Env' → Hs → Prop
  rt : D → Hs → Prop := fun _ _ => False
  bk : Env' → Hs → Prop := fun _ _ => False
  ct : Env' → Hs → Prop := fun _ _ => False
def Sk (r : RS) (E : Ek) : Prop := match r with
  | .nx e h => E.nx e h
  | .rt d h => E.rt d h
  | .bk e h => E.bk e h
  | .ct e h => E.ct e h
  | _ => False
section
variable {α β : Type} {P Q : α → Hs → Prop} {r : Res α} {h : Hs} {E : Ek} {C : CF} {env : Env'}
theorem Ok.ok {a : α} : Ok (.ok a h) P ↔ P a h := Iff.rfl
theorem Ok.bind {f : α → Hs → Res β} {P : β → Hs → Prop} : Ok (r.bind f) P ↔ Ok r fun a h => Ok (f a h) P := by cases r <;> exact Iff.rfl
theorem Ok.chk {b : Bool} : Ok (chk b r) P ↔ b = true ∧ Ok r P := by
  cases b
  · exact ⟨fun z => z.elim, fun z => nomatch z.1⟩
  · exact ⟨fun z => ⟨rfl, z⟩, fun z => z.2⟩
theorem Ok.opt {o : Option β} {f : β → Res α} : Ok (opt o f) P ↔ ∃ a, o = some a ∧ Ok (f a) P := by
  cases o
  · exact ⟨fun z => z.elim, fun ⟨_, z, _⟩ => nomatch z⟩
  · exact ⟨fun z => ⟨_, rfl, z⟩, fun ⟨_, e, z⟩ => by cases e; exact z⟩
theorem Ok.mono (k : Ok r P) (i : ∀ a h, P a h → Q a h) : Ok r Q := by cases r <;> first | exact i _ _ k | exact k
theorem Ok.eq (k : Ok r P) : ∃ a h, r = .ok a h ∧ P a h := by cases r <;> first | exact ⟨_, _, rfl, k⟩ | exact k.elim
theorem Ok.of {a : α} (e : r = .ok a h) (p : P a h) : Ok r P := by rw [e]; exact p
theorem Sk.toS {f : α → Hs → RS} : Sk (r.toS f) E ↔ Ok r fun a h => Sk (f a h) E := by cases r <;> exact Iff.rfl
theorem Sk.seq {s : RS} {f : Env' → Hs → RS} : Sk (s.seq f) E ↔ Sk s { E with nx := fun e h => Sk (f e h) E } := by cases s <;> exact Iff.rfl
theorem Sk.turn {s : RS} {f : Env' → Hs → RS} : Sk (s.turn f) E ↔ Sk s { E with nx := fun e h => Sk (f e h) E, ct := fun e h => Sk (f e h) E, bk := E.nx } := by cases s <;> exact Iff.rfl
theorem Sk.nx {e : Env'} : Sk (.nx e h) E ↔ E.nx e h := Iff.rfl
theorem Sk.rt {d : D} : Sk (.rt d h) E ↔ E.rt d h := Iff.rfl
theorem Sk.toR {s : RS} {P : D → Hs → Prop} : Ok s.toR P ↔ Sk s { nx := fun _ h => P .non h, rt := P } := by cases s <;> exact Iff.rfl
theorem Sk.mono {s : RS} {E' : Ek} (k : Sk s E) (h1 : ∀ e h, E.nx e h → E'.nx e h) (h2 : ∀ d h, E.rt d h → E'.rt d h) (h3 : ∀ e h, E.bk e h → E'.bk e h) (h4 : ∀ e h, E.ct e h → E'.ct e h) : Sk s E' := by
  cases s <;> first | exact h1 _ _ k | exact h2 _ _ k | exact h3 _ _ k | exact h4 _ _ k | exact k
/-! ### statements -/
theorem Sk.cons {a b : Sv} : Sk (sCons a b C env h) E ↔ Sk (a C env h) { E with nx := fun e h => Sk (b C e h) E } := Sk.seq
theorem Sk.nil : Sk (sNil C env h) E ↔ E.nx env h := Iff.rfl
theorem Sk.expr {a : Ev} : Sk (sExpr a C env h) E ↔ Ok (a C env h) fun _ h1 => E.nx env h1 := Sk.toS
theorem Sk.ret {a : Ev} : Sk (sRet a C env h) E ↔ Ok (a C env h) fun d h1 => E.rt d h1 := Sk.toS
theorem Sk.retN : Sk (sRetN C env h) E ↔ E.rt .non h := Iff.rfl
theorem Sk.asg {a : Ev} {t : Tg} : Sk (sAsg a t C env h) E ↔ Ok (a C env h) fun d h1 => Ok (t.run d env h1) fun e h2 => E.nx e h2 := by
  unfold sAsg
  rw [Sk.toS]
  constructor
  · exact fun z => z.mono fun d h1 w => by rw [Sk.toS] at w; exact w
  · exact fun z => z.mono fun d h1 w => by rw [Sk.toS]; exact w
theorem Sk.if_ {t : Tv} {a b : Sv} : Sk (sIf t a b C env h) E ↔ Ok (t C env h) fun k h1 => Sk (if k = true then a C env h1 else b C env h1) E := Sk.toS
theorem Sk.for_ {it : Iv} {t : Tg} {b : Sv} : Sk (sFor it t b C env h) E ↔ Ok (it C env h) fun src h1 => Sk (forS C src t b (src.size h1 + 1) 0 env h1) E := Sk.toS
theorem Sk.while_ {t : Tv} {b : Sv} : Sk (sWhile t b C env h) E ↔ Sk (whileS C t b 1000000 env h) E := Iff.rfl
theorem Ok.res {a : α} (e : r = .ok a h) : Ok r P ↔ P a h := by rw [e]; exact Iff.rfl
theorem Ok.tg {i : Nat} {d : D} {P : Env' → Hs → Prop} : Ok ((tgName i).run d env h) P ↔ P (env.set i (some d)) h := Iff.rfl
theorem Ok.con {d : D} {P : D → Hs → Prop} : Ok (eCon d C env h) P ↔ P d h := Iff.rfl
theorem Ok.val {a : α} (k : Ok r fun v h' => v = a ∧ h' = h) : r = .ok a h := by
  obtain ⟨v, h', e, rfl, rfl⟩ := k.eq
  exact e
/-! ### calls -/
theorem run_at {M : Md} {k : Nat} {x : Str} {ds : List D} {c : Code} (e : M.lookup x = some c) (hl : ds.length = c.np) : run M (k + 1) x ds h = (c.body (Cn M k) (ds.map some ++ List.replicate (c.nl - c.np) none) h).toR := by
  rw [run_succ]
  unfold stepC
  rw [e]
  simp only
  rw [if_pos hl]
theorem Cn_zero (M : Md) (k : Nat) (x : Str) (ds : List D) : (Cn M k).fn 0 x ds h = run M k x ds h := rfl
theorem goF_succ (M : Md) (k : Nat) (f : Ev) : goF f (Cn M (k + 1)) env h = f (Cn M (k + 1)) env h := rfl
/-! ### loops -/
variable {src : Src} {t : Tg} {e0 : Env'} {kk : Env' → Hs → α → Res α}
theorem loopB_from (xs : List D) (I : Nat → Hs → α → Prop) (get : ∀ i h acc, I i h acc → src.get h i = some xs[i]?)
    (step : ∀ i d h acc, xs[i]? = some d → I i h acc → Ok (t.run d e0 h) fun e h1 => Ok (kk e h1 acc) fun acc' h2 => I (i + 1) h2 acc') :
    ∀ (m i n : Nat) (h : Hs) (acc : α), i + m = xs.length → m + 1 ≤ n → I i h acc → Ok (loopB src t e0 kk n i h acc) fun acc' h' => I xs.length h' acc' := by
  intro m
  induction m with
  | zero =>
    intro i n h acc hi hn hI
    obtain ⟨n, rfl⟩ : ∃ k, n = k + 1 := ⟨n - 1, by omega⟩
    rw [loopB, get i h acc hI, List.getElem?_eq_none (by omega)]
    have : i = xs.length := by omega
    rw [this] at hI
    exact hI
  | succ m ih =>
    intro i n h acc hi hn hI
    obtain ⟨n, rfl⟩ : ∃ k, n = k + 1 := ⟨n - 1, by omega⟩
    have hx : xs[i]? = some xs[i] := List.getElem?_eq_getElem (by omega)
    rw [loopB, get i h acc hI, hx]
    show Ok (Res.bind _ _) _
    rw [Ok.bind]
    refine (step i xs[i] h acc hx hI).mono fun e h1 z => ?_
    rw [Ok.bind]
    exact z.mono fun acc' h2 hI' => ih (i + 1) n h2 acc' (by omega) (by omega) hI'
theorem loopB_ok {n : Nat} {acc : α} (xs : List D) (I : Nat → Hs → α → Prop) (get : ∀ i h acc, I i h acc → src.get h i = some xs[i]?) (hn : xs.length + 1 ≤ n) (h0 : I 0 h acc)
    (step : ∀ i d h acc, xs[i]? = some d → I i h acc → Ok (t.run d e0 h) fun e h1 => Ok (kk e h1 acc) fun acc' h2 => I (i + 1) h2 acc') :
    Ok (loopB src t e0 kk n 0 h acc) fun acc' h' => I xs.length h' acc' := loopB_from xs I get step xs.length 0 n h acc (by omega) hn h0
/-- items known ahead, the heap as it is -/
theorem loopB_items {n : Nat} {acc : α} {xs : List D} (f : α → D → α) (hn : xs.length + 1 ≤ n) (step : ∀ d acc, d ∈ xs → Ok (t.run d e0 h) fun e h1 => Ok (kk e h1 acc) fun acc' h2 => h2 = h ∧ acc' = f acc d) :
    loopB (.items xs) t e0 kk n 0 h acc = .ok (xs.foldl f acc) h := by
  have := loopB_ok (src := .items xs) (t := t) (e0 := e0) (kk := kk) (n := n) (h := h) (acc := acc) xs (fun i h' acc' => h' = h ∧ acc' = (xs.take i).foldl f acc) (fun _ _ _ _ => rfl) hn ⟨rfl, rfl⟩ fun i d h' acc' hx ⟨e1, e2⟩ => by
    subst e1
    refine (step d acc' (List.mem_of_getElem? hx)).mono fun e h1 z => z.mono fun a h2 ⟨e3, e4⟩ => ⟨e3, ?_⟩
    rw [e4, e2, List.take_add_one, hx, List.foldl_append]
    rfl
  obtain ⟨a, h', e1, e2, e3⟩ := this.eq
  rw [e1, e2, e3, List.take_length]
theorem loopS_items {v : Bool} {tt : Tv} {elt : Ev} {cenv : Env'} {xs : List D} (p : D → Bool) (ht : ∀ d ∈ xs, tt C (some d :: cenv) h = .ok true h) (he : ∀ d ∈ xs, elt C (some d :: cenv) h = .ok (.bl (p d)) h) :
    ∀ (m i n : Nat), i + m = xs.length → m + 1 ≤ n → loopS v (.items xs) cenv C tt elt n i h = .ok (.bl (if (xs.drop i).any (fun d => p d == v) then v else !v)) h := by
  intro m
  induction m with
  | zero =>
    intro i n hi hn
    obtain ⟨n, rfl⟩ : ∃ k, n = k + 1 := ⟨n - 1, by omega⟩
    rw [loopS]
    have e0 : Src.get (.items xs) h i = some none := by show some xs[i]? = _; rw [List.getElem?_eq_none (by omega)]
    rw [e0, List.drop_of_length_le (by omega)]
    rfl
  | succ m ih =>
    intro i n hi hn
    obtain ⟨n, rfl⟩ : ∃ k, n = k + 1 := ⟨n - 1, by omega⟩
    have hlt : i < xs.length := by omega
    have hx : xs[i]? = some xs[i] := List.getElem?_eq_getElem hlt
    have hm : xs[i] ∈ xs := List.getElem_mem hlt
    have e0 : Src.get (.items xs) h i = some (some xs[i]) := by show some xs[i]? = _; rw [hx]
    rw [loopS, e0]
    simp only [ht _ hm, he _ hm, Res.bind, if_true, blD, opt]
    rw [List.drop_eq_getElem_cons hlt, List.any_cons, ih (i + 1) n (by omega) (by omega)]
    cases hp : p xs[i] <;> cases v <;> simp
/-- for -/
theorem forS_from {body : Sv} {E : Ek} (xs : List D) (I : Nat → Env' → Hs → Prop) (get : ∀ i e h, I i e h → src.get h i = some xs[i]?) (done : ∀ e h, I xs.length e h → E.nx e h)
    (step : ∀ i d e h, xs[i]? = some d → I i e h → Ok (t.run d e h) fun e1 h1 => Sk (body C e1 h1) { nx := fun e h => I (i + 1) e h, ct := fun e h => I (i + 1) e h, bk := E.nx, rt := E.rt }) :
    ∀ (m i n : Nat) (e : Env') (h : Hs), i + m = xs.length → m + 1 ≤ n → I i e h → Sk (forS C src t body n i e h) E := by
  intro m
  induction m with
  | zero =>
    intro i n e h hi hn hI
    obtain ⟨n, rfl⟩ : ∃ k, n = k + 1 := ⟨n - 1, by omega⟩
    rw [forS, get i e h hI, List.getElem?_eq_none (by omega)]
    have : i = xs.length := by omega
    rw [this] at hI
    exact done _ _ hI
  | succ m ih =>
    intro i n e h hi hn hI
    obtain ⟨n, rfl⟩ : ∃ k, n = k + 1 := ⟨n - 1, by omega⟩
    have hx : xs[i]? = some xs[i] := List.getElem?_eq_getElem (by omega)
    rw [forS, get i e h hI, hx]
    show Sk (Res.toS _ _) _
    rw [Sk.toS]
    refine (step i xs[i] e h hx hI).mono fun e1 h1 z => ?_
    rw [Sk.turn]
    exact z.mono (fun e h hI' => ih (i + 1) n e h (by omega) (by omega) hI') (fun _ _ z => z) (fun _ _ z => z) (fun e h hI' => ih (i + 1) n e h (by omega) (by omega) hI')
theorem forS_ok {body : Sv} {E : Ek} {n : Nat} (xs : List D) (I : Nat → Env' → Hs → Prop) (get : ∀ i e h, I i e h → src.get h i = some xs[i]?) (hn : xs.length + 1 ≤ n) (h0 : I 0 env h) (done : ∀ e h, I xs.length e h → E.nx e h)
    (step : ∀ i d e h, xs[i]? = some d → I i e h → Ok (t.run d e h) fun e1 h1 => Sk (body C e1 h1) { nx := fun e h => I (i + 1) e h, ct := fun e h => I (i + 1) e h, bk := E.nx, rt := E.rt }) :
    Sk (forS C src t body n 0 env h) E := forS_from xs I get done step xs.length 0 n env h (by omega) hn h0
/-- while, by a measure below the fuel -/
theorem whileS_from {tt : Tv} {body : Sv} {E : Ek} (I : Nat → Env' → Hs → Prop)
    (step : ∀ m e h, I m e h → Ok (tt C e h) fun b h1 => if b = true then Sk (body C e h1) { nx := fun e h => ∃ m', m' < m ∧ I m' e h, ct := fun e h => ∃ m', m' < m ∧ I m' e h, bk := E.nx, rt := E.rt } else E.nx e h1) :
    ∀ (n m : Nat) (e : Env') (h : Hs), m < n → I m e h → Sk (whileS C tt body n e h) E := by
  intro n
  induction n with
  | zero => intro m e h hm; omega
  | succ n ih =>
    intro m e h hm hI
    rw [whileS, Sk.toS]
    refine (step m e h hI).mono fun b h1 z => ?_
    cases b with
    | false => exact z
    | true =>
      show Sk (RS.turn _ _) _
      rw [Sk.turn]
      have z : Sk (body C e h1) _ := z
      exact z.mono (fun e h ⟨m', h1, h2⟩ => ih m' e h (by omega) h2) (fun _ _ z => z) (fun _ _ z => z) (fun e h ⟨m', h1, h2⟩ => ih m' e h (by omega) h2)
end
end PV
end

section
/-! Bags of beads as lists of naturals, their masks, families as trees: mathematics alone. -/
namespace FM

/-- the mask of a bag -/
def mask (b : List Nat) : Nat := (b.map (2 ^ ·)).sum

theorem mask_nil : mask [] = 0 := rfl
theorem mask_snoc (b : List Nat) (x : Nat) : mask (b ++ [x]) = mask b + 2 ^ x := by
  simp [mask, List.sum_append]

/-- ascending -/
abbrev Asc (b : List Nat) : Prop := b.Pairwise (· < ·)

theorem asc_snoc {b : List Nat} {x : Nat} (h : Asc (b ++ [x])) : Asc b ∧ ∀ y ∈ b, y < x := by
  obtain ⟨h1, _, h3⟩ := List.pairwise_append.mp h
  exact ⟨h1, fun y hy => h3 y hy x (by simp)⟩

theorem rev_ind {α : Type} {P : List α → Prop} (h0 : P []) (h1 : ∀ l x, P l → P (l ++ [x])) : ∀ l, P l := by
  have key : ∀ n (l : List α), l.length = n → P l := by
    intro n
    induction n with
    | zero => intro l hl; rw [List.length_eq_zero_iff.mp hl]; exact h0
    | succ n ih =>
      intro l hl
      have hne : l ≠ [] := by intro e; rw [e] at hl; simp at hl
      rw [← List.dropLast_concat_getLast hne]
      exact h1 _ _ (ih _ (by rw [List.length_dropLast, hl]; rfl))
  exact fun l => key l.length l rfl

theorem mask_lt : ∀ (b : List Nat), Asc b → ∀ n, (∀ y ∈ b, y < n) → mask b < 2 ^ n := by
  intro b
  refine rev_ind (P := fun b => Asc b → ∀ n, (∀ y ∈ b, y < n) → mask b < 2 ^ n) ?_ ?_ b
  · intro _ n _
    rw [mask_nil]
    exact Nat.two_pow_pos n
  · intro l x ih h n hn
    obtain ⟨h1, h2⟩ := asc_snoc h
    have a := ih h1 x h2
    have hx : x < n := hn x (by simp)
    have e : 2 ^ (x + 1) ≤ 2 ^ n := Nat.pow_le_pow_right (by decide) hx
    rw [mask_snoc]
    rw [Nat.pow_succ] at e
    omega

theorem mask_bit : ∀ (b : List Nat), Asc b → ∀ k, (mask b).testBit k = decide (k ∈ b) := by
  intro b
  refine rev_ind (P := fun b => Asc b → ∀ k, (mask b).testBit k = decide (k ∈ b)) ?_ ?_ b
  · intro _ k
    simp [mask_nil]
  · intro l x ih h k
    obtain ⟨h1, h2⟩ := asc_snoc h
    have a := mask_lt l h1 x h2
    have i := ih h1 k
    rw [mask_snoc, Nat.add_comm]
    rcases Nat.lt_trichotomy k x with q | q | q
    · rw [Nat.testBit_two_pow_add_gt q, i]
      simp [Nat.ne_of_lt q]
    · subst q
      rw [Nat.testBit_two_pow_add_eq, Nat.testBit_lt_two_pow a]
      simp
    · have : 2 ^ x + mask l < 2 ^ k := by
        have e : 2 ^ (x + 1) ≤ 2 ^ k := Nat.pow_le_pow_right (by decide) q
        rw [Nat.pow_succ] at e
        omega
      rw [Nat.testBit_lt_two_pow this]
      have n1 : k ∉ l := fun z => absurd (h2 k z) (by omega)
      simp [n1]
      omega

/-- two bits or more -/
theorem holds_two {m : Nat} : (m &&& (m - 1)) ≠ 0 ↔ ∃ i j, i < j ∧ m.testBit i = true ∧ m.testBit j = true := by
  constructor
  · intro h
    apply Classical.byContradiction
    intro hn
    apply h
    apply Nat.eq_of_testBit_eq
    intro k
    rw [Nat.testBit_and, Nat.zero_testBit]
    by_cases hm : m = 0
    · subst hm; simp
    · -- one bit alone: m = 2 ^ i
      obtain ⟨i, hi⟩ := Nat.exists_testBit_of_ne_zero hm
      have e : m = 2 ^ i := by
        apply Nat.eq_of_testBit_eq
        intro j
        rw [Nat.testBit_two_pow]
        by_cases e : i = j
        · subst e; simp [hi]
        · simp only [e, decide_false]
          cases q : m.testBit j with
          | false => rfl
          | true =>
            exfalso
            apply hn
            rcases Nat.lt_or_gt_of_ne e with c | c
            · exact ⟨i, j, c, hi, q⟩
            · exact ⟨j, i, c, q, hi⟩
      rw [e, Nat.testBit_two_pow, Nat.testBit_two_pow_sub_one]
      by_cases c : i = k
      · subst c; simp
      · simp [c]
  · intro ⟨i, j, hij, hi, hj⟩ h
    have e : (m &&& (m - 1)).testBit j = true := by
      rw [Nat.testBit_and, hj, Bool.true_and]
      have r1 : (m % 2 ^ j).testBit i = true := by rw [Nat.testBit_mod_two_pow, hi]; simp [hij]
      have r2 : m % 2 ^ j ≠ 0 := fun z => by rw [z] at r1; simp at r1
      have r3 := Nat.div_add_mod m (2 ^ j)
      have r4 : m % 2 ^ j < 2 ^ j := Nat.mod_lt _ (Nat.two_pow_pos j)
      have r5 : (m - 1) / 2 ^ j = m / 2 ^ j := by
        have hp := Nat.two_pow_pos j
        generalize 2 ^ j = B at r2 r3 r4 hp ⊢
        generalize hd : m / B = d at r3 ⊢
        generalize m % B = r at r2 r3 r4
        have q : m - 1 = B * d + (r - 1) := by omega
        rw [q, Nat.mul_add_div hp, Nat.div_eq_of_lt (by omega)]
        rfl
      rw [Nat.testBit_eq_decide_div_mod_eq, r5, ← Nat.testBit_eq_decide_div_mod_eq]
      exact hj
    rw [h] at e
    simp at e

/-! ### what bars bags from being a family, over masks -/
/-- all bits of the masks -/
def held (ms : List Nat) : Nat := ms.foldl (· ||| ·) 0
theorem foldl_or_bit : ∀ (ms : List Nat) (a k : Nat), (ms.foldl (· ||| ·) a).testBit k = (a.testBit k || ms.any (·.testBit k))
  | [], a, k => by simp
  | m :: r, a, k => by
    rw [List.foldl_cons, foldl_or_bit r, Nat.testBit_or, List.any_cons, Bool.or_assoc]
theorem held_bit (ms : List Nat) (k : Nat) : (held ms).testBit k = ms.any (·.testBit k) := by
  rw [held, foldl_or_bit]; simp

/-- once, twice: as the loop grows them -/
def tw (p : Nat × Nat) (m : Nat) : Nat × Nat := (p.1 ||| m, p.2 ||| (p.1 &&& m))
def twice (ms : List Nat) : Nat := (ms.foldl tw (0, 0)).2
theorem tw_once : ∀ (ms : List Nat) (p : Nat × Nat), (ms.foldl tw p).1 = ms.foldl (· ||| ·) p.1
  | [], _ => rfl
  | m :: r, p => by rw [List.foldl_cons, tw_once r]; rfl
/-- two of the masks, at different places, hold the bit -/
theorem tw_bit : ∀ (ms : List Nat) (p : Nat × Nat) (k : Nat), (ms.foldl tw p).2.testBit k = true →
    p.2.testBit k = true ∨ (p.1.testBit k = true ∧ ∃ (j m : Nat), ms[j]? = some m ∧ m.testBit k = true) ∨ ∃ (i j a b : Nat), i < j ∧ ms[i]? = some a ∧ ms[j]? = some b ∧ a.testBit k = true ∧ b.testBit k = true
  | [], p, k, h => .inl h
  | m :: r, p, k, h => by
    rw [List.foldl_cons] at h
    rcases tw_bit r (tw p m) k h with q | ⟨q1, j, x, q2, q3⟩ | ⟨i, j, a, b, q1, q2, q3, q4, q5⟩
    · have q : (p.2 ||| (p.1 &&& m)).testBit k = true := q
      rw [Nat.testBit_or, Nat.testBit_and, Bool.or_eq_true, Bool.and_eq_true] at q
      rcases q with q | ⟨q, z⟩
      · exact .inl q
      · exact .inr (.inl ⟨q, 0, m, rfl, z⟩)
    · have q1 : (p.1 ||| m).testBit k = true := q1
      rw [Nat.testBit_or, Bool.or_eq_true] at q1
      rcases q1 with q1 | q1
      · exact .inr (.inl ⟨q1, j + 1, x, q2, q3⟩)
      · exact .inr (.inr ⟨0, j + 1, m, x, by omega, rfl, q2, q1, q3⟩)
    · exact .inr (.inr ⟨i + 1, j + 1, a, b, by omega, q2, q3, q4, q5⟩)
theorem twice_bit {ms : List Nat} {k : Nat} (h : (twice ms).testBit k = true) : ∃ (i j a b : Nat), i < j ∧ ms[i]? = some a ∧ ms[j]? = some b ∧ a.testBit k = true ∧ b.testBit k = true := by
  rcases tw_bit ms (0, 0) k h with q | ⟨q, _⟩ | q
  · simp at q
  · simp at q
  · exact q

/-! ### the bags that hang together with the first one -/
def grow1 (g m : Nat) : Nat := if m &&& g ≠ 0 then g ||| m else g
def grow (ms : List Nat) (g : Nat) : Nat := ms.foldl grow1 g
theorem grow1_le (g m : Nat) : g ≤ grow1 g m := by
  unfold grow1
  split
  · exact Nat.left_le_or
  · exact Nat.le_refl _
theorem grow_le : ∀ (ms : List Nat) (g : Nat), g ≤ grow ms g
  | [], g => Nat.le_refl _
  | m :: r, g => Nat.le_trans (grow1_le g m) (grow_le r (grow1 g m))
theorem grow_lt {n : Nat} : ∀ (ms : List Nat) (g : Nat), g < 2 ^ n → (∀ m ∈ ms, m < 2 ^ n) → grow ms g < 2 ^ n
  | [], g, h, _ => h
  | m :: r, g, h, hm => by
    refine grow_lt r (grow1 g m) ?_ fun x hx => hm x (by simp [hx])
    unfold grow1
    split
    · exact Nat.or_lt_two_pow h (hm m (by simp))
    · exact h
theorem grow_zero : ∀ ms : List Nat, grow ms 0 = 0
  | [] => rfl
  | m :: r => by
    show grow r (grow1 0 m) = 0
    have : grow1 0 m = 0 := by simp [grow1]
    rw [this]
    exact grow_zero r
theorem grow_fix : ∀ (ms : List Nat) (g : Nat), grow ms g = g → ∀ m ∈ ms, m &&& g ≠ 0 → g ||| m = g
  | [], _, _, m, hm, _ => by simp at hm
  | x :: r, g, h, m, hm, hne => by
    have h : grow r (grow1 g x) = g := h
    have a := grow1_le g x
    have b := grow_le r (grow1 g x)
    have e : grow1 g x = g := by omega
    rcases List.mem_cons.mp hm with z | z
    · subst z
      unfold grow1 at e
      rw [if_pos hne] at e
      exact e
    · rw [e] at h
      exact grow_fix r g h m z hne
theorem grow_bits : ∀ (ms : List Nat) (g k : Nat), g.testBit k = true → (grow ms g).testBit k = true
  | [], _, _, h => h
  | m :: r, g, k, h => by
    refine grow_bits r (grow1 g m) k ?_
    unfold grow1
    split
    · rw [Nat.testBit_or, h]; rfl
    · exact h

/-! ### families as trees -/
/-- a bead of a bag that is not the one nearest to the root -/
def Own (rk : Nat → Nat) (b : List Nat) (x : Nat) : Prop := x ∈ b ∧ ∃ y ∈ b, rk y < rk x
/-- bags that make a tree with the beads 0 .. n - 1: rk orders the beads from a root on -/
structure Tree (n : Nat) (bs : List (List Nat)) (rk : Nat → Nat) : Prop where
  asc : ∀ b ∈ bs, Asc b
  two : ∀ b ∈ bs, 2 ≤ b.length
  lt : ∀ b ∈ bs, ∀ x ∈ b, x < n
  inj : ∀ x y, x < n → y < n → rk x = rk y → x = y
  uniq : ∀ (i j : Nat) (a b : List Nat) (x : Nat), bs[i]? = some a → bs[j]? = some b → Own rk a x → Own rk b x → i = j
  root : ∃ r, r < n ∧ (∃ b ∈ bs, r ∈ b) ∧ ∀ x, x < n → x ≠ r → ∃ b ∈ bs, Own rk b x

section
variable {n : Nat} {bs : List (List Nat)} {rk : Nat → Nat}
/-- two bags share one bead at most -/
theorem Tree.one (T : Tree n bs rk) {i j : Nat} {a b : List Nat} {x y : Nat} (hij : i ≠ j) (ha : bs[i]? = some a) (hb : bs[j]? = some b) (xa : x ∈ a) (xb : x ∈ b) (ya : y ∈ a) (yb : y ∈ b) : x = y := by
  apply Classical.byContradiction
  intro hne
  have lx := T.lt a (List.mem_of_getElem? ha) x xa
  have ly := T.lt a (List.mem_of_getElem? ha) y ya
  have hr : rk x ≠ rk y := fun e => hne (T.inj x y lx ly e)
  rcases Nat.lt_or_gt_of_ne hr with q | q
  · exact hij (T.uniq i j a b y ha hb ⟨ya, x, xa, q⟩ ⟨yb, x, xb, q⟩)
  · exact hij (T.uniq i j a b x ha hb ⟨xa, y, ya, q⟩ ⟨xb, y, yb, q⟩)
/-- every bead lies in a bag -/
theorem Tree.cover (T : Tree n bs rk) {x : Nat} (h : x < n) : ∃ b ∈ bs, x ∈ b := by
  obtain ⟨r, _, hr, ho⟩ := T.root
  by_cases e : x = r
  · rw [e]; exact hr
  · obtain ⟨b, hb, q⟩ := ho x h e
    exact ⟨b, hb, q.1⟩
theorem Tree.two_le (T : Tree n bs rk) : 2 ≤ n := by
  obtain ⟨r, _, ⟨b, hb, _⟩, _⟩ := T.root
  have a := T.asc b hb
  have t := T.two b hb
  match b, a, t, T.lt b hb with
  | x :: y :: l, a, _, l1 =>
    have h1 : x < y := (List.pairwise_cons.mp a).1 y (by simp)
    have h2 := l1 y (by simp)
    omega
/-- a set of beads that every bag that meets it lies in, and that some bag meets, is all -/
theorem Tree.hang (T : Tree n bs rk) (S : Nat → Prop) (hS : ∀ b ∈ bs, ∀ x ∈ b, S x → ∀ y ∈ b, S y) (h0 : ∃ x, x < n ∧ S x) : ∀ x, x < n → S x := by
  obtain ⟨r, hr, _, ho⟩ := T.root
  -- up to the root
  have up : ∀ k x, rk x = k → x < n → S x → S r := by
    intro k
    induction k using Nat.strongRecOn with
    | ind k ih =>
      intro x hk hx hs
      by_cases e : x = r
      · rw [← e]; exact hs
      · obtain ⟨b, hb, hxb, y, hy, hlt⟩ := ho x hx e
        exact ih (rk y) (by omega) y rfl (T.lt b hb y hy) (hS b hb x hxb hs y hy)
  obtain ⟨x0, hx0, s0⟩ := h0
  have sr := up _ x0 rfl hx0 s0
  -- and down again
  have down : ∀ k x, rk x = k → x < n → S x := by
    intro k
    induction k using Nat.strongRecOn with
    | ind k ih =>
      intro x hk hx
      by_cases e : x = r
      · rw [e]; exact sr
      · obtain ⟨b, hb, hxb, y, hy, hlt⟩ := ho x hx e
        exact hS b hb y hy (ih (rk y) (by omega) y rfl (T.lt b hb y hy)) x hxb
  exact fun x hx => down _ x rfl hx
/-- no bags of which each shares two beads with others of them -/
theorem Tree.ring (T : Tree n bs rk) (L : List Nat) (h : ∀ k ∈ L, ∃ b : List Nat, bs[k]? = some b ∧ ∃ x y : Nat, x ≠ y ∧ x ∈ b ∧ y ∈ b ∧ (∃ (j : Nat) (c : List Nat), j ∈ L ∧ j ≠ k ∧ bs[j]? = some c ∧ x ∈ c) ∧ ∃ (j : Nat) (c : List Nat), j ∈ L ∧ j ≠ k ∧ bs[j]? = some c ∧ y ∈ c) : L = [] := by
  have bound : ∀ n, ∃ M, ∀ x, x < n → rk x < M := by
    intro n
    induction n with
    | zero => exact ⟨0, fun x hx => absurd hx (Nat.not_lt_zero _)⟩
    | succ n ih =>
      obtain ⟨M, hM⟩ := ih
      refine ⟨M + rk n + 1, fun x hx => ?_⟩
      rcases Nat.lt_or_ge x n with q | q
      · have := hM x q
        omega
      · have e : x = n := by omega
        rw [e]; omega
  obtain ⟨M, hM⟩ := bound n
  -- of an own bead that is shared the other bag has no own one: there is a farther one
  have far : ∀ d k b x, M - rk x = d → k ∈ L → bs[k]? = some b → Own rk b x → (∃ (j : Nat) (c : List Nat), j ∈ L ∧ j ≠ k ∧ bs[j]? = some c ∧ x ∈ c) → False := by
    intro d
    induction d using Nat.strongRecOn with
    | ind d ih =>
      intro k b x hd hk hb hx ⟨j, c, hj, hjk, hc, hxc⟩
      obtain ⟨c2, hc2, u, v, huv, hu, hv, su, sv⟩ := h j hj
      rw [hc] at hc2
      cases hc2
      have least : ∀ y ∈ c, rk x ≤ rk y := fun y hy => by
        rcases Nat.lt_or_ge (rk y) (rk x) with q | q
        · exact absurd (T.uniq j k c b x hc hb ⟨hxc, y, hy, q⟩ hx) hjk
        · exact q
      have hcm := List.mem_of_getElem? hc
      have step : ∀ u, u ∈ c → u ≠ x → (∃ (i : Nat) (e : List Nat), i ∈ L ∧ i ≠ j ∧ bs[i]? = some e ∧ u ∈ e) → False := fun u hu hne sh => by
        have l1 := least u hu
        have l2 : rk u ≠ rk x := fun e => hne (T.inj u x (T.lt c hcm u hu) (T.lt c hcm x hxc) e)
        have l3 := hM u (T.lt c hcm u hu)
        exact ih (M - rk u) (by omega) j c u rfl hj hc ⟨hu, x, hxc, by omega⟩ sh
      by_cases e : u = x
      · exact step v hv (fun z => huv (e.trans z.symm)) sv
      · exact step u hu e su
  match L, h, far with
  | [], _, _ => rfl
  | k :: L', h, far =>
    exfalso
    obtain ⟨b, hb, x, y, hxy, hx, hy, sx, sy⟩ := h k (by simp)
    have hbm := List.mem_of_getElem? hb
    have hr : rk x ≠ rk y := fun e => hxy (T.inj x y (T.lt b hbm x hx) (T.lt b hbm y hy) e)
    rcases Nat.lt_or_gt_of_ne hr with q | q
    · exact far _ k b y rfl (by simp) hb ⟨hy, x, hx, q⟩ sy
    · exact far _ k b x rfl (by simp) hb ⟨hx, y, hy, q⟩ sx
end

/-! ### a tree has no bar -/
section
variable {n : Nat} {bs : List (List Nat)} {rk : Nat → Nat}
theorem getm {bs : List (List Nat)} {i m : Nat} (h : (bs.map mask)[i]? = some m) : ∃ b, bs[i]? = some b ∧ m = mask b := by
  rw [List.getElem?_map] at h
  cases q : bs[i]? with
  | none => rw [q] at h; cases h
  | some b => rw [q] at h; cases h; exact ⟨b, rfl, rfl⟩
theorem Tree.mask_lt (T : Tree n bs rk) {N : Nat} (hN : n ≤ N) : ∀ m ∈ bs.map mask, m < 2 ^ N := fun m hm => by
  obtain ⟨b, hb, rfl⟩ := List.mem_map.mp hm
  exact FM.mask_lt b (T.asc b hb) N fun y hy => Nat.lt_of_lt_of_le (T.lt b hb y hy) hN
theorem Tree.held_bit (T : Tree n bs rk) (k : Nat) : (held (bs.map mask)).testBit k = decide (k < n) := by
  rw [FM.held_bit, Bool.eq_iff_iff, List.any_eq_true, decide_eq_true_eq]
  constructor
  · intro ⟨m, hm, hb⟩
    obtain ⟨b, hb2, rfl⟩ := List.mem_map.mp hm
    rw [mask_bit b (T.asc b hb2), decide_eq_true_eq] at hb
    exact T.lt b hb2 k hb
  · intro h
    obtain ⟨b, hb, hk⟩ := T.cover h
    exact ⟨mask b, List.mem_map.mpr ⟨b, hb, rfl⟩, by rw [mask_bit b (T.asc b hb)]; simpa using hk⟩
theorem Tree.no_double (T : Tree n bs rk) (i j a b : Nat) (hij : i < j) (ha : (bs.map mask)[i]? = some a) (hb : (bs.map mask)[j]? = some b) : ((a &&& b) &&& ((a &&& b) - 1)) = 0 := by
  apply Classical.byContradiction
  intro h
  obtain ⟨x, y, hxy, hx, hy⟩ := FM.holds_two.mp h
  obtain ⟨p, hp, rfl⟩ := getm ha
  obtain ⟨q, hq, rfl⟩ := getm hb
  have ap := T.asc p (List.mem_of_getElem? hp)
  have aq := T.asc q (List.mem_of_getElem? hq)
  rw [Nat.testBit_and, Bool.and_eq_true, mask_bit p ap, mask_bit q aq, decide_eq_true_eq, decide_eq_true_eq] at hx hy
  exact absurd (T.one (Nat.ne_of_lt hij) hp hq hx.1 hx.2 hy.1 hy.2) (Nat.ne_of_lt hxy)
theorem Tree.no_apart (T : Tree n bs rk) (g : Nat) (h0 : ∃ k, k < n ∧ g.testBit k = true) (hg : ∀ m ∈ bs.map mask, m &&& g ≠ 0 → g ||| m = g) : ∀ m ∈ bs.map mask, m &&& g ≠ 0 := by
  have all := T.hang (fun x => g.testBit x = true) (fun b hb x hx hs y hy => by
    have hm : mask b ∈ bs.map mask := List.mem_map.mpr ⟨b, hb, rfl⟩
    have hne : mask b &&& g ≠ 0 := fun z => by
      have e : (mask b &&& g).testBit x = true := by rw [Nat.testBit_and, hs, mask_bit b (T.asc b hb)]; simpa using hx
      rw [z] at e
      simp at e
    have e := hg _ hm hne
    have e2 : (g ||| mask b).testBit y = true := by rw [Nat.testBit_or, mask_bit b (T.asc b hb)]; simp [hy]
    rw [e] at e2
    exact e2) h0
  intro m hm z
  obtain ⟨b, hb, rfl⟩ := List.mem_map.mp hm
  have t := T.two b hb
  obtain ⟨x, hx⟩ : ∃ x, x ∈ b := by
    cases b with
    | nil => simp at t
    | cons x r => exact ⟨x, by simp⟩
  have e : (mask b &&& g).testBit x = true := by
    rw [Nat.testBit_and, all x (T.lt b hb x hx), mask_bit b (T.asc b hb)]
    simpa using hx
  rw [z] at e
  simp at e
/-- the first bag meets what grows from it -/
theorem Tree.first_bit (T : Tree n bs rk) {b : List Nat} (hb : bs[0]? = some b) : ∃ k, k < n ∧ (mask b).testBit k = true := by
  have hm := List.mem_of_getElem? hb
  have t := T.two b hm
  cases b with
  | nil => simp at t
  | cons x r =>
    refine ⟨x, T.lt _ hm x (by simp), ?_⟩
    rw [mask_bit _ (T.asc _ hm)]
    simp
theorem Tree.ne (T : Tree n bs rk) : ∃ b r, bs = b :: r := by
  obtain ⟨_, _, ⟨b, hb, _⟩, _⟩ := T.root
  cases bs with
  | nil => simp at hb
  | cons b r => exact ⟨b, r, rfl⟩
/-- the bags that are left -/
def left2 (ms : List Nat) (L : List Nat) (k : Nat) : Bool := decide ((((ms.getD k 0) &&& twice (L.map fun k => ms.getD k 0)) &&& (((ms.getD k 0) &&& twice (L.map fun k => ms.getD k 0)) - 1)) ≠ 0)
theorem Tree.no_ring (T : Tree n bs rk) (L : List Nat) (hnd : L.Nodup) (hlt : ∀ k ∈ L, k < bs.length) (h : ∀ k ∈ L, left2 (bs.map mask) L k = true) : L = [] := by
  have at_ : ∀ k, k < bs.length → ∃ b, bs[k]? = some b ∧ (bs.map mask).getD k 0 = mask b := fun k hk => by
    refine ⟨bs[k], List.getElem?_eq_getElem hk, ?_⟩
    rw [List.getD_eq_getElem?_getD, List.getElem?_map, List.getElem?_eq_getElem hk]
    rfl
  refine T.ring L fun k hk => ?_
  obtain ⟨b, hb, eb⟩ := at_ k (hlt k hk)
  refine ⟨b, hb, ?_⟩
  have z := of_decide_eq_true (h k hk)
  obtain ⟨x, y, hxy, hx, hy⟩ := FM.holds_two.mp z
  rw [eb, Nat.testBit_and, Bool.and_eq_true, mask_bit b (T.asc b (List.mem_of_getElem? hb)), decide_eq_true_eq] at hx hy
  have other : ∀ x, (twice (L.map fun k => (bs.map mask).getD k 0)).testBit x = true → ∃ (j : Nat) (c : List Nat), j ∈ L ∧ j ≠ k ∧ bs[j]? = some c ∧ x ∈ c := fun x hx => by
    obtain ⟨i, j, a, c, hij, hi, hj, ha, hc⟩ := twice_bit hx
    have key : ∀ (i a : Nat), (L.map fun k => (bs.map mask).getD k 0)[i]? = some a → a.testBit x = true → ∃ (u : Nat) (e : List Nat), L[i]? = some u ∧ bs[u]? = some e ∧ x ∈ e := fun i a hi ha => by
      rw [List.getElem?_map] at hi
      cases q : L[i]? with
      | none => rw [q] at hi; cases hi
      | some u =>
        rw [q] at hi
        obtain ⟨e, he, ee⟩ := at_ u (hlt u (List.mem_of_getElem? q))
        have ei : a = mask e := by rw [← ee]; exact (Option.some.inj hi).symm
        refine ⟨u, e, rfl, he, ?_⟩
        rw [ei, mask_bit e (T.asc e (List.mem_of_getElem? he))] at ha
        exact of_decide_eq_true ha
    obtain ⟨u, e, hu, he, hxe⟩ := key i a hi ha
    obtain ⟨v, f, hv, hf, hxf⟩ := key j c hj hc
    have huv : u ≠ v := fun z => by
      rw [z] at hu
      obtain ⟨li, ei⟩ := List.getElem?_eq_some_iff.mp hu
      obtain ⟨lj, ej⟩ := List.getElem?_eq_some_iff.mp hv
      exact Nat.ne_of_lt hij ((List.getElem_inj hnd).mp (ei.trans ej.symm))
    by_cases q : u = k
    · exact ⟨v, f, List.mem_of_getElem? hv, fun z => huv (q.trans z.symm), hf, hxf⟩
    · exact ⟨u, e, List.mem_of_getElem? hu, q, he, hxe⟩
  exact ⟨x, y, Nat.ne_of_lt hxy, hx.1, hy.1, other x hx.2, other y hy.2⟩
end
end FM
end

section
set_option linter.all false
/-! What bars bags from being a family, over masks, for any bags. -/
namespace FM
theorem tw_keep : ∀ (ms : List Nat) (p : Nat × Nat) (k : Nat), p.2.testBit k = true → (ms.foldl tw p).2.testBit k = true
  | [], _, _, h => h
  | m :: r, p, k, h => by
    rw [List.foldl_cons]
    refine tw_keep r (tw p m) k ?_
    show (p.2 ||| (p.1 &&& m)).testBit k = true
    rw [Nat.testBit_or, h]; rfl
theorem tw_hit : ∀ (ms : List Nat) (p : Nat × Nat) (k : Nat), p.1.testBit k = true → (∃ m ∈ ms, m.testBit k = true) → (ms.foldl tw p).2.testBit k = true
  | [], _, _, _, h => by obtain ⟨m, hm, _⟩ := h; cases hm
  | m :: r, p, k, h, h2 => by
    rw [List.foldl_cons]
    obtain ⟨x, hx, hb⟩ := h2
    rcases List.mem_cons.mp hx with q | q
    · refine tw_keep r (tw p m) k ?_
      show (p.2 ||| (p.1 &&& m)).testBit k = true
      rw [Nat.testBit_or, Nat.testBit_and, h, ← q, hb]
      simp
    · refine tw_hit r (tw p m) k ?_ ⟨x, q, hb⟩
      show (p.1 ||| m).testBit k = true
      rw [Nat.testBit_or, h]; rfl
theorem tw_two : ∀ (ms : List Nat) (p : Nat × Nat) (k i j a b : Nat), i < j → ms[i]? = some a → ms[j]? = some b → a.testBit k = true → b.testBit k = true → (ms.foldl tw p).2.testBit k = true
  | [], _, _, _, _, _, _, _, h, _, _, _ => by simp at h
  | m :: r, p, k, 0, j + 1, a, b, _, h1, h2, h3, h4 => by
    rw [List.foldl_cons]
    simp at h1 h2
    subst h1
    refine tw_hit r (tw p m) k ?_ ⟨b, List.mem_of_getElem? h2, h4⟩
    show (p.1 ||| m).testBit k = true
    rw [Nat.testBit_or, h3]; simp
  | m :: r, p, k, i + 1, j + 1, a, b, hij, h1, h2, h3, h4 => by
    rw [List.foldl_cons]
    simp at h1 h2
    exact tw_two r (tw p m) k i j a b (by omega) h1 h2 h3 h4
theorem twice_two {ms : List Nat} {k i j a b : Nat} (hij : i ≠ j) (h1 : ms[i]? = some a) (h2 : ms[j]? = some b) (h3 : a.testBit k = true) (h4 : b.testBit k = true) : (twice ms).testBit k = true := by
  rcases Nat.lt_or_gt_of_ne hij with q | q
  · exact tw_two ms (0, 0) k i j a b q h1 h2 h3 h4
  · exact tw_two ms (0, 0) k j i b a q h2 h1 h4 h3
/-- the bead x of bag k lies in another bag of L -/
def Tied (ms : List Nat) (L : List Nat) (k x : Nat) : Prop := (ms.getD k 0).testBit x = true ∧ ∃ j ∈ L, j ≠ k ∧ (ms.getD j 0).testBit x = true
def Two (ms : List Nat) (L : List Nat) (k : Nat) : Prop := ∃ x y, x < y ∧ Tied ms L k x ∧ Tied ms L k y
theorem Two.mono {ms L L' : List Nat} {k : Nat} (h : Two ms L k) (hs : ∀ j ∈ L, j ∈ L') : Two ms L' k := by
  obtain ⟨x, y, hxy, ⟨h1, j, hj, h2⟩, ⟨g1, i, hi, g2⟩⟩ := h
  exact ⟨x, y, hxy, ⟨h1, j, hs j hj, h2⟩, ⟨g1, i, hs i hi, g2⟩⟩
theorem tied_iff {ms L : List Nat} {k x : Nat} (hk : k ∈ L) (nd : L.Nodup) : ((ms.getD k 0) &&& twice (L.map fun k => ms.getD k 0)).testBit x = true ↔ Tied ms L k x := by
  rw [Nat.testBit_and, Bool.and_eq_true]
  constructor
  · rintro ⟨h1, h2⟩
    obtain ⟨i, j, a, b, hij, ha, hb, ta, tb⟩ := twice_bit h2
    rw [List.getElem?_map] at ha hb
    cases ea : L[i]? with
    | none => rw [ea] at ha; cases ha
    | some u =>
      cases eb : L[j]? with
      | none => rw [eb] at hb; cases hb
      | some v =>
        rw [ea] at ha
        rw [eb] at hb
        cases ha
        cases hb
        obtain ⟨hi, eu⟩ := List.getElem?_eq_some_iff.mp ea
        obtain ⟨hj, ev⟩ := List.getElem?_eq_some_iff.mp eb
        have hne : u ≠ v := fun z => by
          have := (List.pairwise_iff_getElem.mp nd) i j hi hj hij
          rw [eu, ev] at this
          exact this z
        by_cases e : u = k
        · exact ⟨h1, v, List.mem_of_getElem? eb, fun z => hne (by rw [e, z]), tb⟩
        · exact ⟨h1, u, List.mem_of_getElem? ea, e, ta⟩
  · rintro ⟨h1, j, hj, hne, h2⟩
    refine ⟨h1, ?_⟩
    obtain ⟨a, ha⟩ := List.mem_iff_getElem?.mp hk
    obtain ⟨b, hb⟩ := List.mem_iff_getElem?.mp hj
    have hab : a ≠ b := fun z => by
      subst z
      rw [ha] at hb
      cases hb
      exact hne rfl
    exact twice_two hab (show (L.map fun k => ms.getD k 0)[a]? = some (ms.getD k 0) by rw [List.getElem?_map, ha]; rfl) (show (L.map fun k => ms.getD k 0)[b]? = some (ms.getD j 0) by rw [List.getElem?_map, hb]; rfl) h1 h2
theorem left2_iff {ms L : List Nat} {k : Nat} (hk : k ∈ L) (nd : L.Nodup) : left2 ms L k = true ↔ Two ms L k := by
  unfold left2
  rw [decide_eq_true_eq, holds_two]
  constructor
  · rintro ⟨x, y, hxy, h1, h2⟩
    exact ⟨x, y, hxy, (tied_iff hk nd).mp h1, (tied_iff hk nd).mp h2⟩
  · rintro ⟨x, y, hxy, h1, h2⟩
    exact ⟨x, y, hxy, (tied_iff hk nd).mpr h1, (tied_iff hk nd).mpr h2⟩
/-- the bags that are left: the most of which each shares two beads with others of them -/
structure Great (ms : List Nat) (L : List Nat) : Prop where
  sub : L.Sublist (List.range ms.length)
  two : ∀ k ∈ L, Two ms L k
  all : ∀ L' : List Nat, (∀ k ∈ L', k < ms.length) → (∀ k ∈ L', Two ms L' k) → ∀ k ∈ L', k ∈ L
theorem sub_range_eq {n : Nat} {a b : List Nat} (ha : a.Sublist (List.range n)) (hb : b.Sublist (List.range n)) (h : ∀ k, k ∈ a ↔ k ∈ b) : a = b := by
  have pa : a.Pairwise (· < ·) := List.Pairwise.sublist ha List.pairwise_lt_range
  have pb : b.Pairwise (· < ·) := List.Pairwise.sublist hb List.pairwise_lt_range
  have na : a.Nodup := pa.imp fun h => Nat.ne_of_lt h
  have nb : b.Nodup := pb.imp fun h => Nat.ne_of_lt h
  have p : a.Perm b := (List.perm_ext_iff_of_nodup na nb).mpr h
  exact List.Perm.eq_of_pairwise (le := fun x y => x ≤ y) (fun x y _ _ h1 h2 => Nat.le_antisymm h1 h2) (pa.imp fun h => Nat.le_of_lt h) (pb.imp fun h => Nat.le_of_lt h) p
theorem Great.uniq {ms L L' : List Nat} (h : Great ms L) (h' : Great ms L') : L = L' :=
  sub_range_eq h.sub h'.sub fun k => ⟨fun hk => h'.all L (fun j hj => List.mem_range.mp (h.sub.subset hj)) h.two k hk, fun hk => h.all L' (fun j hj => List.mem_range.mp (h'.sub.subset hj)) h'.two k hk⟩
/-- J: the bits of the bags that hang together with the first one -/
structure Hung (ms : List Nat) (m0 J : Nat) : Prop where
  first : ∀ k, m0.testBit k = true → J.testBit k = true
  closed : ∀ m ∈ ms, m &&& J ≠ 0 → ∀ k, m.testBit k = true → J.testBit k = true
  least : ∀ g : Nat, (∀ k, m0.testBit k = true → g.testBit k = true) → (∀ m ∈ ms, m &&& g ≠ 0 → ∀ k, m.testBit k = true → g.testBit k = true) → ∀ k, J.testBit k = true → g.testBit k = true
theorem meets_iff {m g : Nat} : m &&& g ≠ 0 ↔ ∃ k, m.testBit k = true ∧ g.testBit k = true := by
  constructor
  · intro h
    obtain ⟨k, hk⟩ := Nat.exists_testBit_of_ne_zero h
    rw [Nat.testBit_and, Bool.and_eq_true] at hk
    exact ⟨k, hk⟩
  · rintro ⟨k, h1, h2⟩ z
    have : (m &&& g).testBit k = true := by rw [Nat.testBit_and, h1, h2]; rfl
    rw [z] at this
    simp at this
theorem grow_min : ∀ (ms : List Nat) (g G : Nat), (∀ k, g.testBit k = true → G.testBit k = true) → (∀ m ∈ ms, m &&& G ≠ 0 → ∀ k, m.testBit k = true → G.testBit k = true) → ∀ k, (grow ms g).testBit k = true → G.testBit k = true
  | [], _, _, h, _, k, hk => h k hk
  | m :: r, g, G, h, hc, k, hk => by
    refine grow_min r (grow1 g m) G (fun j hj => ?_) (fun x hx => hc x (List.mem_cons_of_mem _ hx)) k hk
    unfold grow1 at hj
    by_cases e : m &&& g ≠ 0
    · rw [if_pos e, Nat.testBit_or, Bool.or_eq_true] at hj
      rcases hj with q | q
      · exact h j q
      · obtain ⟨i, h1, h2⟩ := meets_iff.mp e
        exact hc m (by simp) (meets_iff.mpr ⟨i, h1, h i h2⟩) j q
    · rw [if_neg e] at hj
      exact h j hj
theorem hung_of {ms : List Nat} {m0 J : Nat} (h1 : ∀ k, m0.testBit k = true → J.testBit k = true) (h2 : grow ms J = J)
    (h3 : ∀ G : Nat, (∀ k, m0.testBit k = true → G.testBit k = true) → (∀ m ∈ ms, m &&& G ≠ 0 → ∀ k, m.testBit k = true → G.testBit k = true) → ∀ k, J.testBit k = true → G.testBit k = true) : Hung ms m0 J := by
  refine ⟨h1, fun m hm hne k hk => ?_, h3⟩
  have := grow_fix ms J h2 m hm hne
  rw [← this, Nat.testBit_or, hk]
  simp
theorem Hung.uniq {ms : List Nat} {m0 J J' : Nat} (h : Hung ms m0 J) (h' : Hung ms m0 J') : J = J' :=
  Nat.eq_of_testBit_eq fun k => by
    rw [Bool.eq_iff_iff]
    exact ⟨h.least J' h'.first h'.closed k, h'.least J h.first h.closed k⟩
end FM
end

section
set_option Elab.async false
set_option linter.all false
set_option maxRecDepth 100000
set_option maxHeartbeats 4000000
/-! V21: masks. -/
namespace PV
open PySem PySem.Spec PyProof.Rows L2

theorem band (a b : Nat) : Builtin.bitAnd (a : Int) (b : Int) = ((a &&& b : Nat) : Int) := by
  rw [PyProof.Rows.bitAnd_pp (Int.natCast_nonneg a) (Int.natCast_nonneg b), Int.toNat_natCast, Int.toNat_natCast]
theorem bor (a b : Nat) : Builtin.bitOr (a : Int) (b : Int) = ((a ||| b : Nat) : Int) := by
  have h1 : ∀ n : Nat, ¬ (0 : Int) ≤ Builtin.bitNot (n : Int) := fun n => by unfold Builtin.bitNot; omega
  have h2 : ∀ n : Nat, (Builtin.bitNot (Builtin.bitNot (n : Int))) = (n : Int) := fun n => by unfold Builtin.bitNot; omega
  unfold Builtin.bitOr
  rw [PyProof.Rows.bitAnd_nn (h1 a) (h1 b), h2, h2, h2, Int.toNat_natCast, Int.toNat_natCast]
theorem band_pred (m : Nat) : Builtin.bitAnd (m : Int) ((m : Int) - 1) = ((m &&& (m - 1) : Nat) : Int) := by
  cases m with
  | zero => decide
  | succ n =>
    have : ((n + 1 : Nat) : Int) - 1 = ((n : Nat) : Int) := by omega
    rw [this, band]
    rfl
abbrev iN (n : Nat) : D := .int (n : Int)
abbrev bagD (b : List Nat) : D := .tup (b.map iN)
abbrev famD (bs : List (List Nat)) : D := .tup (bs.map bagD)
def At (M : Md) (x : Str) (c : Code) : Prop := M.lookup x = some c
structure MB (M : Md) : Prop where
  mask_of : At M "mask_of" c_mask_of
  masks_of : At M "masks_of" c_masks_of
  holds_two : At M "holds_two" c_holds_two
  missing_bead : At M "missing_bead" c_missing_bead
  first_double : At M "first_double" c_first_double
  hanging_with_first : At M "hanging_with_first" c_hanging_with_first
  twice_held : At M "twice_held" c_twice_held
  left_in_rings : At M "left_in_rings" c_left_in_rings
  first_bar : At M "first_bar" c_first_bar
section
variable {M : Md} {h : Hs} {k : Nat}
theorem shaped_int (i : Int) : SeqAt.shaped (.int i) = true := rfl
theorem gEq_int (i j : Int) : gEq (.int i) (.int j) h = .ok (.bl (decide (i = j))) h := by
  show (if (SeqAt.shaped (.int i) && SeqAt.shaped (.int j)) = true then Res.ok (D.bl (PyData.eqv (.int i) (.int j))) h else .bad) = _
  rw [shaped_int, shaped_int]
  simp only [Bool.and_self, if_true]
  congr 2
theorem gNe_int (i j : Int) : gNe (.int i) (.int j) h = .ok (.bl (!decide (i = j))) h := by
  show (if (SeqAt.shaped (.int i) && SeqAt.shaped (.int j)) = true then Res.ok (D.bl (!PyData.eqv (.int i) (.int j))) h else .bad) = _
  rw [shaped_int, shaped_int]
  simp only [Bool.and_self, if_true]
  congr 2
theorem r_holds_two (B : MB M) (m : Nat) : run M (k + 1) "holds_two" [iN m] h = .ok (.bl (decide ((m &&& (m - 1)) ≠ 0))) h := by
  rw [run_at B.holds_two rfl]
  simp only [c_holds_two]
  simp only [sCons, sNil, sRet, sRetN, sAsg, sExpr, sIf, sFor, sWhile, sAug, tgName, eVar, eCon, eBin, eUn, eAnd, eOr, eNot, eIf, eChain, eTup, eLst, eArgs, eCall, eSlc, aNil, aCons, tVal, tBl, tNotV, tAndV, tOrV, tYesV, iVal, iRng, rg1, rg2, getV, List.map_cons, List.map_nil, List.cons_append, List.nil_append, List.replicate, List.getElem?_cons_zero, List.getElem?_cons_succ, List.set_cons_zero, List.set_cons_succ, Option.bind_some, id_eq, Nat.sub_self, Nat.add_one_sub_one, Res.bind, opt, Cn_zero]
  simp only [gSub, gAnd, gInt2, band_pred, gNe_int, Res.toS, RS.seq, RS.toR]
  congr 2
  by_cases e : m &&& (m - 1) = 0
  · rw [e]; rfl
  · have : ((m &&& (m - 1) : Nat) : Int) ≠ 0 := by omega
    simp [e, this]
theorem foldl_app {α β : Type} (f : α → β) : ∀ (xs : List α) (acc : List β), xs.foldl (fun a x => a ++ [f x]) acc = acc ++ xs.map f
  | [], acc => by simp
  | x :: xs, acc => by rw [List.foldl_cons, foldl_app f xs]; simp
theorem gShl_one (x : Nat) (hx : x < 60) : gShl (.int 1) (iN x) h = .ok (.int ((2 ^ x : Nat) : Int)) h := by
  have hb : Builtin.Int.intBits 1 = 1 := by decide
  have hc : (decide ((0 : Int) ≤ (x : Int)) && decide (Builtin.Int.intBits 1 + (x : Int).toNat ≤ 1000000)) = true := by
    rw [hb, Bool.and_eq_true, decide_eq_true_eq, decide_eq_true_eq]
    constructor <;> omega
  show (if (decide ((0 : Int) ≤ (x : Int)) && decide (Builtin.Int.intBits 1 + (x : Int).toNat ≤ 1000000)) = true then Res.ok (D.int (1 * 2 ^ (x : Int).toNat)) h else .bad) = _
  rw [if_pos hc, Int.toNat_natCast, Int.one_mul]
  congr 2
/-- items known ahead, by what they stand for -/
theorem loopB_map {α β : Type} {t : Tg} {e0 : Env'} {kk : Env' → Hs → β → Res β} {acc : β} (xs : List α) (enc : α → D) (f : β → α → β) (I : β → Nat → Prop) (h0 : I acc 0) (step : ∀ i x acc, xs[i]? = some x → I acc i → Ok (t.run (enc x) e0 h) fun e h1 => kk e h1 acc = .ok (f acc x) h ∧ I (f acc x) (i + 1)) :
    loopB (.items (xs.map enc)) t e0 kk ((xs.map enc).length + 1) 0 h acc = .ok (xs.foldl f acc) h := by
  have := loopB_ok (src := .items (xs.map enc)) (t := t) (e0 := e0) (kk := kk) (n := (xs.map enc).length + 1) (h := h) (acc := acc) (xs.map enc) (fun i h' acc' => h' = h ∧ acc' = (xs.take i).foldl f acc ∧ I acc' i) (fun _ _ _ _ => rfl) (Nat.le_refl _) ⟨rfl, rfl, h0⟩ fun i d h' acc' hx ⟨e1, e2, e3⟩ => by
    subst e1
    rw [List.getElem?_map] at hx
    cases ex : xs[i]? with
    | none => rw [ex] at hx; cases hx
    | some x =>
      rw [ex] at hx
      cases hx
      refine (step i x acc' ex e3).mono fun e h1 ⟨z1, z2⟩ => ?_
      rw [z1]
      refine ⟨rfl, ?_, z2⟩
      rw [List.take_add_one, ex, List.foldl_append, ← e2]
      rfl
  obtain ⟨a, h', e1, e2, e3, _⟩ := this.eq
  rw [e1, e2, e3, List.length_map, List.take_length]
theorem loop_takeI {α : Type} {C : CF} {cenv : Env'} {elt : Ev} (xs : List α) (enc : α → D) (f : α → Int) (he : ∀ x ∈ xs, elt C (some (enc x) :: cenv) h = .ok (.int (f x)) h) : loopB (.items (xs.map enc)) (tgName 0) (none :: cenv) (kG C tYesV elt takeI) ((xs.map enc).length + 1) 0 h [] = .ok (xs.map f) h := by
  rw [loopB_map xs enc (fun a x => a ++ [f x]) (fun _ _ => True) trivial fun i x acc hx _ => ?_, foldl_app]
  · rfl
  · show kG C tYesV elt takeI (some (enc x) :: cenv) h acc = _ ∧ True
    refine ⟨?_, trivial⟩
    unfold kG
    show (elt C (some (enc x) :: cenv) h).bind _ = _
    rw [he x (List.mem_of_getElem? hx)]
    rfl
/-- a list comprehension of values known ahead -/
theorem lc_map {α : Type} {C : CF} {t : Tg} {e0 : Env'} {elt : Ev} (xs : List α) (enc f : α → D) (hl : xs.length ≤ 100000) (he : ∀ x ∈ xs, Ok (t.run (enc x) e0 h) fun e h1 => elt C e h1 = .ok (f x) h) : loopB (.items (xs.map enc)) t e0 (kOne C tYesV elt) ((xs.map enc).length + 1) 0 h [] = .ok (xs.map f) h := by
  rw [loopB_map xs enc (fun a x => a ++ [f x]) (fun a i => a.length = i) rfl fun i x acc hx hi => ?_, foldl_app]
  · rfl
  · refine (he x (List.mem_of_getElem? hx)).mono fun e h1 z => ⟨?_, by simp [hi]⟩
    unfold kOne
    show (elt C e h1).bind _ = _
    rw [z]
    have := (List.getElem?_eq_some_iff.mp hx).1
    show chk (decide (acc.length < 100000)) _ = _
    rw [show (decide (acc.length < 100000)) = true by rw [decide_eq_true_eq]; omega]
    rfl
theorem r_mask_of (B : MB M) (b : List Nat) (hb : ∀ x ∈ b, x < 60) : run M (k + 2) "mask_of" [bagD b] h = .ok (iN (FM.mask b)) h := by
  rw [run_at B.mask_of rfl]
  simp only [c_mask_of, sCons, sRet, goF_succ, eSumG, eG, iVal, eVar]
  have e := loop_takeI (h := h) (C := (Cn M (k + 1)).inner) (cenv := capE [] [some (bagD b), none]) (elt := eBin gShl (eCon (.int 1)) (eVar 0)) b iN (fun x => ((2 ^ x : Nat) : Int)) fun x hx => gShl_one x (hb x hx)
  have e1 : (List.map some [bagD b] ++ List.replicate (2 - 1) none : Env') = [some (bagD b), none] := rfl
  rw [e1]
  have e2 : getV [some (bagD b), none] 0 = some (bagD b) := rfl
  have e3 : srcD (bagD b) h = some (.items (b.map iN)) := rfl
  simp only [e2, e3, opt, Res.bind]
  have e4 : Src.size (.items (b.map iN)) h = (b.map iN).length := rfl
  rw [e4, e]
  simp only [Res.toS, RS.seq, RS.toR]
  congr 2
  unfold FM.mask
  clear e e1 e2 e3 e4 hb
  induction b with
  | nil => rfl
  | cons x b ih => simp only [List.map_cons, List.sum_cons, ih, Int.natCast_add]
theorem r_masks_of (B : MB M) (bs : List (List Nat)) (hb : ∀ b ∈ bs, ∀ x ∈ b, x < 60) (hl : bs.length ≤ 100000) : run M (k + 3) "masks_of" [famD bs] h = .ok (.ref h.length) (h ++ [.lst ((bs.map FM.mask).map iN)]) := by
  rw [run_at B.masks_of rfl]
  simp only [c_masks_of, sCons, sRet, eLC, iVal, eVar]
  have e1 : (List.map some [famD bs] ++ List.replicate (2 - 1) none : Env') = [some (famD bs), none] := rfl
  rw [e1]
  have e2 : getV [some (famD bs), none] 0 = some (famD bs) := rfl
  have e3 : srcD (famD bs) h = some (.items (bs.map bagD)) := rfl
  simp only [e2, e3, opt, Res.bind]
  have e4 : Src.size (.items (bs.map bagD)) h = (bs.map bagD).length := rfl
  have e5 : wipeE [some (famD bs), none] [1] = [some (famD bs), none] := rfl
  have e := lc_map (h := h) (C := Cn M (k + 2)) (t := tgName 1) (e0 := [some (famD bs), none]) (elt := eCall "mask_of" 1 (aCons (eVar 1) aNil)) bs bagD (fun b => iN (FM.mask b)) hl fun b hx => by
    show (run M (k + 2) "mask_of" [bagD b] h) = _
    exact r_mask_of B b (hb b hx)
  rw [e4, e5, e]
  simp only [mk, Res.toS, RS.seq, RS.toR]
  rw [List.map_map]
  rfl
end
end PV
end

section
set_option Elab.async false
set_option linter.all false
set_option maxRecDepth 100000
set_option maxHeartbeats 4000000
/-! V22: the bars of a tree: none. -/
namespace PV
open PySem PySem.Spec PyProof.Rows L2
section
variable {M : Md} {h : Hs} {k : Nat}
theorem get_at {n : Nat} {xs : List D} (e : h[n]? = some (.lst xs)) (i : Nat) : Src.get (.at_ n) h i = some xs[i]? := by
  show (match h[n]? with | some (.lst xs) => some xs[i]? | _ => none) = _
  rw [e]
theorem size_at {n : Nat} {xs : List D} (e : h[n]? = some (.lst xs)) : Src.size (.at_ n) h = xs.length := by
  show (match h[n]? with | some (.lst xs) => xs.length | _ => 0) = _
  rw [e]
theorem srcD_at {n : Nat} {xs : List D} (e : h[n]? = some (.lst xs)) : srcD (.ref n) h = some (.at_ n) := by
  show (match h[n]? with | some (.lst _) => some (Src.at_ n) | _ => none) = _
  rw [e]
theorem seqD_at {n : Nat} {xs : List D} (e : h[n]? = some (.lst xs)) : seqD (.ref n) h = some xs := by
  show (match h[n]? with | some (.lst xs) => some xs | _ => none) = _
  rw [e]
theorem dctD_at {n : Nat} {xs : List D} (e : h[n]? = some (.lst xs)) : dctD (.ref n) h = none := by
  show (match h[n]? with | some (.dct kvs) => some kvs | _ => none) = _
  rw [e]
theorem oLen_at {n : Nat} {xs : List D} (e : h[n]? = some (.lst xs)) : oLen [.ref n] h = .ok (.int (xs.length : Nat)) h := by
  show opt (lenD (.ref n) h) _ = _
  unfold lenD
  rw [seqD_at e]
theorem gIx_at {n : Nat} {xs : List D} {i : Nat} {d : D} (e : h[n]? = some (.lst xs)) (hd : xs[i]? = some d) : gIx (.ref n) (iN i) h = .ok d h := by
  unfold gIx
  rw [dctD_at e, seqD_at e]
  have hi := (List.getElem?_eq_some_iff.mp hd).1
  have : atI xs ((i : Nat) : Int) = some d := by
    unfold atI ixN
    rw [if_pos (by omega), if_pos (by omega)]
    simpa using hd
  show opt (atI xs ((i : Nat) : Int)) _ = _
  rw [this]
theorem gIx_tup {xs : List D} {i : Nat} {d : D} (hd : xs[i]? = some d) : gIx (.tup xs) (iN i) h = .ok d h := by
  have hi := (List.getElem?_eq_some_iff.mp hd).1
  have : atI xs ((i : Nat) : Int) = some d := by
    unfold atI ixN
    rw [if_pos (by omega), if_pos (by omega)]
    simpa using hd
  show opt (atI xs ((i : Nat) : Int)) _ = _
  rw [this]
theorem intBits_nat (m : Nat) (hm : m ≠ 0) : Builtin.Int.intBits (m : Int) = m.log2 + 1 := by
  unfold Builtin.Int.intBits
  rw [if_neg (by simpa using hm)]
  simp
theorem log2_le {m : Nat} (hm : m ≤ 100000) : m.log2 < 62 := by
  by_cases z : m = 0
  · subst z; decide
  · exact (Nat.log2_lt z).mpr (by omega)
theorem rgOk_small {a b : Nat} (ha : a ≤ 100000) (hb : b ≤ 100000) : rgOk ((a : Int), (b : Int)) = true := by
  unfold rgOk small62
  simp only [Bool.and_eq_true, decide_eq_true_eq, Int.natAbs_natCast]
  exact ⟨log2_le ha, log2_le hb⟩
/-- range(n) as a source -/
theorem rng0 {n : Nat} : rangeD 0 n = (List.range n).map iN := by
  unfold rangeD
  exact List.map_congr_left fun i _ => by rw [Int.zero_add]
theorem iRng_ok {C : CF} {env : Env'} {r : Rv} {p : Int × Int} {xs : List D} (e : r C env h = .ok p h) (hp : rgOk p = true) (hx : rangeD p.1 (p.2 - p.1).toNat = xs) : iRng r C env h = .ok (.items xs) h := by
  subst hx
  unfold iRng
  rw [e]
  simp only [Res.bind]
  rw [hp]
  rfl
theorem rg1_ok {C : CF} {env : Env'} {a : Ev} {i : Int} (ea : a C env h = .ok (.int i) h) : rg1 a C env h = .ok (0, i) h := by
  unfold rg1
  rw [ea]
  rfl
theorem rg2_ok {C : CF} {env : Env'} {a b : Ev} {i j : Int} (ea : a C env h = .ok (.int i) h) (eb : b C env h = .ok (.int j) h) : rg2 a b C env h = .ok (i, j) h := by
  unfold rg2
  rw [ea]
  simp only [Res.bind]
  rw [eb]
  rfl
theorem rgOk_is0 {n : Nat} (hb : n ≤ 100000) : rgOk (0, (n : Int)) = true := by
  have := rgOk_small (a := 0) (b := n) (Nat.zero_le _) hb
  simpa using this
theorem iRng1_ok {C : CF} {env : Env'} {a : Ev} {n : Nat} (ea : a C env h = .ok (iN n) h) (hn : n ≤ 100000) : iRng (rg1 a) C env h = .ok (.items ((List.range n).map iN)) h :=
  iRng_ok (rg1_ok ea) (rgOk_is0 hn) (by simp only [Int.sub_zero, Int.toNat_natCast]; exact rng0)
theorem iRng2_ok {C : CF} {env : Env'} {a b : Ev} {m n : Nat} (ea : a C env h = .ok (iN m) h) (eb : b C env h = .ok (iN n) h) (hm : m ≤ 100000) (hn : n ≤ 100000) : iRng (rg2 a b) C env h = .ok (.items ((List.range (n - m)).map fun i => iN (m + i))) h :=
  iRng_ok (rg2_ok ea eb) (rgOk_small hm hn) (by
    simp only
    rw [show ((n : Int) - (m : Int)).toNat = n - m by omega]
    unfold rangeD
    exact List.map_congr_left fun i _ => by simp)
theorem getElem?_range' {n i : Nat} {d : D} (e : ((List.range n).map iN)[i]? = some d) : i < n ∧ d = iN i := by
  have hi := (List.getElem?_eq_some_iff.mp e).1
  rw [List.length_map, List.length_range] at hi
  refine ⟨hi, ?_⟩
  rw [List.getElem?_map, List.getElem?_range hi] at e
  exact (Option.some.inj e).symm
theorem r_missing_bead (B : MB M) {n : Nat} {ms : List Nat} (hm : h[n]? = some (.lst (ms.map iN))) (hlt : FM.held ms < 2 ^ 60) (hfull : ∀ k j, j < k → (FM.held ms).testBit k = true → (FM.held ms).testBit j = true) : run M (k + 1) "missing_bead" [.ref n] h = .ok .non h := by
  have main : Ok (run M (k + 1) "missing_bead" [.ref n] h) fun v h' => v = .non ∧ h' = h := by
    rw [run_at B.missing_bead rfl, Sk.toR]
    simp only [c_missing_bead]
    rw [Sk.cons, Sk.asg]
    show Sk (sCons _ _ (Cn M k) [some (.ref n), some (.int 0), none, none] h) _
    rw [Sk.cons, Sk.for_]
    have e1 : iVal (eVar 0) (Cn M k) [some (.ref n), some (.int 0), none, none] h = .ok (.at_ n) h := by
      show (opt (srcD (.ref n) h) fun s => .ok s h) = _
      rw [srcD_at hm]
    rw [Ok.res e1]
    refine forS_ok (ms.map iN) (fun i e h' => h' = h ∧ ∃ v, e = [some (.ref n), some (iN ((ms.take i).foldl (· ||| ·) 0)), v, none]) (fun i e h' q => by rw [q.1]; exact get_at hm i) (by rw [size_at hm]; exact Nat.le_refl _) ⟨rfl, none, rfl⟩ ?_ ?_
    · rintro e h' ⟨rfl, v, rfl⟩
      have eh : (List.take (ms.map iN).length ms).foldl (· ||| ·) 0 = FM.held ms := by
        rw [List.take_of_length_le (by simp)]; rfl
      rw [eh]
      dsimp only
      rw [Sk.cons, Sk.for_]
      have b1 : Builtin.Int.intBits ((FM.held ms : Nat) : Int) ≤ 60 := PyProof.Rows.intBits_le (by simpa using hlt)
      have e2 := iRng1_ok (C := Cn M k) (env := [some (.ref n), some (iN (FM.held ms)), v, none]) (h := h') (a := eBits (eVar 1)) (n := Builtin.Int.intBits ((FM.held ms : Nat) : Int)) rfl (by omega)
      rw [Ok.res e2]
      refine forS_ok ((List.range (Builtin.Int.intBits (FM.held ms : Nat))).map iN) (fun i e h'' => h'' = h' ∧ ∃ u, e = [some (.ref n), some (iN (FM.held ms)), v, u]) (fun i e h'' q => rfl) (Nat.le_refl _) ⟨rfl, none, rfl⟩ ?_ ?_
      · rintro e h'' ⟨rfl, u, rfl⟩
        exact ⟨rfl, rfl⟩
      · rintro i d e h'' hx ⟨rfl, u, rfl⟩
        obtain ⟨hi, rfl⟩ := getElem?_range' hx
        show Sk (sCons _ _ _ [some (.ref n), some (iN (FM.held ms)), v, some (iN i)] h'') _
        have bit : (FM.held ms).testBit i = true := by
          have hne : FM.held ms ≠ 0 := fun z => by
            rw [z, show Builtin.Int.intBits ((0 : Nat) : Int) = 0 from rfl] at hi
            omega
          rw [intBits_nat _ hne] at hi
          have top : (FM.held ms).testBit (FM.held ms).log2 = true := Nat.testBit_log2 hne
          by_cases z : i = (FM.held ms).log2
          · rw [z]; exact top
          · exact hfull _ i (by omega) top
        have val : Builtin.bitAnd (((FM.held ms : Nat) : Int) / 2 ^ ((i : Int)).toNat) 1 = 1 := by
          rw [Int.toNat_natCast]
          have e2 : ((FM.held ms : Nat) : Int) / 2 ^ i = ((FM.held ms / 2 ^ i : Nat) : Int) := by simp
          rw [e2, show (1 : Int) = ((1 : Nat) : Int) from rfl, band]
          rw [Nat.testBit_eq_decide_div_mod_eq] at bit
          have e3 := of_decide_eq_true bit
          rw [Nat.and_one_is_mod, e3]
        have e4 : tNotV (tVal (eBin gAnd (eBin gShr (eVar 1) (eVar 3)) (eCon (.int 1)))) (Cn M k) [some (.ref n), some (iN (FM.held ms)), v, some (iN i)] h'' = .ok false h'' := by
          have e5 : eBin gAnd (eBin gShr (eVar 1) (eVar 3)) (eCon (.int 1)) (Cn M k) [some (.ref n), some (iN (FM.held ms)), v, some (iN i)] h'' = .ok (.int 1) h'' := by
            show ((if (decide ((0 : Int) ≤ (i : Int))) = true then Res.ok (D.int (((FM.held ms : Nat) : Int) / 2 ^ ((i : Int)).toNat)) h'' else .bad).bind fun x h1 => gAnd x (.int 1) h1) = _
            rw [if_pos (by simp)]
            show Res.ok (D.int (Builtin.bitAnd _ 1)) h'' = _
            rw [val]
          unfold tNotV tVal
          rw [e5]
          rfl
        rw [Sk.cons, Sk.if_, Ok.res e4]
        exact ⟨rfl, _, rfl⟩
    · rintro i d e h' hx ⟨rfl, v, rfl⟩
      rw [List.getElem?_map] at hx
      cases q2 : ms[i]? with
      | none => rw [q2] at hx; cases hx
      | some m =>
        rw [q2] at hx
        cases hx
        refine ⟨rfl, some (iN m), ?_⟩
        show [some (D.ref n), some (.int (Builtin.bitOr (((ms.take i).foldl (· ||| ·) 0 : Nat) : Int) (m : Int))), some (iN m), none] = _
        rw [bor, List.take_add_one, q2]
        simp
  obtain ⟨v, h', e, rfl, rfl⟩ := main.eq
  exact e
end
end PV
end

section
set_option Elab.async false
set_option linter.all false
set_option maxRecDepth 100000
set_option maxHeartbeats 4000000
/-! V23: first_double, twice_held, hanging_with_first. -/
namespace PV
open PySem PySem.Spec PyProof.Rows L2
section
variable {M : Md} {h : Hs} {k : Nat}
theorem foldl_filter {α β : Type} (p : α → Bool) (f : α → β) : ∀ (xs : List α) (acc : List β), xs.foldl (fun a x => if p x then a ++ [f x] else a) acc = acc ++ (xs.filter p).map f
  | [], acc => by simp
  | x :: xs, acc => by
    rw [List.foldl_cons, foldl_filter p f xs]
    by_cases hp : p x = true
    · rw [if_pos hp, List.filter_cons_of_pos hp]; simp
    · rw [if_neg hp, List.filter_cons_of_neg hp]
/-- a generator expression's items, under a test -/
theorem loop_takeD {α : Type} {C : CF} {cenv : Env'} {tt : Tv} {elt : Ev} (xs : List α) (enc f : α → D) (p : α → Bool) (hl : xs.length ≤ 100000) (ht : ∀ x ∈ xs, tt C (some (enc x) :: cenv) h = .ok (p x) h) (he : ∀ x ∈ xs, p x = true → elt C (some (enc x) :: cenv) h = .ok (f x) h) :
    loopB (.items (xs.map enc)) (tgName 0) (none :: cenv) (kG C tt elt takeD) ((xs.map enc).length + 1) 0 h [] = .ok ((xs.filter p).map f) h := by
  rw [loopB_map xs enc (fun a x => if p x then a ++ [f x] else a) (fun a i => a.length ≤ i) (Nat.zero_le _) fun i x acc hx hi => ?_, foldl_filter]
  · rfl
  · show kG C tt elt takeD (some (enc x) :: cenv) h acc = _ ∧ _
    have hm := List.mem_of_getElem? hx
    have := (List.getElem?_eq_some_iff.mp hx).1
    unfold kG
    rw [ht x hm]
    simp only [Res.bind]
    cases hp : p x with
    | false => exact ⟨rfl, by simp; omega⟩
    | true =>
      simp only [if_true]
      rw [he x hm hp]
      simp only
      have e : takeD (f x) acc = some (acc ++ [f x]) := by unfold takeD; rw [if_pos (by rw [decide_eq_true_eq]; omega)]
      rw [e]
      exact ⟨rfl, by simp; omega⟩
/-- a list comprehension under a test -/
theorem lc_filter {α : Type} {C : CF} {t : Tg} {e0 : Env'} {tt : Tv} {elt : Ev} (xs : List α) (enc f : α → D) (p : α → Bool) (hl : xs.length ≤ 100000) (he : ∀ x ∈ xs, Ok (t.run (enc x) e0 h) fun e h1 => tt C e h1 = .ok (p x) h ∧ (p x = true → elt C e h = .ok (f x) h)) :
    loopB (.items (xs.map enc)) t e0 (kOne C tt elt) ((xs.map enc).length + 1) 0 h [] = .ok ((xs.filter p).map f) h := by
  rw [loopB_map xs enc (fun a x => if p x then a ++ [f x] else a) (fun a i => a.length ≤ i) (Nat.zero_le _) fun i x acc hx hi => ?_, foldl_filter]
  · rfl
  · have hm := List.mem_of_getElem? hx
    have := (List.getElem?_eq_some_iff.mp hx).1
    refine (he x hm).mono fun e h1 ⟨z1, z2⟩ => ?_
    unfold kOne
    rw [z1]
    simp only [Res.bind]
    cases hp : p x with
    | false => exact ⟨rfl, by simp; omega⟩
    | true =>
      simp only [if_true]
      rw [z2 hp]
      simp only
      rw [show (decide (acc.length < 100000)) = true by rw [decide_eq_true_eq]; omega]
      exact ⟨rfl, by simp; omega⟩
theorem gAnd_nat (a b : Nat) : gAnd (iN a) (iN b) h = .ok (iN (a &&& b)) h := by
  show Res.ok (D.int (Builtin.bitAnd (a : Int) (b : Int))) h = _
  rw [band]
theorem gOr_nat (a b : Nat) : gOr (iN a) (iN b) h = .ok (iN (a ||| b)) h := by
  show Res.ok (D.int (Builtin.bitOr (a : Int) (b : Int))) h = _
  rw [bor]
theorem get_map {α : Type} {xs : List α} {f : α → D} {i : Nat} {x : α} (e : xs[i]? = some x) : (xs.map f)[i]? = some (f x) := by rw [List.getElem?_map, e]; rfl
theorem of_get_map {α : Type} {xs : List α} {f : α → D} {i : Nat} {d : D} (e : (xs.map f)[i]? = some d) : ∃ x, xs[i]? = some x ∧ d = f x := by
  rw [List.getElem?_map] at e
  cases q : xs[i]? with
  | none => rw [q] at e; cases e
  | some x => rw [q] at e; cases e; exact ⟨x, rfl, rfl⟩
theorem r_first_double (B : MB M) {n : Nat} {ms : List Nat} (hm : h[n]? = some (.lst (ms.map iN))) (hl : ms.length ≤ 100000) (hno : ∀ i j a b : Nat, i < j → ms[i]? = some a → ms[j]? = some b → ((a &&& b) &&& ((a &&& b) - 1)) = 0) : run M (k + 2) "first_double" [.ref n] h = .ok .non h := by
  refine Ok.val ?_
  rw [run_at B.first_double rfl, Sk.toR]
  simp only [c_first_double]
  show Sk (sCons _ _ (Cn M (k + 1)) [some (.ref n), none, none] h) _
  rw [Sk.cons, Sk.for_]
  have e1 := iRng1_ok (C := Cn M (k + 1)) (env := [some (.ref n), none, none]) (h := h) (a := eArgs oLen (aCons (eVar 0) aNil)) (n := ms.length) ((oLen_at hm).trans (by rw [List.length_map])) hl
  rw [Ok.res e1]
  refine forS_ok _ (fun i e h' => h' = h ∧ ∃ u v, e = [some (.ref n), u, v]) (fun i e h'' q => rfl) (Nat.le_refl _) ⟨rfl, none, none, rfl⟩ ?_ ?_
  · rintro e h' ⟨rfl, u, v, rfl⟩
    exact ⟨rfl, rfl⟩
  · rintro j d e h' hx ⟨rfl, u, v, rfl⟩
    obtain ⟨hj, rfl⟩ := getElem?_range' hx
    simp only [Ok.tg, Ok.con, List.set]
    rw [Sk.cons, Sk.for_]
    have e2 := iRng1_ok (C := Cn M (k + 1)) (env := [some (.ref n), some (iN j), v]) (h := h') (a := eVar 1) (n := j) rfl (by omega)
    rw [Ok.res e2]
    refine forS_ok _ (fun i e h'' => h'' = h' ∧ ∃ v, e = [some (.ref n), some (iN j), v]) (fun i e h'' q => rfl) (Nat.le_refl _) ⟨rfl, v, rfl⟩ ?_ ?_
    · rintro e h'' ⟨rfl, v, rfl⟩
      exact ⟨rfl, _, _, rfl⟩
    · rintro i d e h'' hx ⟨rfl, v, rfl⟩
      obtain ⟨hi, rfl⟩ := getElem?_range' hx
      simp only [Ok.tg, Ok.con, List.set]
      obtain ⟨a, ha⟩ : ∃ a, ms[i]? = some a := ⟨_, List.getElem?_eq_getElem (by omega)⟩
      obtain ⟨b, hb⟩ : ∃ b, ms[j]? = some b := ⟨_, List.getElem?_eq_getElem (by omega)⟩
      have e3 : eCall "holds_two" 1 (aCons (eBin gAnd (eBin gIx (eVar 0) (eVar 2)) (eBin gIx (eVar 0) (eVar 1))) aNil) (Cn M (k + 1)) [some (.ref n), some (iN j), some (iN i)] h'' = .ok (.bl false) h'' := by
        have e4 : eBin gAnd (eBin gIx (eVar 0) (eVar 2)) (eBin gIx (eVar 0) (eVar 1)) (Cn M (k + 1)) [some (.ref n), some (iN j), some (iN i)] h'' = .ok (iN (a &&& b)) h'' := by
          show ((gIx (.ref n) (iN i) h'').bind fun x h1 => (gIx (.ref n) (iN j) h1).bind fun y h2 => gAnd x y h2) = _
          rw [gIx_at hm (get_map ha)]
          show ((gIx (.ref n) (iN j) h'').bind fun y h2 => gAnd (iN a) y h2) = _
          rw [gIx_at hm (get_map hb)]
          exact gAnd_nat a b
        unfold eCall aCons
        rw [e4]
        show run M (k + 1) "holds_two" [iN (a &&& b)] h'' = _
        rw [r_holds_two B, hno i j a b hi ha hb]
        rfl
      have e5 : tVal (eCall "holds_two" 1 (aCons (eBin gAnd (eBin gIx (eVar 0) (eVar 2)) (eBin gIx (eVar 0) (eVar 1))) aNil)) (Cn M (k + 1)) [some (.ref n), some (iN j), some (iN i)] h'' = .ok false h'' := by
        unfold tVal
        rw [e3]
        rfl
      rw [Sk.cons, Sk.if_, Ok.res e5]
      exact ⟨rfl, _, rfl⟩
theorem r_twice_held (B : MB M) {n : Nat} {ms : List Nat} (hm : h[n]? = some (.lst (ms.map iN))) : run M (k + 1) "twice_held" [.ref n] h = .ok (iN (FM.twice ms)) h := by
  refine Ok.val ?_
  rw [run_at B.twice_held rfl, Sk.toR]
  simp only [c_twice_held]
  show Sk (sCons _ _ (Cn M k) [some (.ref n), none, none, none] h) _
  rw [Sk.cons, Sk.asg]
  simp only [Ok.tg, Ok.con, List.set]
  rw [Sk.cons, Sk.asg]
  simp only [Ok.tg, Ok.con, List.set]
  rw [Sk.cons, Sk.for_]
  have e1 : iVal (eVar 0) (Cn M k) [some (.ref n), some (.int 0), some (.int 0), none] h = .ok (.at_ n) h := by
    show (opt (srcD (.ref n) h) fun s => .ok s h) = _
    rw [srcD_at hm]
  rw [Ok.res e1]
  refine forS_ok (ms.map iN) (fun i e h' => h' = h ∧ ∃ v, e = [some (.ref n), some (iN ((ms.take i).foldl FM.tw (0, 0)).1), some (iN ((ms.take i).foldl FM.tw (0, 0)).2), v]) (fun i e h' q => by rw [q.1]; exact get_at hm i) (by rw [size_at hm]; exact Nat.le_refl _) ⟨rfl, none, rfl⟩ ?_ ?_
  · rintro e h' ⟨rfl, v, rfl⟩
    rw [List.take_of_length_le (by simp)]
    exact ⟨rfl, rfl⟩
  · rintro i d e h' hx ⟨rfl, v, rfl⟩
    obtain ⟨m, hm', rfl⟩ := of_get_map hx
    generalize ht : (ms.take i).foldl FM.tw (0, 0) = t
    have e2 : ((ms.take (i + 1)).foldl FM.tw (0, 0)) = (t.1 ||| m, t.2 ||| (t.1 &&& m)) := by rw [List.take_add_one, hm', List.foldl_append, ht]; rfl
    simp only [Ok.tg, Ok.con, List.set]
    rw [Sk.cons, Sk.asg]
    have e3 : eBin gOr (eVar 2) (eBin gAnd (eVar 1) (eVar 3)) (Cn M k) [some (.ref n), some (iN t.1), some (iN t.2), some (iN m)] h' = .ok (iN (t.2 ||| (t.1 &&& m))) h' := by
      show ((gAnd (iN t.1) (iN m) h').bind fun y h2 => gOr (iN t.2) y h2) = _
      rw [gAnd_nat]
      exact gOr_nat _ _
    rw [Ok.res e3]
    simp only [Ok.tg, Ok.con, List.set]
    rw [Sk.cons, Sk.asg]
    have e4 : eBin gOr (eVar 1) (eVar 3) (Cn M k) [some (.ref n), some (iN t.1), some (iN (t.2 ||| (t.1 &&& m))), some (iN m)] h' = .ok (iN (t.1 ||| m)) h' := gOr_nat _ _
    rw [Ok.res e4]
    refine ⟨rfl, some (iN m), ?_⟩
    rw [e2]
    rfl
end
end PV
end

section
set_option Elab.async false
set_option linter.all false
set_option maxRecDepth 100000
set_option maxHeartbeats 4000000
/-! V24: hanging_with_first, left_in_rings, first_bar: of a tree nothing bars. -/
namespace PV
open PySem PySem.Spec PyProof.Rows L2
section
variable {M : Md} {h : Hs} {k : Nat}
theorem countP_lt {α : Type} {p q : α → Bool} : ∀ {l : List α}, (∀ x, p x = true → q x = true) → (∃ x ∈ l, q x = true ∧ p x = false) → l.countP p < l.countP q
  | [], _, ⟨x, h, _⟩ => by cases h
  | y :: l, hpq, ⟨x, hx, h1, h2⟩ => by
    have le : l.countP p ≤ l.countP q := List.countP_mono_left fun z _ => hpq z
    rw [List.countP_cons, List.countP_cons]
    rcases List.mem_cons.mp hx with rfl | hx
    · rw [h1, h2]; simp; omega
    · have := countP_lt hpq ⟨x, hx, h1, h2⟩
      cases hp : p y with
      | false => simp; split <;> omega
      | true => rw [hpq y hp]; simp; omega
def cnt (g : Nat) : Nat := (List.range 60).countP fun k => g.testBit k
theorem cnt_le (g : Nat) : cnt g ≤ 60 := by
  have := List.countP_le_length (p := fun k => g.testBit k) (l := List.range 60)
  rwa [List.length_range] at this
theorem cnt_grow {ms : List Nat} {g : Nat} (hlt : FM.grow ms g < 2 ^ 60) (hne : FM.grow ms g ≠ g) : cnt g < cnt (FM.grow ms g) := by
  refine countP_lt (fun k hk => FM.grow_bits ms g k hk) ?_
  refine Classical.byContradiction fun hno => hne ?_
  apply Nat.eq_of_testBit_eq
  intro i
  cases hg : (FM.grow ms g).testBit i with
  | false =>
    cases hi : g.testBit i with
    | false => rfl
    | true => rw [FM.grow_bits ms g i hi] at hg; cases hg
  | true =>
    have h60 : i < 60 := by
      refine Nat.lt_of_not_le fun hi => ?_
      have := Nat.testBit_lt_two_pow (Nat.lt_of_lt_of_le hlt (Nat.pow_le_pow_right (by omega) hi))
      rw [this] at hg; cases hg
    cases hi : g.testBit i with
    | true => rfl
    | false => exact absurd ⟨i, List.mem_range.mpr h60, hg, hi⟩ hno
theorem tVal_int {C : CF} {env : Env'} {a : Ev} {i : Int} (e : a C env h = .ok (.int i) h) : tVal a C env h = .ok (i != 0) h := by
  unfold tVal
  rw [e]
  rfl
theorem tBl_bl {C : CF} {env : Env'} {a : Ev} {b : Bool} (e : a C env h = .ok (.bl b) h) : tBl a C env h = .ok b h := by
  unfold tBl
  rw [e]
  rfl
theorem tVal_bl {C : CF} {env : Env'} {a : Ev} {b : Bool} (e : a C env h = .ok (.bl b) h) : tVal a C env h = .ok b h := by
  unfold tVal
  rw [e]
  rfl
theorem gNe_nat (a b : Nat) : gNe (iN a) (iN b) h = .ok (.bl (decide (a ≠ b))) h := by
  rw [gNe_int]
  congr 2
  by_cases e : a = b
  · subst e; simp
  · have : ((a : Int)) ≠ (b : Int) := by omega
    simp [e, this]
theorem r_hanging (B : MB M) {n : Nat} {ms : List Nat} {m0 : Nat} (hm : h[n]? = some (.lst (ms.map iN))) (h0 : ms[0]? = some m0) (hl : ms.length ≤ 100000) (hlt : ∀ m ∈ ms, m < 2 ^ 60) (hne : m0 ≠ 0)
    (hall : ∀ g, FM.grow ms g = g → (∀ k, m0.testBit k = true → g.testBit k = true) → ∀ m ∈ ms, m &&& g ≠ 0) : run M (k + 2) "hanging_with_first" [.ref n] h = .ok (.tup ((List.range ms.length).map iN)) h := by
  refine Ok.val ?_
  rw [run_at B.hanging_with_first rfl, Sk.toR]
  simp only [c_hanging_with_first]
  show Sk (sCons _ _ (Cn M (k + 1)) [some (.ref n), none, none, none, none] h) _
  rw [Sk.cons, Sk.asg]
  simp only [Ok.tg, Ok.con, List.set]
  rw [Sk.cons, Sk.asg]
  have e1 : eBin gIx (eVar 0) (eCon (.int 0)) (Cn M (k + 1)) [some (.ref n), some (.int 0), none, none, none] h = .ok (iN m0) h := gIx_at (i := 0) hm (get_map h0)
  rw [Ok.res e1]
  simp only [Ok.tg, Ok.con, List.set]
  rw [Sk.cons, Sk.while_]
  refine whileS_from (fun m e h' => h' = h ∧ ∃ (j gr : Nat) (u : Option D), e = [some (.ref n), some (iN j), some (iN gr), u, none] ∧ gr < 2 ^ 60 ∧ (∀ k, m0.testBit k = true → gr.testBit k = true) ∧ ((j = 0 ∧ gr ≠ 0 ∧ m = 61) ∨ (gr = FM.grow ms j ∧ j < 2 ^ 60 ∧ m + cnt j = 60))) ?_ 1000000 61 _ _ (by omega) ⟨rfl, 0, m0, none, rfl, hlt _ (List.mem_of_getElem? h0), fun _ z => z, .inl ⟨rfl, hne, rfl⟩⟩
  rintro m e h' ⟨rfl, j, gr, u, rfl, hg, hb, hj⟩
  have e2 : tBl (eBin gNe (eVar 1) (eVar 2)) (Cn M (k + 1)) [some (.ref n), some (iN j), some (iN gr), u, none] h' = .ok (decide (j ≠ gr)) h' := tBl_bl (gNe_nat j gr)
  rw [Ok.res e2]
  by_cases hjg : j = gr
  · subst hjg
    simp only [ne_eq, not_true_eq_false, decide_false, Bool.false_eq_true, if_false]
    have fix : FM.grow ms j = j := by
      rcases hj with ⟨a, b, _⟩ | ⟨a, _⟩
      · exact absurd a b
      · exact a.symm
    rw [Sk.cons, Sk.ret]
    have e3 : goF (eTupG (iRng (rg1 (eArgs oLen (aCons (eVar 0) aNil)))) [("joined", 1), ("masks", 0)] (tVal (eBin gAnd (eBin gIx (eVar 2) (eVar 0)) (eVar 1))) (eVar 0)) (Cn M (k + 1)) [some (.ref n), some (iN j), some (iN j), u, none] h' = .ok (.tup ((List.range ms.length).map iN)) h' := by
      rw [goF_succ]
      have e4 := iRng1_ok (C := Cn M (k + 1)) (env := [some (.ref n), some (iN j), some (iN j), u, none]) (h := h') (a := eArgs oLen (aCons (eVar 0) aNil)) (n := ms.length) ((oLen_at hm).trans (by rw [List.length_map])) hl
      unfold eTupG eG
      rw [e4]
      have e5 := loop_takeD (h := h') (C := (Cn M (k + 1)).inner) (cenv := capE [("joined", 1), ("masks", 0)] [some (.ref n), some (iN j), some (iN j), u, none]) (tt := tVal (eBin gAnd (eBin gIx (eVar 2) (eVar 0)) (eVar 1))) (elt := eVar 0) (List.range ms.length) iN iN (fun _ => true) (by rw [List.length_range]; exact hl) (fun x hx => by
        obtain ⟨a, ha⟩ : ∃ a, ms[x]? = some a := ⟨_, List.getElem?_eq_getElem (List.mem_range.mp hx)⟩
        have e6 : eBin gAnd (eBin gIx (eVar 2) (eVar 0)) (eVar 1) (Cn M (k + 1)).inner [some (iN x), some (iN j), some (.ref n)] h' = .ok (.int ((a &&& j : Nat) : Int)) h' := by
          show ((gIx (.ref n) (iN x) h').bind fun y h1 => gAnd y (iN j) h1) = _
          rw [gIx_at hm (get_map ha)]
          exact gAnd_nat a j
        refine (tVal_int e6).trans ?_
        have := hall j fix hb a (List.mem_of_getElem? ha)
        congr 1
        simp only [bne_iff_ne, ne_eq]
        omega) (fun x hx _ => rfl)
      show ((loopB _ _ _ _ _ _ _ _).bind _) = _
      rw [show Src.size (.items ((List.range ms.length).map iN)) h' = ((List.range ms.length).map iN).length from rfl, e5]
      simp only [Res.bind]
      rw [List.filter_eq_self.mpr fun _ _ => rfl]
    rw [Ok.res e3]
    exact ⟨rfl, rfl⟩
  · simp only [ne_eq, hjg, not_false_eq_true, decide_true, if_true]
    rw [Sk.cons, Sk.asg]
    rw [Ok.res (show eVar 2 (Cn M (k + 1)) [some (.ref n), some (iN j), some (iN gr), u, none] h' = .ok (iN gr) h' from rfl)]
    simp only [Ok.tg, Ok.con, List.set]
    rw [Sk.cons, Sk.for_]
    have e1 : iVal (eVar 0) (Cn M (k + 1)) [some (.ref n), some (iN gr), some (iN gr), u, none] h' = .ok (.at_ n) h' := by
      show (opt (srcD (.ref n) h') fun s => .ok s h') = _
      rw [srcD_at hm]
    rw [Ok.res e1]
    refine forS_ok (ms.map iN) (fun i e h'' => h'' = h' ∧ ∃ v, e = [some (.ref n), some (iN gr), some (iN ((ms.take i).foldl FM.grow1 gr)), v, none]) (fun i e h'' q => by rw [q.1]; exact get_at hm i) (by rw [size_at hm]; exact Nat.le_refl _) ⟨rfl, u, rfl⟩ ?_ ?_
    · rintro e h'' ⟨rfl, v, rfl⟩
      rw [List.take_of_length_le (by simp)]
      have glt : FM.grow ms gr < 2 ^ 60 := FM.grow_lt ms gr hg hlt
      refine ⟨60 - cnt gr, ?_, rfl, gr, FM.grow ms gr, v, rfl, glt, fun k hk => FM.grow_bits ms gr k (hb k hk), .inr ⟨rfl, hg, by have := cnt_le gr; omega⟩⟩
      have := cnt_le gr
      rcases hj with ⟨_, _, c⟩ | ⟨a, b, c⟩
      · omega
      · have : cnt j < cnt gr := by
          rw [a] at hg ⊢
          exact cnt_grow hg (fun z => hjg (by rw [a]; exact z.symm))
        omega
    · rintro i d e h'' hx ⟨rfl, v, rfl⟩
      obtain ⟨a, ha, rfl⟩ := of_get_map hx
      generalize ht : (ms.take i).foldl FM.grow1 gr = t
      have e2 : ((ms.take (i + 1)).foldl FM.grow1 gr) = FM.grow1 t a := by rw [List.take_add_one, ha, List.foldl_append, ht]; rfl
      simp only [Ok.tg, Ok.con, List.set]
      rw [Sk.cons, Sk.if_]
      have e3 : tVal (eBin gAnd (eVar 3) (eVar 2)) (Cn M (k + 1)) [some (.ref n), some (iN gr), some (iN t), some (iN a), none] h'' = .ok (((a &&& t : Nat) : Int) != 0) h'' := tVal_int (gAnd_nat a t)
      rw [Ok.res e3]
      by_cases hz : a &&& t = 0
      · rw [hz]
        simp only [Int.natCast_zero, bne_self_eq_false, Bool.false_eq_true, if_false]
        refine ⟨rfl, some (iN a), ?_⟩
        rw [e2]
        unfold FM.grow1
        rw [if_neg (by simpa using hz)]
      · have : (((a &&& t : Nat) : Int) != 0) = true := by simp only [bne_iff_ne, ne_eq]; omega
        rw [this]
        simp only [if_true]
        rw [Sk.cons, Sk.asg]
        have e4 : eBin gOr (eVar 2) (eVar 3) (Cn M (k + 1)) [some (.ref n), some (iN gr), some (iN t), some (iN a), none] h'' = .ok (iN (t ||| a)) h'' := gOr_nat t a
        rw [Ok.res e4]
        simp only [Ok.tg, Ok.con, List.set]
        refine ⟨rfl, some (iN a), ?_⟩
        rw [e2]
        unfold FM.grow1
        rw [if_pos (by simpa using hz)]
end
end PV
end

section
set_option Elab.async false
set_option linter.all false
set_option maxRecDepth 100000
set_option maxHeartbeats 4000000
/-! V25: == of ints, tuples of ints, lists of them; left_in_rings, first_bar. -/
namespace PV
open PySem PySem.Spec PyProof.Rows L2
section
open Classical
theorem pyWL_eq (f : Nat → PyData) : ∀ xs : List D, pyWL f xs = xs.map (pyW f)
  | [] => rfl
  | x :: xs => by rw [pyWL, pyWL_eq f xs]; rfl
/-- ints, None, tuples of such, n deep -/
def natD : Nat → D → Prop
  | 0, d => (∃ i, d = .int i) ∨ d = .non
  | n + 1, d => ((∃ i, d = .int i) ∨ d = .non) ∨ ∃ xs, d = .tup xs ∧ ∀ x ∈ xs, natD n x
theorem natD_int (n : Nat) (i : Int) : natD n (.int i) := by cases n <;> simp [natD]
theorem natD_tup {n : Nat} {xs : List D} (h : ∀ x ∈ xs, natD n x) : natD (n + 1) (.tup xs) := .inr ⟨xs, rfl, h⟩
theorem canLayAll_of {f : Nat → PyData} : ∀ {xs : List D}, (∀ x ∈ xs, (pyW f x).canLay0 = true) → PyData.canLayAll0 (xs.map (pyW f)) = true
  | [], _ => by rw [List.map_nil, PyData.canLayAll0]
  | x :: xs, h => by
    rw [List.map_cons, PyData.canLayAll0, h x List.mem_cons_self, canLayAll_of fun y hy => h y (List.mem_cons_of_mem _ hy)]
    rfl
theorem depthAll_le {f : Nat → PyData} {n : Nat} : ∀ {xs : List D}, (∀ x ∈ xs, (pyW f x).depth ≤ n) → PyData.depthAll (xs.map (pyW f)) ≤ n
  | [], _ => by rw [List.map_nil, PyData.depthAll]; exact Nat.zero_le _
  | x :: xs, h => by
    rw [List.map_cons, PyData.depthAll]
    exact Nat.max_le.mpr ⟨h x List.mem_cons_self, depthAll_le fun y hy => h y (List.mem_cons_of_mem _ hy)⟩
theorem flat_ok {f : Nat → PyData} {d : D} (h : (∃ i, d = .int i) ∨ d = .non) : (pyW f d).canLay0 = true ∧ (pyW f d).depth = 0 := by
  rcases h with ⟨i, rfl⟩ | rfl
  · rw [pyW, PyData.canLay0, PyData.depth]; exact ⟨rfl, rfl⟩
  · rw [pyW, PyData.canLay0, PyData.depth]; exact ⟨rfl, rfl⟩
theorem natD_ok (f : Nat → PyData) : ∀ (n : Nat) (d : D), natD n d → (pyW f d).canLay0 = true ∧ (pyW f d).depth ≤ n
  | 0, d, h => by have := flat_ok (f := f) h; exact ⟨this.1, by omega⟩
  | n + 1, d, h => by
    rcases h with h | ⟨xs, rfl, h⟩
    · have := flat_ok (f := f) h; exact ⟨this.1, by omega⟩
    · rw [pyW, pyWL_eq, PyData.canLay0, PyData.depth]
      exact ⟨canLayAll_of fun x hx => (natD_ok f n x (h x hx)).1, Nat.succ_le_succ (depthAll_le fun x hx => (natD_ok f n x (h x hx)).2)⟩
theorem eqvAll_iff {f f' : Nat → PyData} : ∀ {xs ys : List D}, (∀ x ∈ xs, ∀ y ∈ ys, PyData.eqv (pyW f x) (pyW f' y) = true ↔ x = y) → (PyData.eqvAll (xs.map (pyW f)) (ys.map (pyW f')) = true ↔ xs = ys)
  | [], [], _ => by rw [List.map_nil, List.map_nil, PyData.eqvAll]; simp
  | [], y :: ys, _ => by rw [List.map_nil, List.map_cons, PyData.eqvAll]; simp
  | x :: xs, [], _ => by rw [List.map_nil, List.map_cons, PyData.eqvAll]; simp
  | x :: xs, y :: ys, h => by
    rw [List.map_cons, List.map_cons, PyData.eqvAll, Bool.and_eq_true, h x List.mem_cons_self y List.mem_cons_self,
      eqvAll_iff fun a ha b hb => h a (List.mem_cons_of_mem _ ha) b (List.mem_cons_of_mem _ hb)]
    constructor
    · rintro ⟨rfl, rfl⟩; rfl
    · intro e; cases e; exact ⟨rfl, rfl⟩
theorem natD_eqv (f f' : Nat → PyData) : ∀ (n : Nat) (d e : D), natD n d → natD n e → (PyData.eqv (pyW f d) (pyW f' e) = true ↔ d = e)
  | 0, d, e, hd, he => by
    rcases hd with ⟨i, rfl⟩ | rfl <;> rcases he with ⟨j, rfl⟩ | rfl <;> simp only [pyW, PyData.eqv] <;> simp
  | n + 1, d, e, hd, he => by
    rcases hd with (⟨i, rfl⟩ | rfl) | ⟨xs, rfl, hx⟩ <;> rcases he with (⟨j, rfl⟩ | rfl) | ⟨ys, rfl, hy⟩
    case inr.inr =>
      rw [pyW, pyW, PyData.eqv, pyWL_eq, pyWL_eq, eqvAll_iff fun a ha b hb => natD_eqv f f' n a b (hx a ha) (hy b hb)]
      simp
    all_goals (simp only [pyW, PyData.eqv] <;> simp)
variable {h : Hs}
theorem shaped_of {f : Nat → PyData} {n : Nat} {d : D} (hn : n ≤ 64) (hd : natD n d) : SeqAt.shaped (pyW f d) = true := by
  obtain ⟨h1, h2⟩ := natD_ok f n d hd
  unfold SeqAt.shaped
  rw [h1, Bool.true_and, decide_eq_true_eq]
  omega
theorem gEq_nat {n : Nat} {d e : D} (hn : n ≤ 64) (hd : natD n d) (he : natD n e) : gEq d e h = .ok (.bl (decide (d = e))) h := by
  unfold gEq
  unfold py2
  rw [shaped_of hn hd, shaped_of hn he]
  simp only [Bool.and_self, if_true]
  congr 2
  rw [Bool.eq_iff_iff, natD_eqv _ _ n d e hd he, decide_eq_true_eq]
theorem gNe_natD {n : Nat} {d e : D} (hn : n ≤ 64) (hd : natD n d) (he : natD n e) : gNe d e h = .ok (.bl (decide (d ≠ e))) h := by
  unfold gNe
  unfold py2
  rw [shaped_of hn hd, shaped_of hn he]
  simp only [Bool.and_self, if_true]
  congr 2
  have := natD_eqv (fun n => pyO (pyWL fun n => pyO (pyWL fun _ => .dict []) h[n]?) h[n]?) (fun n => pyO (pyWL fun n => pyO (pyWL fun _ => .dict []) h[n]?) h[n]?) n d e hd he
  by_cases z : d = e
  · rw [this.mpr z]; simp [z]
  · have : ¬ PyData.eqv (pyW (fun n => pyO (pyWL fun n => pyO (pyWL fun _ => .dict []) h[n]?) h[n]?) d) (pyW (fun n => pyO (pyWL fun n => pyO (pyWL fun _ => .dict []) h[n]?) h[n]?) e) = true := fun w => z (this.mp w)
    rw [Bool.not_eq_true] at this
    rw [this]; simp [z]
theorem shaped_list {f : Nat → PyData} {n : Nat} {xs : List D} (hn : n < 64) (hx : ∀ x ∈ xs, natD n x) : SeqAt.shaped (.list (pyWL f xs)) = true := by
  unfold SeqAt.shaped
  rw [pyWL_eq, PyData.canLay0, PyData.depth, canLayAll_of fun x hx' => (natD_ok f n x (hx x hx')).1, Bool.true_and, decide_eq_true_eq]
  have := depthAll_le (f := f) (n := n) (xs := xs) fun x hx' => (natD_ok f n x (hx x hx')).2
  omega
theorem gNe_lst {n p q : Nat} {xs ys : List D} (hn : n < 64) (hp : h[p]? = some (.lst xs)) (hq : h[q]? = some (.lst ys)) (hx : ∀ x ∈ xs, natD n x) (hy : ∀ y ∈ ys, natD n y) : gNe (.ref p) (.ref q) h = .ok (.bl (decide (xs ≠ ys))) h := by
  have e1 : py2 h (.ref p) = .list (pyWL (fun n => pyO (pyWL fun _ => .dict []) h[n]?) xs) := by
    unfold py2; rw [pyW]; simp only [hp, pyO]
  have e2 : py2 h (.ref q) = .list (pyWL (fun n => pyO (pyWL fun _ => .dict []) h[n]?) ys) := by
    unfold py2; rw [pyW]; simp only [hq, pyO]
  unfold gNe
  rw [e1, e2, shaped_list hn hx, shaped_list hn hy]
  simp only [Bool.and_self, if_true]
  congr 2
  rw [PyData.eqv, pyWL_eq, pyWL_eq]
  have := eqvAll_iff (f := fun n => pyO (pyWL fun _ => .dict []) h[n]?) (f' := fun n => pyO (pyWL fun _ => .dict []) h[n]?) (xs := xs) (ys := ys) fun a ha b hb => natD_eqv _ _ n a b (hx a ha) (hy b hb)
  by_cases z : xs = ys
  · rw [this.mpr z]; simp [z]
  · have w : ¬ PyData.eqvAll (xs.map (pyW fun n => pyO (pyWL fun _ => .dict []) h[n]?)) (ys.map (pyW fun n => pyO (pyWL fun _ => .dict []) h[n]?)) = true := fun w => z (this.mp w)
    rw [Bool.not_eq_true] at w
    rw [w]; simp [z]
end
end PV
end

section
set_option Elab.async false
set_option linter.all false
set_option maxRecDepth 100000
set_option maxHeartbeats 4000000
/-! V26: left_in_rings, first_bar: nothing bars a tree. -/
namespace PV
open PySem PySem.Spec PyProof.Rows L2
section
variable {M : Md} {h : Hs} {k : Nat}
theorem pre_get {h h' : Hs} {n : Nat} {o : O} (p : h <+: h') (e : h[n]? = some o) : h'[n]? = some o := by
  obtain ⟨r, rfl⟩ := p
  rw [List.getElem?_append_left (List.getElem?_eq_some_iff.mp e).1]
  exact e
theorem new_get {h : Hs} {o : O} : (h ++ [o])[h.length]? = some o := by simp
theorem pre_new {h : Hs} {o : O} : h <+: h ++ [o] := ⟨[o], rfl⟩
/-- a list comprehension over a list in the heap, values known ahead, under a test -/
theorem loopB_at {α β : Type} {n : Nat} {t : Tg} {e0 : Env'} {kk : Env' → Hs → β → Res β} {acc : β} (xs : List α) (enc : α → D) (hn : h[n]? = some (.lst (xs.map enc))) (f : β → α → β) (I : β → Nat → Prop) (h0 : I acc 0) (step : ∀ i x acc, xs[i]? = some x → I acc i → Ok (t.run (enc x) e0 h) fun e h1 => kk e h1 acc = .ok (f acc x) h ∧ I (f acc x) (i + 1)) :
    loopB (.at_ n) t e0 kk (Src.size (.at_ n) h + 1) 0 h acc = .ok (xs.foldl f acc) h := by
  have := loopB_ok (src := .at_ n) (t := t) (e0 := e0) (kk := kk) (n := Src.size (.at_ n) h + 1) (h := h) (acc := acc) (xs.map enc) (fun i h' acc' => h' = h ∧ acc' = (xs.take i).foldl f acc ∧ I acc' i) (fun i h' acc' q => by rw [q.1]; exact get_at hn i) (by rw [size_at hn]; exact Nat.le_refl _) ⟨rfl, rfl, h0⟩ fun i d h' acc' hx ⟨e1, e2, e3⟩ => by
    subst e1
    rw [List.getElem?_map] at hx
    cases ex : xs[i]? with
    | none => rw [ex] at hx; cases hx
    | some x =>
      rw [ex] at hx
      cases hx
      refine (step i x acc' ex e3).mono fun e h1 ⟨z1, z2⟩ => ?_
      rw [z1]
      refine ⟨rfl, ?_, z2⟩
      rw [List.take_add_one, ex, List.foldl_append, ← e2]
      rfl
  obtain ⟨a, h', e1, e2, e3, _⟩ := this.eq
  rw [e1, e2, e3, List.length_map, List.take_length]
theorem lc_at {α : Type} {C : CF} {n : Nat} {t : Tg} {e0 : Env'} {tt : Tv} {elt : Ev} (xs : List α) (enc f : α → D) (p : α → Bool) (hn : h[n]? = some (.lst (xs.map enc))) (hl : xs.length ≤ 100000) (he : ∀ x ∈ xs, Ok (t.run (enc x) e0 h) fun e h1 => tt C e h1 = .ok (p x) h ∧ (p x = true → elt C e h = .ok (f x) h)) :
    loopB (.at_ n) t e0 (kOne C tt elt) (Src.size (.at_ n) h + 1) 0 h [] = .ok ((xs.filter p).map f) h := by
  rw [loopB_at xs enc hn (fun a x => if p x then a ++ [f x] else a) (fun a i => a.length ≤ i) (Nat.zero_le _) fun i x acc hx hi => ?_, foldl_filter]
  · rfl
  · have hm := List.mem_of_getElem? hx
    have := (List.getElem?_eq_some_iff.mp hx).1
    refine (he x hm).mono fun e h1 ⟨z1, z2⟩ => ?_
    unfold kOne
    rw [z1]
    simp only [Res.bind]
    cases hp : p x with
    | false => exact ⟨rfl, by simp; omega⟩
    | true =>
      simp only [if_true]
      rw [z2 hp]
      simp only
      rw [show (decide (acc.length < 100000)) = true by rw [decide_eq_true_eq]; omega]
      exact ⟨rfl, by simp; omega⟩
theorem eLC_at {α : Type} {C : CF} {env : Env'} {n : Nat} {a : Ev} {t : Tg} {own : List Nat} {tt : Tv} {elt : Ev} (xs : List α) (enc f : α → D) (p : α → Bool) (ha : a C env h = .ok (.ref n) h) (hn : h[n]? = some (.lst (xs.map enc))) (hl : xs.length ≤ 100000) (he : ∀ x ∈ xs, Ok (t.run (enc x) (wipeE env own) h) fun e h1 => tt C e h1 = .ok (p x) h ∧ (p x = true → elt C e h = .ok (f x) h)) :
    eLC (iVal a) t own tt elt C env h = .ok (.ref h.length) (h ++ [.lst ((xs.filter p).map f)]) := by
  have e1 : iVal a C env h = .ok (.at_ n) h := by
    unfold iVal
    rw [ha]
    show (opt (srcD (.ref n) h) fun s => .ok s h) = _
    rw [srcD_at hn]
  unfold eLC
  rw [e1]
  show ((loopB _ _ _ _ _ _ _ _).bind _) = _
  rw [lc_at xs enc f p hn hl he]
  rfl
theorem ms_get {ms : List Nat} {x : Nat} (hx : x < ms.length) : ms[x]? = some (ms.getD x 0) := by
  rw [List.getD_eq_getElem?_getD, List.getElem?_eq_getElem hx]
  rfl
theorem lstR_ok {C : CF} {env : Env'} {r : Rv} {p : Int × Int} {xs : List D} (e : r C env h = .ok p h) (hp : (rgOk p && decide ((p.2 - p.1).toNat ≤ 100000)) = true) (hx : rangeD p.1 (p.2 - p.1).toNat = xs) : eLstR r C env h = .ok (.ref h.length) (h ++ [.lst xs]) := by
  subst hx
  unfold eLstR
  rw [e]
  simp only [Res.bind]
  rw [hp]
  rfl
theorem lstR0_ok {C : CF} {env : Env'} {r : Rv} {n : Nat} (e : r C env h = .ok (0, (n : Int)) h) (hn : n ≤ 100000) : eLstR r C env h = .ok (.ref h.length) (h ++ [.lst ((List.range n).map iN)]) := by
  refine lstR_ok e ?_ ?_
  · rw [rgOk_is0 hn, Bool.true_and, decide_eq_true_eq]
    simp only [Int.sub_zero, Int.toNat_natCast]
    exact hn
  · simp only [Int.sub_zero, Int.toNat_natCast]
    exact rng0
theorem r_left_in_rings (B : MB M) {n : Nat} {ms : List Nat} (hm : h[n]? = some (.lst (ms.map iN))) (hl : ms.length ≤ 1000) (hno : ∀ L : List Nat, L.Nodup → (∀ k ∈ L, k < ms.length) → (∀ k ∈ L, FM.left2 ms L k = true) → L = []) :
    Ok (run M (k + 2) "left_in_rings" [.ref n] h) fun v h' => v = .tup [] ∧ h <+: h' := by
  rw [run_at B.left_in_rings rfl, Sk.toR]
  simp only [c_left_in_rings]
  show Sk (sCons _ _ (Cn M (k + 1)) [some (.ref n), none, none, none, none] h) _
  rw [Sk.cons, Sk.asg, Ok.res (show eLst aNil (Cn M (k + 1)) [some (.ref n), none, none, none, none] h = .ok (.ref h.length) (h ++ [.lst []]) from rfl)]
  simp only [Ok.tg, Ok.con, List.set]
  generalize hh1 : h ++ [O.lst []] = h1
  have p1 : h <+: h1 := by rw [← hh1]; exact pre_new
  have g1 : h1[h.length]? = some (.lst (([] : List Nat).map iN)) := by rw [← hh1]; exact new_get
  rw [Sk.cons, Sk.asg]
  have e1 : eLstR (rg1 (eArgs oLen (aCons (eVar 0) aNil))) (Cn M (k + 1)) [some (.ref n), some (.ref h.length), none, none, none] h1 = .ok (.ref h1.length) (h1 ++ [.lst ((List.range ms.length).map iN)]) := by
    have e2 : rg1 (eArgs oLen (aCons (eVar 0) aNil)) (Cn M (k + 1)) [some (.ref n), some (.ref h.length), none, none, none] h1 = .ok (0, (ms.length : Int)) h1 := rg1_ok ((oLen_at (pre_get p1 hm)).trans (by rw [List.length_map]))
    exact lstR0_ok e2 (by omega)
  rw [Ok.res e1]
  simp only [Ok.tg, Ok.con, List.set]
  generalize hh2 : h1 ++ [O.lst ((List.range ms.length).map iN)] = h2
  have p2 : h1 <+: h2 := by rw [← hh2]; exact pre_new
  have g2 : h2[h1.length]? = some (.lst ((List.range ms.length).map iN)) := by rw [← hh2]; exact new_get
  rw [Sk.cons, Sk.while_]
  refine whileS_from (fun m e h' => ∃ (p q : Nat) (u : Option D) (L Kp : List Nat), h <+: h' ∧ e = [some (.ref n), some (.ref p), some (.ref q), u, none] ∧ h'[p]? = some (.lst (L.map iN)) ∧ h'[q]? = some (.lst (Kp.map iN)) ∧ Kp.Nodup ∧ (∀ k ∈ Kp, k < ms.length) ∧ Kp.length ≤ ms.length ∧ (L = Kp → ∀ k ∈ L, FM.left2 ms L k = true) ∧ m = 2 * Kp.length + (if L = Kp then 0 else 1)) ?_ 1000000 (2 * ms.length + (if ([] : List Nat) = List.range ms.length then 0 else 1)) _ _ (by split <;> omega)
    ⟨h.length, h1.length, none, [], List.range ms.length, p1.trans p2, rfl, pre_get p2 g1, g2, List.nodup_range, fun k hk => List.mem_range.mp hk, by rw [List.length_range]; exact Nat.le_refl _, fun z k hk => (by cases hk), (by rw [List.length_range])⟩
  rintro m e h' ⟨p, q, u, L, Kp, ph, rfl, gp, gq, nd, lt, len, fin, rfl⟩
  have nat1 : ∀ {l : List Nat}, ∀ x ∈ l.map iN, natD 0 x := fun x hx => by obtain ⟨i, _, rfl⟩ := List.mem_map.mp hx; exact natD_int 0 _
  have inj : ∀ {a b : List Nat}, a.map iN = b.map iN ↔ a = b := fun {a b} => ⟨fun e => by
    have := congrArg (List.map fun d : D => match d with | .int i => i.toNat | _ => 0) e
    rw [List.map_map, List.map_map] at this
    have id1 : ∀ l : List Nat, l.map ((fun d : D => match d with | .int i => i.toNat | _ => 0) ∘ iN) = l := fun l => by
      conv => rhs; rw [← List.map_id l]
      exact List.map_congr_left fun x _ => by simp
    rwa [id1, id1] at this, fun e => by rw [e]⟩
  have e2 : tBl (eBin gNe (eVar 1) (eVar 2)) (Cn M (k + 1)) [some (.ref n), some (.ref p), some (.ref q), u, none] h' = .ok (decide (L ≠ Kp)) h' := by
    have e3 := gNe_lst (n := 0) (by omega) gp gq nat1 nat1
    by_cases z : L = Kp
    · subst z
      rw [tBl_bl e3]
      simp
    · have z2 : L.map iN ≠ Kp.map iN := fun w => z (inj.mp w)
      rw [tBl_bl e3]
      simp [z, z2]
  rw [Ok.res e2]
  by_cases hLK : L = Kp
  · subst hLK
    have : L = [] := hno L nd lt (fin rfl)
    subst this
    simp only [ne_eq, not_true_eq_false, decide_false, Bool.false_eq_true, if_false]
    rw [Sk.cons, Sk.ret]
    have e3 : eArgs oTuple (aCons (eVar 1) aNil) (Cn M (k + 1)) [some (.ref n), some (.ref p), some (.ref q), u, none] h' = .ok (.tup []) h' := by
      show opt (seqD (.ref p) h') _ = _
      rw [seqD_at gp]
      rfl
    rw [Ok.res e3]
    exact ⟨rfl, ph⟩
  · simp only [ne_eq, hLK, not_false_eq_true, decide_true, if_true, if_false]
    rw [Sk.cons, Sk.asg, Ok.res (show eVar 2 (Cn M (k + 1)) [some (.ref n), some (.ref p), some (.ref q), u, none] h' = .ok (.ref q) h' from rfl)]
    simp only [Ok.tg, Ok.con, List.set]
    rw [Sk.cons, Sk.asg]
    -- shared
    have hm' := pre_get ph hm
    have e3 := eLC_at (h := h') (C := Cn M (k + 1)) (env := [some (.ref n), some (.ref q), some (.ref q), u, none]) (n := q) (a := eVar 1) (t := tgName 4) (own := [4]) (tt := tYesV) (elt := eBin gIx (eVar 0) (eVar 4)) Kp iN (fun k => iN (ms.getD k 0)) (fun _ => true) rfl gq (by omega) fun x hx => ⟨rfl, fun _ => gIx_at hm' (get_map (ms_get (lt x hx)))⟩
    rw [List.filter_eq_self.mpr fun _ _ => rfl] at e3
    generalize hh3 : h' ++ [O.lst (Kp.map fun k => iN (ms.getD k 0))] = h3 at e3
    have p3 : h' <+: h3 := by rw [← hh3]; exact pre_new
    have g3 : h3[h'.length]? = some (.lst ((Kp.map fun k => ms.getD k 0).map iN)) := by rw [← hh3, List.map_map]; exact new_get
    have e4 : eCall "twice_held" 1 (aCons (eLC (iVal (eVar 1)) (tgName 4) [4] tYesV (eBin gIx (eVar 0) (eVar 4))) aNil) (Cn M (k + 1)) [some (.ref n), some (.ref q), some (.ref q), u, none] h' = .ok (iN (FM.twice (Kp.map fun k => ms.getD k 0))) h3 := by
      unfold eCall aCons
      rw [e3]
      show run M (k + 1) "twice_held" [.ref h'.length] h3 = _
      exact r_twice_held B g3
    rw [Ok.res e4]
    simp only [Ok.tg, Ok.con, List.set]
    rw [Sk.cons, Sk.asg]
    generalize hsh : FM.twice (Kp.map fun k => ms.getD k 0) = sh
    have hm3 := pre_get p3 hm'
    have e5 := eLC_at (h := h3) (C := Cn M (k + 1)) (env := [some (.ref n), some (.ref q), some (.ref q), some (iN sh), none]) (n := q) (a := eVar 1) (t := tgName 4) (own := [4]) (tt := tVal (eCall "holds_two" 1 (aCons (eBin gAnd (eBin gIx (eVar 0) (eVar 4)) (eVar 3)) aNil))) (elt := eVar 4) Kp iN iN (FM.left2 ms Kp) rfl (pre_get p3 gq) (by omega) fun x hx => ⟨by
        have e6 : eBin gAnd (eBin gIx (eVar 0) (eVar 4)) (eVar 3) (Cn M (k + 1)) [some (.ref n), some (.ref q), some (.ref q), some (iN sh), some (iN x)] h3 = .ok (iN (ms.getD x 0 &&& sh)) h3 := by
          show ((gIx (.ref n) (iN x) h3).bind fun y h1 => gAnd y (iN sh) h1) = _
          rw [gIx_at hm3 (get_map (ms_get (lt x hx)))]
          exact gAnd_nat _ _
        refine tVal_bl ?_
        unfold eCall aCons
        show ((((eBin gAnd (eBin gIx (eVar 0) (eVar 4)) (eVar 3)) (Cn M (k + 1)) [some (.ref n), some (.ref q), some (.ref q), some (iN sh), some (iN x)] h3).bind _).bind _) = _
        rw [e6]
        show run M (k + 1) "holds_two" [iN (ms.getD x 0 &&& sh)] h3 = _
        rw [r_holds_two B]
        unfold FM.left2
        rw [hsh], fun _ => rfl⟩
    rw [Ok.res e5]
    simp only [Ok.tg, Ok.con, List.set]
    refine ⟨2 * (Kp.filter (FM.left2 ms Kp)).length + (if Kp = Kp.filter (FM.left2 ms Kp) then 0 else 1), ?_, q, h3.length, some (iN sh), Kp, Kp.filter (FM.left2 ms Kp), (ph.trans p3).trans pre_new, rfl, pre_get (p3.trans pre_new) gq, new_get, nd.sublist List.filter_sublist, fun k hk => lt k (List.mem_filter.mp hk).1, Nat.le_trans (List.length_filter_le _ _) len, fun z k hk => ?_, rfl⟩
    · by_cases z : Kp = Kp.filter (FM.left2 ms Kp)
      · rw [if_pos z, ← z]; omega
      · rw [if_neg z]
        have h1 := List.length_filter_le (FM.left2 ms Kp) Kp
        have h2 : (Kp.filter (FM.left2 ms Kp)).length ≠ Kp.length := fun w => z (List.filter_eq_self.mpr (List.length_filter_eq_length_iff.mp w)).symm
        omega
    · rw [z] at hk
      exact (List.mem_filter.mp hk).2
end
end PV
end

section
set_option Elab.async false
set_option linter.all false
set_option maxRecDepth 100000
set_option maxHeartbeats 4000000
/-! V27: first_bar of a tree: None. -/
namespace PV
open PySem PySem.Spec PyProof.Rows L2
section
variable {M : Md} {h : Hs} {k n : Nat} {bs : List (List Nat)} {rk : Nat → Nat}
/-- a call of a def of the text, one argument -/
theorem call1 {x : Str} {a : Ev} {env : Env'} {d : D} {j : Nat} {h1 : Hs} {r : Res D} (ha : a (Cn M j) env h = .ok d h1) (hr : run M j x [d] h1 = r) : eCall x 1 (aCons a aNil) (Cn M j) env h = r := by
  unfold eCall aCons
  rw [ha]
  exact hr
theorem isNot_non {C : CF} {env : Env'} {a : Ev} {d : D} (e : a C env h = .ok d h) : tBl (eBin gIsNot a (eCon .non)) C env h = .ok (!d.isNon) h := by
  refine tBl_bl ?_
  unfold eBin
  rw [e]
  rfl
theorem isNot_non' {C : CF} {env : Env'} {a : Ev} {d : D} {h1 : Hs} (e : a C env h = .ok d h1) : tBl (eBin gIsNot a (eCon .non)) C env h = .ok (!d.isNon) h1 := by
  unfold tBl eBin
  rw [e]
  rfl
theorem oLen_tup (xs : List D) : oLen [.tup xs] h = .ok (.int (xs.length : Nat)) h := rfl
theorem gLt_int (i j : Int) : gLt (.int i) (.int j) h = .ok (.bl (decide (i < j))) h := by
  show (if (PySem.W.alike (.int i) (.int j) && (SeqAt.shaped (.int i) && SeqAt.shaped (.int j)) && !D.isNon (.int i)) = true then Res.ok (D.bl (PySem.W.dataLt (.int i) (.int j))) h else .bad) = _
  rw [shaped_int, shaped_int]
  rw [PySem.W.dataLt_int]
  simp [PySem.W.alike, D.isNon]
theorem r_first_bar (B : MB M) (T : FM.Tree n bs rk) (hn : n ≤ 60) (hl : bs.length ≤ 1000) : Ok (run M (k + 4) "first_bar" [famD bs] h) fun v h' => v = .non ∧ h <+: h' := by
  have lt60 := T.mask_lt hn
  have hheld : FM.held (bs.map FM.mask) < 2 ^ 60 := by
    apply Nat.lt_pow_two_of_testBit
    intro k hk
    rw [T.held_bit]
    simp
    omega
  have lms : (bs.map FM.mask).length = bs.length := List.length_map ..
  rw [run_at B.first_bar rfl, Sk.toR]
  simp only [c_first_bar]
  show Sk (sCons _ _ (Cn M (k + 3)) [some (famD bs), none, none, none, none, none] h) _
  rw [Sk.cons, Sk.asg, Ok.res (call1 (d := famD bs) (h1 := h) rfl (r_masks_of B bs (fun b hb x hx => Nat.lt_of_lt_of_le (T.lt b hb x hx) hn) (by omega)))]
  simp only [Ok.tg, Ok.con, List.set]
  generalize hh1 : h ++ [O.lst ((bs.map FM.mask).map iN)] = h1
  have p1 : h <+: h1 := by rw [← hh1]; exact pre_new
  have g1 : h1[h.length]? = some (.lst ((bs.map FM.mask).map iN)) := by rw [← hh1]; exact new_get
  generalize h.length = p at g1
  rw [Sk.cons, Sk.asg, Ok.res (call1 (d := .ref p) (h1 := h1) rfl (r_missing_bead B g1 hheld fun k j hj hb => by
    rw [T.held_bit, decide_eq_true_eq] at hb ⊢
    omega))]
  simp only [Ok.tg, Ok.con, List.set]
  rw [Sk.cons, Sk.if_, Ok.res (isNot_non (d := .non) rfl)]
  simp only [D.isNon, Bool.not_true, Bool.false_eq_true, if_false, Sk.nil]
  rw [Sk.cons, Sk.asg, Ok.res (call1 (d := .ref p) (h1 := h1) rfl (r_first_double B g1 (by omega) T.no_double))]
  simp only [Ok.tg, Ok.con, List.set]
  rw [Sk.cons, Sk.if_, Ok.res (isNot_non (d := .non) rfl)]
  simp only [D.isNon, Bool.not_true, Bool.false_eq_true, if_false, Sk.nil]
  obtain ⟨b0, r0, eb⟩ := T.ne
  have g0 : bs[0]? = some b0 := by rw [eb]; rfl
  have m0 : (bs.map FM.mask)[0]? = some (FM.mask b0) := by rw [List.getElem?_map, g0]; rfl
  obtain ⟨kb, hkb, hbit⟩ := T.first_bit g0
  have hne : FM.mask b0 ≠ 0 := fun z => by rw [z] at hbit; simp at hbit
  rw [Sk.cons, Sk.asg, Ok.res (call1 (d := .ref p) (h1 := h1) rfl (r_hanging B g1 m0 (by omega) lt60 hne fun g hg1 hg2 => T.no_apart g ⟨kb, hkb, hg2 kb hbit⟩ (FM.grow_fix _ g hg1)))]
  simp only [Ok.tg, Ok.con, List.set]
  rw [Sk.cons, Sk.if_]
  have e1 : tBl (eBin gLt (eArgs oLen (aCons (eVar 4) aNil)) (eArgs oLen (aCons (eVar 1) aNil))) (Cn M (k + 3)) [some (famD bs), some (.ref p), some .non, some .non, some (.tup ((List.range (bs.map FM.mask).length).map iN)), none] h1 = .ok false h1 := by
    refine tBl_bl ?_
    show ((oLen [.tup ((List.range (bs.map FM.mask).length).map iN)] h1).bind fun x h2 => (oLen [.ref p] h2).bind fun y h3 => gLt x y h3) = _
    rw [oLen_tup]
    show ((oLen [.ref p] h1).bind fun y h3 => gLt _ y h3) = _
    rw [oLen_at g1]
    show gLt _ _ h1 = _
    rw [gLt_int, List.length_map, List.length_range, List.length_map]
    simp
  rw [Ok.res e1]
  simp only [Bool.false_eq_true, if_false, Sk.nil]
  rw [Sk.cons, Sk.asg]
  have e2 : eCall "left_in_rings" 1 (aCons (eVar 1) aNil) (Cn M (k + 3)) [some (famD bs), some (.ref p), some .non, some .non, some (.tup ((List.range (bs.map FM.mask).length).map iN)), none] h1 = run M (k + 3) "left_in_rings" [.ref p] h1 := call1 (d := .ref p) (h1 := h1) rfl rfl
  rw [e2]
  refine (r_left_in_rings B g1 (by omega) fun L nd lt hL => T.no_ring L nd (fun k hk => by have := lt k hk; omega) hL).mono ?_
  rintro v h2 ⟨rfl, p2⟩
  simp only [Ok.tg, Ok.con, List.set]
  rw [Sk.cons, Sk.if_]
  rw [Ok.res (show tVal (eVar 5) (Cn M (k + 3)) [some (famD bs), some (.ref p), some .non, some .non, some (.tup ((List.range (bs.map FM.mask).length).map iN)), some (.tup [])] h2 = .ok false h2 from rfl)]
  simp only [Bool.false_eq_true, if_false, Sk.nil]
  rw [Sk.cons, Sk.ret, Ok.con]
  exact ⟨rfl, p1.trans p2⟩
end
end PV
end

section
set_option Elab.async false
set_option linter.all false
set_option maxRecDepth 100000
set_option maxHeartbeats 4000000
/-! V28: the checks of families. -/
namespace PV
open PySem PySem.Spec PyProof.Rows L2
structure MC (M : Md) : Prop extends MB M where
  bead_count : At M "bead_count" c_bead_count
  is_integer : At M "is_integer" c_is_integer
  is_between : At M "is_between" c_is_between
  is_ascending : At M "is_ascending" c_is_ascending
  are_integers : At M "are_integers" c_are_integers
  is_bead_tuple : At M "is_bead_tuple" c_is_bead_tuple
  is_bag : At M "is_bag" c_is_bag
  are_bags : At M "are_bags" c_are_bags
section
variable {M : Md} {h : Hs} {k n : Nat} {bs : List (List Nat)} {rk : Nat → Nat}
theorem short_all {C : CF} {env : Env'} {it : Iv} {cap : List (Str × Nat)} {elt : Ev} {xs : List D} (hi : it C env h = .ok (.items xs) h) (he : ∀ d ∈ xs, elt C.inner (some d :: capE cap env) h = .ok (.bl true) h) : eShort false it cap tYesV elt C env h = .ok (.bl true) h := by
  unfold eShort
  rw [hi]
  show loopS false (.items xs) (capE cap env) C.inner tYesV elt (xs.length + 1) 0 h = _
  rw [loopS_items (fun _ => true) (fun d hd => rfl) he xs.length 0 (xs.length + 1) (by omega) (by omega)]
  simp
theorem val_ok {C : CF} {env : Env'} {i : Nat} {d : D} {s : Src} (e : getV env i = some d) (hs : srcD d h = some s) : iVal (eVar i) C env h = .ok s h := by
  unfold iVal eVar
  rw [e]
  show opt (srcD d h) _ = _
  rw [hs]
theorem r_is_integer (B : MC M) (i : Int) : run M (k + 1) "is_integer" [.int i] h = .ok (.bl true) h := by
  rw [run_at B.is_integer rfl]
  rfl
theorem r_is_between (B : MC M) {i a b : Int} (h1 : a ≤ i) (h2 : i ≤ b) : run M (k + 2) "is_between" [.int i, .int a, .int b] h = .ok (.bl true) h := by
  rw [run_at B.is_between rfl]
  refine Ok.val ?_
  rw [Sk.toR]
  simp only [c_is_between]
  show Sk (sCons _ _ (Cn M (k + 1)) [some (.int i), some (.int a), some (.int b)] h) _
  rw [Sk.cons, Sk.ret]
  have e : eAnd (eCall "is_integer" 1 (aCons (eVar 0) aNil)) (eChain gLe gLe (eVar 1) (eVar 0) (eVar 2)) (Cn M (k + 1)) [some (.int i), some (.int a), some (.int b)] h = .ok (.bl true) h := by
    unfold eAnd
    rw [call1 (d := .int i) (h1 := h) rfl (r_is_integer B i)]
    show eChain gLe gLe (eVar 1) (eVar 0) (eVar 2) (Cn M (k + 1)) [some (.int i), some (.int a), some (.int b)] h = _
    have g1 : gLe (.int a) (.int i) h = .ok (.bl true) h := by
      show Res.ok (D.bl (decide (a ≤ i))) h = _
      rw [decide_eq_true h1]
    have g2 : gLe (.int i) (.int b) h = .ok (.bl true) h := by
      show Res.ok (D.bl (decide (i ≤ b))) h = _
      rw [decide_eq_true h2]
    unfold eChain
    rw [show eVar 1 (Cn M (k + 1)) [some (.int i), some (.int a), some (.int b)] h = .ok (.int a) h from rfl]
    simp only [Res.bind]
    rw [show eVar 0 (Cn M (k + 1)) [some (.int i), some (.int a), some (.int b)] h = .ok (.int i) h from rfl]
    simp only
    rw [g1]
    exact g2
  rw [Ok.res e]
  exact ⟨rfl, rfl⟩
theorem gSub_len {m : Nat} (hm : 1 ≤ m) : gSub (iN m) (.int 1) h = .ok (iN (m - 1)) h := by
  show Res.ok (D.int ((m : Int) - 1)) h = _
  rw [show (m : Int) - 1 = ((m - 1 : Nat) : Int) by omega]
theorem r_is_ascending (B : MC M) {xs : List D} (hne : 1 ≤ xs.length) (hl : xs.length ≤ 1000) (ha : ∀ i a b, xs[i]? = some a → xs[i + 1]? = some b → gLt a b h = .ok (.bl true) h) : run M (k + 2) "is_ascending" [.tup xs] h = .ok (.bl true) h := by
  rw [run_at B.is_ascending rfl]
  refine Ok.val ?_
  rw [Sk.toR]
  simp only [c_is_ascending]
  show Sk (sCons _ _ (Cn M (k + 1)) [some (.tup xs), none] h) _
  rw [Sk.cons, Sk.ret, goF_succ]
  have e1 := iRng1_ok (C := Cn M (k + 1)) (env := [some (.tup xs), none]) (h := h) (a := eBin gSub (eArgs oLen (aCons (eVar 0) aNil)) (eCon (.int 1))) (n := xs.length - 1) (gSub_len hne) (by omega)
  rw [Ok.res (short_all e1 fun d hd => ?_)]
  · exact ⟨rfl, rfl⟩
  · obtain ⟨i, hi, rfl⟩ := List.mem_map.mp hd
    have hi := List.mem_range.mp hi
    have ga : xs[i]? = some xs[i] := List.getElem?_eq_getElem (by omega)
    have gb : xs[i + 1]? = some xs[i + 1] := List.getElem?_eq_getElem (by omega)
    have e2 : gAdd (iN i) (.int 1) h = .ok (iN (i + 1)) h := by
      show Res.ok (D.int ((i : Int) + 1)) h = _
      rw [show (i : Int) + 1 = ((i + 1 : Nat) : Int) by omega]
    show ((gIx (.tup xs) (iN i) h).bind fun x h1 => ((gAdd (iN i) (.int 1) h1).bind fun y h2 => gIx (.tup xs) y h2).bind fun y h3 => gLt x y h3) = _
    rw [gIx_tup ga]
    show (((gAdd (iN i) (.int 1) h).bind fun y h2 => gIx (.tup xs) y h2).bind fun y h3 => gLt xs[i] y h3) = _
    rw [e2]
    show ((gIx (.tup xs) (iN (i + 1)) h).bind fun y h3 => gLt xs[i] y h3) = _
    rw [gIx_tup gb]
    exact ha i _ _ ga gb
theorem asc_at {b : List Nat} (h : FM.Asc b) {i x y : Nat} (hx : b[i]? = some x) (hy : b[i + 1]? = some y) : x < y := by
  have hi := (List.getElem?_eq_some_iff.mp hx)
  have hj := (List.getElem?_eq_some_iff.mp hy)
  have := List.pairwise_iff_getElem.mp h i (i + 1) hi.1 hj.1 (by omega)
  rw [hi.2, hj.2] at this
  exact this
/-- a bag: ascending, of beads below 60, two or more -/
structure BagOk (b : List Nat) : Prop where
  asc : FM.Asc b
  two : 2 ≤ b.length
  lt : ∀ x ∈ b, x < 60
theorem BagOk.len {b : List Nat} (q : BagOk b) : b.length ≤ 60 := by
  have nd : b.Nodup := q.asc.imp fun h => Nat.ne_of_lt h
  have sub : b ⊆ List.range 60 := fun x hx => List.mem_range.mpr (q.lt x hx)
  have := nd.length_le_of_subset sub
  rwa [List.length_range] at this
theorem r_are_integers (B : MC M) {xs : List Int} {a b : Int} (hx : ∀ x ∈ xs, a ≤ x ∧ x ≤ b) : run M (k + 4) "are_integers" [.tup (xs.map D.int), .int a, .int b] h = .ok (.bl true) h := by
  rw [run_at B.are_integers rfl]
  refine Ok.val ?_
  rw [Sk.toR]
  simp only [c_are_integers]
  show Sk (sCons _ _ (Cn M (k + 3)) [some (.tup (xs.map D.int)), some (.int a), some (.int b), none] h) _
  rw [Sk.cons, Sk.ret]
  have e : eAnd (eArgs oIsi (aCons (eVar 0) (aCons (eCon (.ty "tuple")) aNil))) (goF (eShort false (iVal (eVar 0)) [("least", 1), ("most", 2)] tYesV (eCall "is_between" 3 (aCons (eVar 0) (aCons (eVar 1) (aCons (eVar 2) aNil)))))) (Cn M (k + 3)) [some (.tup (xs.map D.int)), some (.int a), some (.int b), none] h = .ok (.bl true) h := by
    unfold eAnd
    rw [show eArgs oIsi (aCons (eVar 0) (aCons (eCon (.ty "tuple")) aNil)) (Cn M (k + 3)) [some (.tup (xs.map D.int)), some (.int a), some (.int b), none] h = .ok (.bl true) h from rfl]
    show eShort false (iVal (eVar 0)) [("least", 1), ("most", 2)] tYesV (eCall "is_between" 3 (aCons (eVar 0) (aCons (eVar 1) (aCons (eVar 2) aNil)))) (Cn M (k + 3)) [some (.tup (xs.map D.int)), some (.int a), some (.int b), none] h = _
    refine short_all (val_ok (d := .tup (xs.map D.int)) (s := .items (xs.map D.int)) rfl rfl) fun d hd => ?_
    obtain ⟨x, hx', rfl⟩ := List.mem_map.mp hd
    have := hx x hx'
    show run M (k + 2) "is_between" [.int x, .int a, .int b] h = _
    exact r_is_between B this.1 this.2
  rw [Ok.res e]
  exact ⟨rfl, rfl⟩
theorem r_is_bead_tuple (B : MC M) {b : List Nat} (q : BagOk b) : run M (k + 5) "is_bead_tuple" [bagD b] h = .ok (.bl true) h := by
  have hl := q.len
  have hb2 := q.two
  rw [run_at B.is_bead_tuple rfl]
  refine Ok.val ?_
  rw [Sk.toR]
  simp only [c_is_bead_tuple]
  show Sk (sCons _ _ (Cn M (k + 4)) [some (bagD b)] h) _
  rw [Sk.cons, Sk.ret]
  have e : eAnd (eCall "are_integers" 3 (aCons (eVar 0) (aCons (eCon (.int 0)) (aCons (eBin gSub (eCon (.int 60)) (eCon (.int 1))) aNil)))) (eCall "is_ascending" 1 (aCons (eVar 0) aNil)) (Cn M (k + 4)) [some (bagD b)] h = .ok (.bl true) h := by
    unfold eAnd
    have e1 : eCall "are_integers" 3 (aCons (eVar 0) (aCons (eCon (.int 0)) (aCons (eBin gSub (eCon (.int 60)) (eCon (.int 1))) aNil))) (Cn M (k + 4)) [some (bagD b)] h = .ok (.bl true) h := by
      show run M (k + 4) "are_integers" [bagD b, .int 0, .int (60 - 1)] h = _
      have eb : bagD b = .tup ((b.map fun (x : Nat) => (x : Int)).map D.int) := by rw [List.map_map]; rfl
      rw [eb]
      refine r_are_integers B fun x hx => ?_
      obtain ⟨y, hy, rfl⟩ := List.mem_map.mp hx
      have := q.lt y hy
      omega
    rw [e1]
    show eCall "is_ascending" 1 (aCons (eVar 0) aNil) (Cn M (k + 4)) [some (bagD b)] h = _
    refine call1 (d := bagD b) (h1 := h) rfl (r_is_ascending B (by rw [List.length_map]; omega) (by rw [List.length_map]; omega) fun i a c ga gc => ?_)
    obtain ⟨x, hx, rfl⟩ := of_get_map ga
    obtain ⟨y, hy, rfl⟩ := of_get_map gc
    rw [gLt_int]
    have := asc_at q.asc hx hy
    rw [decide_eq_true (by omega)]
  rw [Ok.res e]
  exact ⟨rfl, rfl⟩
theorem r_is_bag (B : MC M) {b : List Nat} (q : BagOk b) : run M (k + 6) "is_bag" [bagD b] h = .ok (.bl true) h := by
  rw [run_at B.is_bag rfl]
  refine Ok.val ?_
  rw [Sk.toR]
  simp only [c_is_bag]
  show Sk (sCons _ _ (Cn M (k + 5)) [some (bagD b)] h) _
  rw [Sk.cons, Sk.ret]
  have e : eAnd (eCall "is_bead_tuple" 1 (aCons (eVar 0) aNil)) (eBin gGe (eArgs oLen (aCons (eVar 0) aNil)) (eCon (.int 2))) (Cn M (k + 5)) [some (bagD b)] h = .ok (.bl true) h := by
    unfold eAnd
    rw [call1 (d := bagD b) (h1 := h) rfl (r_is_bead_tuple B q)]
    show Res.ok (D.bl (decide ((2 : Int) ≤ (((b.map iN).length : Nat) : Int)))) h = _
    have := q.two
    rw [decide_eq_true (by rw [List.length_map]; omega)]
  rw [Ok.res e]
  exact ⟨rfl, rfl⟩
end
end PV
end

section
set_option Elab.async false
set_option linter.all false
set_option maxRecDepth 100000
set_option maxHeartbeats 4000000
/-! V29: are_bags, check_family, makes_family, bead_count of a family. -/
namespace PV
open PySem PySem.Spec PyProof.Rows L2
abbrev natI (b : List Nat) : List Int := b.map fun (n : Nat) => (n : Int)
/-- a family: a tree of few beads, its bags in order -/
structure Fam (n : Nat) (bs : List (List Nat)) (rk : Nat → Nat) : Prop where
  tree : FM.Tree n bs rk
  most : n ≤ 60
  few : bs.length ≤ 60
  srt : ∀ (i : Nat) (a b : List Nat), bs[i]? = some a → bs[i + 1]? = some b → natI a < natI b
structure MF (M : Md) : Prop extends MC M where
  check_bags : At M "check_bags" c_check_bags
  check_family : At M "check_family" c_check_family
  makes_family : At M "makes_family" c_makes_family
  is_family : At M "is_family" c_is_family
section
variable {M : Md} {h : Hs} {k n : Nat} {bs : List (List Nat)} {rk : Nat → Nat}
theorem Fam.bag (F : Fam n bs rk) {b : List Nat} (hb : b ∈ bs) : BagOk b := ⟨F.tree.asc b hb, F.tree.two b hb, fun x hx => Nat.lt_of_lt_of_le (F.tree.lt b hb x hx) F.most⟩
theorem py0_bag (b : List Nat) : py0 (bagD b) = .tuple ((natI b).map PyData.int) := by
  show pyW _ (.tup (b.map iN)) = _
  rw [pyW, pyWL_eq, List.map_map, List.map_map]
  congr 1
theorem alike_ints : ∀ xs ys : List Int, PySem.W.alikeAll (xs.map PyData.int) (ys.map PyData.int) = true
  | [], _ => by rw [List.map_nil, PySem.W.alikeAll]
  | _ :: _, [] => by rw [List.map_nil, List.map_cons, PySem.W.alikeAll]
  | x :: xs, y :: ys => by
    rw [List.map_cons, List.map_cons, PySem.W.alikeAll, alike_ints xs ys, PySem.W.alike]
    rfl
theorem nat_bag (b : List Nat) : natD 1 (bagD b) := natD_tup fun x hx => by obtain ⟨i, _, rfl⟩ := List.mem_map.mp hx; exact natD_int 0 _
theorem nat_fam (bs : List (List Nat)) : natD 2 (famD bs) := natD_tup fun x hx => by obtain ⟨i, _, rfl⟩ := List.mem_map.mp hx; exact nat_bag _
theorem gLt_bag (a b : List Nat) : gLt (bagD a) (bagD b) h = .ok (.bl (decide (natI a < natI b))) h := by
  have s1 : SeqAt.shaped (py0 (bagD a)) = true := shaped_of (n := 1) (by omega) (nat_bag a)
  have s2 : SeqAt.shaped (py0 (bagD b)) = true := shaped_of (n := 1) (by omega) (nat_bag b)
  have al : PySem.W.alike (py0 (bagD a)) (py0 (bagD b)) = true := by rw [py0_bag, py0_bag, PySem.W.alike]; exact alike_ints _ _
  have dl : PySem.W.dataLt (py0 (bagD a)) (py0 (bagD b)) = decide (natI a < natI b) := by
    rw [py0_bag, py0_bag, PySem.W.dataLt_tuple]
    exact PySem.W.dataLt_ints _ _
  unfold gLt
  rw [s1, s2, al, dl]
  simp [D.isNon]
theorem r_are_bags (B : MC M) (F : Fam n bs rk) : run M (k + 8) "are_bags" [famD bs] h = .ok (.bl true) h := by
  obtain ⟨b0, r0, eb⟩ := F.tree.ne
  have hl := F.few
  have h1 : 1 ≤ bs.length := by rw [eb]; simp
  rw [run_at B.are_bags rfl]
  refine Ok.val ?_
  rw [Sk.toR]
  simp only [c_are_bags]
  show Sk (sCons _ _ (Cn M (k + 7)) [some (famD bs), none] h) _
  have e0 : tOrV (tNotV (tVal (eArgs oIsi (aCons (eVar 0) (aCons (eCon (.ty "tuple")) aNil))))) (tNotV (tVal (eVar 0))) (Cn M (k + 7)) [some (famD bs), none] h = .ok false h := by
    rw [eb]
    rfl
  rw [Sk.cons, Sk.if_, Ok.res e0]
  simp only [Bool.false_eq_true, if_false, Sk.nil]
  rw [Sk.cons, Sk.ret]
  have e : eAnd (goF (eShort false (iVal (eVar 0)) [] tYesV (eCall "is_bag" 1 (aCons (eVar 0) aNil)))) (eCall "is_ascending" 1 (aCons (eVar 0) aNil)) (Cn M (k + 7)) [some (famD bs), none] h = .ok (.bl true) h := by
    unfold eAnd
    rw [goF_succ, short_all (val_ok (d := famD bs) (s := .items (bs.map bagD)) rfl rfl) fun d hd => ?_]
    · show eCall "is_ascending" 1 (aCons (eVar 0) aNil) (Cn M (k + 7)) [some (famD bs), none] h = _
      refine call1 (d := famD bs) (h1 := h) rfl (r_is_ascending B (by rw [List.length_map]; omega) (by rw [List.length_map]; omega) fun i a c ga gc => ?_)
      obtain ⟨x, hx, rfl⟩ := of_get_map ga
      obtain ⟨y, hy, rfl⟩ := of_get_map gc
      rw [gLt_bag, decide_eq_true (F.srt i x y hx hy)]
    · obtain ⟨x, hx, rfl⟩ := List.mem_map.mp hd
      show run M (k + 6) "is_bag" [bagD x] h = _
      exact r_is_bag B (F.bag hx)
  rw [Ok.res e]
  exact ⟨rfl, rfl⟩
theorem r_check_bags (B : MF M) (F : Fam n bs rk) : run M (k + 9) "check_bags" [famD bs] h = .ok .non h := by
  rw [run_at B.check_bags rfl]
  refine Ok.val ?_
  rw [Sk.toR]
  simp only [c_check_bags]
  show Sk (sCons _ _ (Cn M (k + 8)) [some (famD bs)] h) _
  have e0 : tNotV (tVal (eCall "are_bags" 1 (aCons (eVar 0) aNil))) (Cn M (k + 8)) [some (famD bs)] h = .ok false h := by
    unfold tNotV
    rw [tVal_bl (call1 (d := famD bs) (h1 := h) rfl (r_are_bags B.toMC F))]
    rfl
  rw [Sk.cons, Sk.if_, Ok.res e0]
  exact ⟨trivial, rfl⟩
theorem r_check_family (B : MF M) (F : Fam n bs rk) : Ok (run M (k + 10) "check_family" [famD bs] h) fun v h' => v = .non ∧ h <+: h' := by
  rw [run_at B.check_family rfl, Sk.toR]
  simp only [c_check_family]
  show Sk (sCons _ _ (Cn M (k + 9)) [some (famD bs)] h) _
  rw [Sk.cons, Sk.expr, Ok.res (call1 (d := famD bs) (h1 := h) rfl (r_check_bags B F))]
  simp only
  rw [Sk.cons, Sk.if_]
  obtain ⟨v, h', e, rfl, p⟩ := (r_first_bar (h := h) (k := k + 5) B.toMB F.tree F.most (by have := F.few; omega)).eq
  rw [Ok.res (isNot_non' (call1 (d := famD bs) (h1 := h) rfl e))]
  exact ⟨trivial, p⟩
end
end PV
end

section
set_option Elab.async false
set_option linter.all false
set_option maxRecDepth 100000
set_option maxHeartbeats 4000000
/-! V30: the laws' draws. -/
namespace PV
open PySem PySem.Spec PyProof.Rows L2
section
variable {M : Md} {h h' h'' : Hs} {k r : Nat} {ns : List Int} {C : CF} {env : Env'}
theorem rowIx {xs : List D} {j : Nat} {z : Int} {d : D} (hr : h[r]? = some (.lst xs)) (hx : xs[j]? = some d) (he : getV env 0 = some (.ref r)) (hz : z = (j : Nat) := by rfl) : eBin gIx (eVar 0) (eCon (.int z)) C env h = .ok d h := by
  subst hz
  unfold eBin eVar eCon
  rw [he]
  exact gIx_at hr hx
theorem rowSet {xs : List D} {j : Nat} {z : Int} {v : D} {a : Ev} {E : Ek} (hr : h[r]? = some (.lst xs)) (hj : j < xs.length) (he : getV env 0 = some (.ref r)) (ha : a C env h = .ok v h) (hz : z = (j : Nat) := by rfl) : Sk (sSetIx a (eVar 0) (eCon (.int z)) C env h) E ↔ E.nx env (h.set r (.lst (xs.set j v))) := by
  subst hz
  have e : setD (.ref r) (.int (j : Nat)) v h = some (h.set r (.lst (xs.set j v))) := by
    have e1 : ixN xs.length ((j : Nat) : Int) = some j := by
      unfold ixN
      rw [if_pos (by omega), if_pos (by omega)]
      simp
    unfold setD
    simp only [refD, Option.bind_some, hr, intD, e1, Option.map_some]
  unfold sSetIx eVar eCon
  rw [ha, he]
  simp only [Res.toS, opt]
  rw [e]
  exact Iff.rfl
/-- the draws' row -/
def RowOk (h : Hs) (r : Nat) (ns : List Int) : Prop := ∃ (i : Nat) (x y : Int), h[r]? = some (.lst [.scr ns, iN i, .int x, .int y]) ∧ 0 ≤ x ∧ x < 2147483648
/-- all but the object r is kept -/
structure But (r : Nat) (h h' : Hs) : Prop where
  len : h.length ≤ h'.length
  keep : ∀ j o, j ≠ r → h[j]? = some o → h'[j]? = some o
theorem But.refl : But r h h := ⟨Nat.le_refl _, fun _ _ _ e => e⟩
theorem But.trans (a : But r h h') (b : But r h' h'') : But r h h'' := ⟨Nat.le_trans a.len b.len, fun j o hj e => b.keep j o hj (a.keep j o hj e)⟩
theorem But.pre (p : h <+: h') : But r h h' := ⟨p.length_le, fun j o _ e => pre_get p e⟩
theorem But.set {o : O} : But r h (h.set r o) := ⟨by rw [List.length_set]; exact Nat.le_refl _, fun j u hj e => by rw [List.getElem?_set_ne (fun z => hj z.symm)]; exact e⟩
theorem set_get {xs : List D} {o : O} (hr : h[r]? = some (.lst xs)) : (h.set r o)[r]? = some o := List.getElem?_set_self (List.getElem?_eq_some_iff.mp hr).1
theorem RowOk.keep (q : RowOk h r ns) (p : h <+: h') : RowOk h' r ns := let ⟨i, x, y, e, h1, h2⟩ := q; ⟨i, x, y, pre_get p e, h1, h2⟩
theorem mod_nat {i : Int} {m : Nat} (hm : 1 ≤ m) : ∃ t : Nat, i % (m : Int) = (t : Int) ∧ t < m := by
  have h1 := Int.emod_nonneg i (b := (m : Int)) (by omega)
  have h2 := Int.emod_lt_of_pos i (b := (m : Int)) (by omega)
  exact ⟨(i % (m : Int)).toNat, by omega, by omega⟩
theorem gMod_ok {i k : Int} (hk : 0 < k) : gMod (.int i) (.int k) h = .ok (.int (i % k)) h := by
  show (if (decide (0 < k)) = true then Res.ok (D.int (i % k)) h else .bad) = _
  rw [if_pos (decide_eq_true hk)]
theorem gDiv_ok {i k : Int} (hk : 0 < k) (hb : k.natAbs.log2 < 9000) : gDiv (.int i) (.int k) h = .ok (.int (i / k)) h := by
  show (if (decide (0 < k) && decide (k.natAbs.log2 < 9000)) = true then Res.ok (D.int (i / k)) h else .bad) = _
  rw [if_pos (by rw [decide_eq_true hk, decide_eq_true hb]; rfl)]
theorem gMul_ok {i k : Int} (hb : i.natAbs.log2 + k.natAbs.log2 < 1000000) : gMul (.int i) (.int k) h = .ok (.int (i * k)) h := by
  show (if decide (i.natAbs.log2 + k.natAbs.log2 < 1000000) = true then Res.ok (D.int (i * k)) h else .bad) = _
  rw [if_pos (decide_eq_true hb)]
theorem log2_lt {m j : Nat} (hm : m < 2 ^ j) (hj : 0 < j) : m.log2 < j := by
  by_cases z : m = 0
  · subst z; simpa using hj
  · exact (Nat.log2_lt z).mpr hm
theorem bin_ok {f : Op2} {a b : Ev} {x y : D} (ha : a C env h = .ok x h) (hb : b C env h = .ok y h) : eBin f a b C env h = f x y h := by
  unfold eBin
  rw [ha]
  simp only [Res.bind]
  rw [hb]
theorem bin_ok2 {f : Op2} {a b : Ev} {x y : D} {h1 h2 : Hs} (ha : a C env h = .ok x h1) (hb : b C env h1 = .ok y h2) : eBin f a b C env h = f x y h2 := by
  unfold eBin
  rw [ha]
  simp only [Res.bind]
  rw [hb]
theorem arg1_ok {f : OpN} {a : Ev} {x : D} (ha : a C env h = .ok x h) : eArgs f (aCons a aNil) C env h = f [x] h := by
  unfold eArgs aCons
  rw [ha]
  rfl
theorem oInt_int (i : Int) : oInt [.int i] h = .ok (.int i) h := rfl
theorem con_ok (d : D) : eCon d C env h = .ok d h := rfl
theorem var_ok {i : Nat} {d : D} (e : getV env i = some d) : eVar i C env h = .ok d h := by
  unfold eVar
  rw [e]
theorem gGt_ok {i k : Int} : gGt (.int i) (.int k) h = .ok (.bl (decide (k < i))) h := rfl
theorem gGe_ok {i k : Int} : gGe (.int i) (.int k) h = .ok (.bl (decide (k ≤ i))) h := rfl
theorem gAdd_ok {i k : Int} : gAdd (.int i) (.int k) h = .ok (.int (i + k)) h := rfl
theorem gSub_ok {i k : Int} : gSub (.int i) (.int k) h = .ok (.int (i - k)) h := rfl
theorem taken_next {i : Int} {x : Int} : 0 ≤ x % 2147483647 ∧ x % 2147483647 < 2147483648 := ⟨Int.emod_nonneg _ (by omega), by have := Int.emod_lt_of_pos x (b := 2147483647) (by omega); omega⟩
theorem r_taken (A : At M "_law_taken" c_law_taken) {many : Nat} (hm : 1 ≤ many) (hm2 : many ≤ 100000) (R : RowOk h r ns) : Ok (run M (k + 1) "_law_taken" [.ref r, iN many] h) fun v h' => ∃ t : Nat, v = iN t ∧ t < many ∧ RowOk h' r ns ∧ But r h h' := by
  obtain ⟨i, x, y, hr, hx0, hx1⟩ := R
  have mlog : (((many : Nat) : Int)).natAbs.log2 < 9000 := by
    rw [Int.natAbs_natCast]
    have : many < 2 ^ 17 := by omega
    have := log2_lt this (by omega)
    omega
  have xlog : ∀ {x : Int}, 0 ≤ x → x < 2147483648 → x.natAbs.log2 + (48271 : Int).natAbs.log2 < 1000000 := fun {x} h0 h1 => by
    have : x.natAbs < 2 ^ 31 := by omega
    have a := log2_lt this (by omega)
    have b : (48271 : Int).natAbs.log2 < 16 := log2_lt (m := (48271 : Int).natAbs) (j := 16) (by decide) (by omega)
    omega
  rw [run_at A rfl, Sk.toR]
  simp only [c_law_taken]
  show Sk (sCons _ _ (Cn M k) [some (.ref r), some (iN many), none, none] h) _
  have g3 := rowIx (C := Cn M k) (env := [some (.ref r), some (iN many), none, none]) (z := 3) (j := 3) hr rfl rfl
  have t0 : tBl (eBin gGt (eBin gIx (eVar 0) (eCon (.int 3))) (eCon (.int 0))) (Cn M k) [some (.ref r), some (iN many), none, none] h = .ok (decide (0 < y)) h := tBl_bl ((bin_ok g3 (con_ok _)).trans gGt_ok)
  rw [Sk.cons, Sk.if_, Ok.res t0]
  by_cases hy : 0 < y
  · rw [decide_eq_true hy]
    simp only [if_true]
    obtain ⟨t, et, ht⟩ := mod_nat (i := y) hm
    have e1 : eBin gMod (eArgs oInt (aCons (eBin gIx (eVar 0) (eCon (.int 3))) aNil)) (eVar 1) (Cn M k) [some (.ref r), some (iN many), none, none] h = .ok (iN t) h := by
      rw [bin_ok ((arg1_ok g3).trans (oInt_int y)) (var_ok (i := 1) (d := iN many) rfl), gMod_ok (by omega), et]
    rw [Sk.cons, Sk.asg, Ok.res e1]
    simp only [Ok.tg, Ok.con, List.set]
    have g3' := rowIx (C := Cn M k) (env := [some (.ref r), some (iN many), none, some (iN t)]) (z := 3) (j := 3) hr rfl rfl
    have e2 : eBin gDiv (eBin gIx (eVar 0) (eCon (.int 3))) (eVar 1) (Cn M k) [some (.ref r), some (iN many), none, some (iN t)] h = .ok (.int (y / many)) h := by
      rw [bin_ok g3' (var_ok (i := 1) (d := iN many) rfl), gDiv_ok (by omega) mlog]
    rw [Sk.cons, rowSet (z := 3) (j := 3) hr (by simp) rfl e2]
    simp only [List.set]
    rw [Sk.cons, Sk.ret, Ok.res (var_ok (i := 3) (d := iN t) rfl)]
    exact ⟨t, rfl, ht, ⟨i, x, y / many, set_get hr, hx0, hx1⟩, But.set⟩
  · rw [decide_eq_false hy]
    simp only [Bool.false_eq_true, if_false, Sk.nil]
    have g1 := rowIx (C := Cn M k) (env := [some (.ref r), some (iN many), none, none]) (z := 1) (j := 1) hr rfl rfl
    have e1 : eBin gAdd (eBin gIx (eVar 0) (eCon (.int 1))) (eCon (.int 1)) (Cn M k) [some (.ref r), some (iN many), none, none] h = .ok (iN (i + 1)) h := by
      rw [bin_ok g1 (con_ok _), gAdd_ok]
      rfl
    rw [Sk.cons, rowSet (z := 1) (j := 1) hr (by simp) rfl e1]
    simp only [List.set]
    generalize hh1 : h.set r (O.lst [.scr ns, iN (i + 1), .int x, .int y]) = h1
    have b1 : But r h h1 := by rw [← hh1]; exact But.set
    have hr1 : h1[r]? = some (.lst [.scr ns, iN (i + 1), .int x, .int y]) := by rw [← hh1]; exact set_get hr
    have g0 := rowIx (C := Cn M k) (env := [some (.ref r), some (iN many), none, none]) (z := 0) (j := 0) hr1 rfl rfl
    have g1 := rowIx (C := Cn M k) (env := [some (.ref r), some (iN many), none, none]) (z := 1) (j := 1) hr1 rfl rfl
    have g2 := rowIx (C := Cn M k) (env := [some (.ref r), some (iN many), none, none]) (z := 2) (j := 2) hr1 rfl rfl
    have ol : oLen [.scr ns] h1 = .ok (iN ns.length) h1 := by
      show Res.ok (D.int (((ns.map D.int).length : Nat) : Int)) h1 = _
      rw [List.length_map]
    have t1 : tBl (eBin gGt (eBin gIx (eVar 0) (eCon (.int 1))) (eArgs oLen (aCons (eBin gIx (eVar 0) (eCon (.int 0))) aNil))) (Cn M k) [some (.ref r), some (iN many), none, none] h1 = .ok (decide ((ns.length : Int) < ((i + 1 : Nat) : Int))) h1 := tBl_bl ((bin_ok g1 ((arg1_ok g0).trans ol)).trans gGt_ok)
    rw [Sk.cons, Sk.if_, Ok.res t1]
    by_cases hi : (ns.length : Int) < ((i + 1 : Nat) : Int)
    · rw [decide_eq_true hi]
      simp only [if_true]
      have e2 : eBin gMod (eArgs oInt (aCons (eBin gAdd (eBin gMul (eBin gIx (eVar 0) (eCon (.int 2))) (eCon (.int 48271))) (eCon (.int 11))) aNil)) (eCon (.int 2147483647)) (Cn M k) [some (.ref r), some (iN many), none, none] h1 = .ok (.int ((x * 48271 + 11) % 2147483647)) h1 := by
        have e3 : eBin gMul (eBin gIx (eVar 0) (eCon (.int 2))) (eCon (.int 48271)) (Cn M k) [some (.ref r), some (iN many), none, none] h1 = .ok (.int (x * 48271)) h1 := (bin_ok g2 (con_ok _)).trans (gMul_ok (xlog hx0 hx1))
        rw [bin_ok ((arg1_ok ((bin_ok e3 (con_ok _)).trans gAdd_ok)).trans (oInt_int _)) (con_ok _), gMod_ok (by omega)]
      rw [Sk.cons, rowSet (z := 2) (j := 2) hr1 (by simp) rfl e2]
      simp only [List.set]
      obtain ⟨x0, x1⟩ := taken_next (i := 0) (x := x * 48271 + 11)
      generalize (x * 48271 + 11) % 2147483647 = x2 at x0 x1
      generalize hh2 : h1.set r (O.lst [.scr ns, iN (i + 1), .int x2, .int y]) = h2
      have b2 : But r h1 h2 := by rw [← hh2]; exact But.set
      have hr2 : h2[r]? = some (.lst [.scr ns, iN (i + 1), .int x2, .int y]) := by rw [← hh2]; exact set_get hr1
      have g2' := rowIx (C := Cn M k) (env := [some (.ref r), some (iN many), none, none]) (z := 2) (j := 2) hr2 rfl rfl
      obtain ⟨t, et, ht⟩ := mod_nat (i := x2 / 7) hm
      have e4 : eBin gMod (eArgs oInt (aCons (eBin gDiv (eBin gIx (eVar 0) (eCon (.int 2))) (eCon (.int 7))) aNil)) (eVar 1) (Cn M k) [some (.ref r), some (iN many), none, none] h2 = .ok (iN t) h2 := by
        have e5 : eBin gDiv (eBin gIx (eVar 0) (eCon (.int 2))) (eCon (.int 7)) (Cn M k) [some (.ref r), some (iN many), none, none] h2 = .ok (.int (x2 / 7)) h2 := (bin_ok g2' (con_ok _)).trans (gDiv_ok (by omega) (by decide))
        rw [bin_ok ((arg1_ok e5).trans (oInt_int _)) (var_ok (i := 1) (d := iN many) rfl), gMod_ok (by omega), et]
      rw [Sk.cons, Sk.ret, Ok.res e4]
      exact ⟨t, rfl, ht, ⟨i + 1, x2, y, hr2, x0, x1⟩, b1.trans b2⟩
    · rw [decide_eq_false hi]
      simp only [Bool.false_eq_true, if_false, Sk.nil]
      have hlen : i < ns.length := by omega
      have e2 : eBin gIx (eBin gIx (eVar 0) (eCon (.int 0))) (eBin gSub (eBin gIx (eVar 0) (eCon (.int 1))) (eCon (.int 1))) (Cn M k) [some (.ref r), some (iN many), none, none] h1 = .ok (.int ns[i]) h1 := by
        have e3 : eBin gSub (eBin gIx (eVar 0) (eCon (.int 1))) (eCon (.int 1)) (Cn M k) [some (.ref r), some (iN many), none, none] h1 = .ok (iN i) h1 := by
          rw [bin_ok g1 (con_ok _), gSub_ok]
          rw [show ((i + 1 : Nat) : Int) - 1 = (i : Int) by omega]
        rw [bin_ok g0 e3]
        have e4 : atI (ns.map D.int) ((i : Nat) : Int) = some (.int ns[i]) := by
          unfold atI ixN
          rw [List.length_map, if_pos (by omega), if_pos (by omega)]
          simp [hlen]
        show opt (atI (ns.map D.int) ((i : Nat) : Int)) _ = _
        rw [e4]
      generalize ns[i] = cell at e2
      rw [Sk.cons, Sk.asg, Ok.res e2]
      simp only [Ok.tg, Ok.con, List.set]
      have g2 := rowIx (C := Cn M k) (env := [some (.ref r), some (iN many), some (.int cell), none]) (z := 2) (j := 2) hr1 rfl rfl
      have e5 : eBin gMod (eArgs oInt (aCons (eBin gAdd (eBin gAdd (eBin gMul (eBin gIx (eVar 0) (eCon (.int 2))) (eCon (.int 48271))) (eVar 2)) (eCon (.int 11))) aNil)) (eCon (.int 2147483647)) (Cn M k) [some (.ref r), some (iN many), some (.int cell), none] h1 = .ok (.int ((x * 48271 + cell + 11) % 2147483647)) h1 := by
        have e3 : eBin gMul (eBin gIx (eVar 0) (eCon (.int 2))) (eCon (.int 48271)) (Cn M k) [some (.ref r), some (iN many), some (.int cell), none] h1 = .ok (.int (x * 48271)) h1 := (bin_ok g2 (con_ok _)).trans (gMul_ok (xlog hx0 hx1))
        rw [bin_ok ((arg1_ok ((bin_ok ((bin_ok e3 (var_ok (i := 2) (d := .int cell) rfl)).trans gAdd_ok) (con_ok _)).trans gAdd_ok)).trans (oInt_int _)) (con_ok _), gMod_ok (by omega)]
      rw [Sk.cons, rowSet (z := 2) (j := 2) hr1 (by simp) rfl e5]
      simp only [List.set]
      obtain ⟨x0, x1⟩ := taken_next (i := 0) (x := x * 48271 + cell + 11)
      generalize (x * 48271 + cell + 11) % 2147483647 = x2 at x0 x1
      generalize hh2 : h1.set r (O.lst [.scr ns, iN (i + 1), .int x2, .int y]) = h2
      have b2 : But r h1 h2 := by rw [← hh2]; exact But.set
      have hr2 : h2[r]? = some (.lst [.scr ns, iN (i + 1), .int x2, .int y]) := by rw [← hh2]; exact set_get hr1
      obtain ⟨t, et, ht⟩ := mod_nat (i := cell) hm
      have fin : ∀ h3, eBin gMod (eArgs oInt (aCons (eVar 2) aNil)) (eVar 1) (Cn M k) [some (.ref r), some (iN many), some (.int cell), none] h3 = .ok (iN t) h3 := fun h3 => by
        rw [bin_ok ((arg1_ok (var_ok (i := 2) (d := .int cell) rfl)).trans (oInt_int _)) (var_ok (i := 1) (d := iN many) rfl), gMod_ok (by omega), et]
      have pw : eBin gPow (eCon (.int 10)) (eCon (.int 18)) (Cn M k) [some (.ref r), some (iN many), some (.int cell), none] h2 = .ok (.int 1000000000000000000) h2 := by
        rw [bin_ok (con_ok _) (con_ok _)]
        rfl
      have t2 : tBl (eBin gGe (eVar 2) (eBin gPow (eCon (.int 10)) (eCon (.int 18)))) (Cn M k) [some (.ref r), some (iN many), some (.int cell), none] h2 = .ok (decide (1000000000000000000 ≤ cell)) h2 := tBl_bl ((bin_ok (var_ok (i := 2) (d := .int cell) rfl) pw).trans gGe_ok)
      rw [Sk.cons, Sk.if_, Ok.res t2]
      by_cases hc : 1000000000000000000 ≤ cell
      · rw [decide_eq_true hc]
        simp only [if_true]
        have e6 : eBin gDiv (eVar 2) (eVar 1) (Cn M k) [some (.ref r), some (iN many), some (.int cell), none] h2 = .ok (.int (cell / many)) h2 := by
          rw [bin_ok (var_ok (i := 2) (d := .int cell) rfl) (var_ok (i := 1) (d := iN many) rfl), gDiv_ok (by omega) mlog]
        rw [Sk.cons, rowSet (z := 3) (j := 3) hr2 (by simp) rfl e6]
        simp only [Sk.nil, List.set]
        rw [Sk.cons, Sk.ret, Ok.res (fin _)]
        exact ⟨t, rfl, ht, ⟨i + 1, x2, cell / many, set_get hr2, x0, x1⟩, (b1.trans b2).trans But.set⟩
      · rw [decide_eq_false hc]
        simp only [Bool.false_eq_true, if_false, Sk.nil]
        rw [Sk.cons, Sk.ret, Ok.res (fin _)]
        exact ⟨t, rfl, ht, ⟨i + 1, x2, y, hr2, x0, x1⟩, b1.trans b2⟩
end
end PV
end

section
set_option Elab.async false
set_option linter.all false
set_option maxRecDepth 100000
set_option maxHeartbeats 4000000
/-! V31: _law_pick, _law_mixed. -/
namespace PV
open PySem PySem.Spec PyProof.Rows L2
section
variable {M : Md} {h h' h'' : Hs} {k r : Nat} {ns : List Int} {C : CF} {env : Env'}
/-- a tuple, or a list that is not the row -/
def SeqR (d : D) (xs : List D) (h : Hs) (r : Nat) : Prop := d = .tup xs ∨ ∃ n, d = .ref n ∧ n ≠ r ∧ h[n]? = some (.lst xs)
theorem SeqR.keep {d : D} {xs : List D} (q : SeqR d xs h r) (b : But r h h') : SeqR d xs h' r := q.imp id fun ⟨n, e, hn, hh⟩ => ⟨n, e, hn, b.keep n _ hn hh⟩
theorem SeqR.seq {d : D} {xs : List D} (q : SeqR d xs h r) : seqD d h = some xs := by
  rcases q with rfl | ⟨n, rfl, _, hn⟩
  · rfl
  · exact seqD_at hn
theorem SeqR.len {d : D} {xs : List D} (q : SeqR d xs h r) : oLen [d] h = .ok (iN xs.length) h := by
  rcases q with rfl | ⟨n, rfl, _, hn⟩
  · rfl
  · exact oLen_at hn
theorem SeqR.ix {d x : D} {xs : List D} {i : Nat} (q : SeqR d xs h r) (hx : xs[i]? = some x) : gIx d (iN i) h = .ok x h := by
  rcases q with rfl | ⟨n, rfl, _, hn⟩
  · exact gIx_tup hx
  · exact gIx_at hn hx
theorem call2 {x : Str} {a b : Ev} {env : Env'} {d e : D} {j : Nat} (ha : a (Cn M j) env h = .ok d h) (hb : b (Cn M j) env h = .ok e h) : eCall x 2 (aCons a (aCons b aNil)) (Cn M j) env h = run M j x [d, e] h := by
  unfold eCall aCons
  rw [ha]
  simp only [Res.bind]
  rw [hb]
  rfl
theorem aC1 {a : Ev} {x : D} {h1 : Hs} (ha : a C env h = .ok x h1) : aCons a aNil C env h = .ok [x] h1 := by
  unfold aCons
  rw [ha]
  rfl
theorem aC2 {a b : Ev} {x y : D} {h1 h2 : Hs} (ha : a C env h = .ok x h1) (hb : b C env h1 = .ok y h2) : aCons a (aCons b aNil) C env h = .ok [x, y] h2 := by
  have e := aC1 hb
  generalize aCons b aNil = s at e ⊢
  unfold aCons
  rw [ha]
  simp only [Res.bind]
  rw [e]
theorem eMl_ok {f : Mop} {o : Ev} {a : Av} {d : D} {L xs : List D} {h1 : Hs} {R : Res D} (ho : o C env h = .ok d h) (hl : lstD d h = some L) (ha : a C env h = .ok xs h1) (hf : f d xs h1 = R) : eMl f o a C env h = R := by
  unfold eMl
  rw [ho]
  simp only [Res.bind]
  rw [hl, ha]
  exact hf
theorem lstR_at' {l : Nat} {L : List D} (g : h[l]? = some (.lst L)) : lstR (.ref l) h = some (l, L) := by
  show (match h[l]? with | some (.lst xs) => some (l, xs) | _ => none) = _
  rw [g]
theorem chk_true {α : Type} {b : Bool} {x : Res α} (hb : b = true) : chk b x = x := by subst hb; rfl
theorem seqIx_nat {t n : Nat} (ht : t < n) : seqIndex? ((t : Nat) : Int) n = some t := by
  unfold seqIndex?
  have : ¬ ((t : Nat) : Int) < 0 := by omega
  simp only [this, if_false]
  rw [if_pos (by simp only [Bool.and_eq_true, decide_eq_true_eq]; omega)]
  simp
theorem mPop_ok {l t : Nat} {L : List D} {y : D} (g : h[l]? = some (.lst L)) (hy : L[t]? = some y) (hl : L.length ≤ 100000) : mPop (.ref l) [iN t] h = .ok y (h.set l (.lst (L.eraseIdx t))) := by
  have ht := (List.getElem?_eq_some_iff.mp hy).1
  have hb : decide ((((t : Nat) : Int)).natAbs.log2 < 63) = true := by
    rw [decide_eq_true_eq, Int.natAbs_natCast]
    have := log2_le (m := t) (by omega)
    omega
  simp only [mPop, lstR_at' g, opt, intD, chk_true hb, seqIx_nat ht, hy]
theorem mAppend_ok {l : Nat} {F : List D} {y : D} (g : h[l]? = some (.lst F)) (hf : F.length < 100000) : mAppend (.ref l) [y] h = .ok .non (h.set l (.lst (F ++ [y]))) := by
  have hb : decide (F.length < 100000) = true := decide_eq_true hf
  simp only [mAppend, lstR_at' g, opt, one1, chk_true hb]
structure ML (M : Md) : Prop where
  taken : At M "_law_taken" c_law_taken
  pick : At M "_law_pick" c_law_pick
  mixed : At M "_law_mixed" c_law_mixed
theorem r_pick (B : ML M) {d : D} {xs : List D} (q : SeqR d xs h r) (hne : 1 ≤ xs.length) (hl : xs.length ≤ 100000) (R : RowOk h r ns) : Ok (run M (k + 2) "_law_pick" [.ref r, d] h) fun v h' => v ∈ xs ∧ RowOk h' r ns ∧ But r h h' := by
  rw [run_at B.pick rfl, Sk.toR]
  simp only [c_law_pick]
  show Sk (sCons _ _ (Cn M (k + 1)) [some (.ref r), some d] h) _
  rw [Sk.cons, Sk.ret]
  have e1 : eCall "_law_taken" 2 (aCons (eVar 0) (aCons (eArgs oLen (aCons (eVar 1) aNil)) aNil)) (Cn M (k + 1)) [some (.ref r), some d] h = run M (k + 1) "_law_taken" [.ref r, iN xs.length] h := call2 (d := .ref r) rfl ((arg1_ok (var_ok (i := 1) (d := d) rfl)).trans q.len)
  obtain ⟨v, h1, e2, t, rfl, ht, R1, b1⟩ := (r_taken (k := k) B.taken hne hl R).eq
  have hx : xs[t]? = some xs[t] := List.getElem?_eq_getElem ht
  have e3 : eBin gIx (eVar 1) (eCall "_law_taken" 2 (aCons (eVar 0) (aCons (eArgs oLen (aCons (eVar 1) aNil)) aNil))) (Cn M (k + 1)) [some (.ref r), some d] h = .ok xs[t] h1 := by
    unfold eBin
    rw [var_ok (i := 1) (d := d) rfl]
    simp only [Res.bind]
    rw [e1, e2]
    exact (q.keep b1).ix hx
  rw [Ok.res e3]
  exact ⟨List.getElem_mem ht, R1, b1⟩
theorem r_mixed (B : ML M) {d : D} {xs : List D} (q : SeqR d xs h r) (hl : xs.length ≤ 10000) (R : RowOk h r ns) : Ok (run M (k + 2) "_law_mixed" [.ref r, d] h) fun v h' => ∃ (f : Nat) (ys : List D), v = .ref f ∧ f ≠ r ∧ h'[f]? = some (.lst ys) ∧ ys.Perm xs ∧ RowOk h' r ns ∧ But r h h' := by
  have rlt : r < h.length := by obtain ⟨i, x, y, hr, _⟩ := R; exact (List.getElem?_eq_some_iff.mp hr).1
  rw [run_at B.mixed rfl, Sk.toR]
  simp only [c_law_mixed]
  show Sk (sCons _ _ (Cn M (k + 1)) [some (.ref r), some d, none, none, none] h) _
  rw [Sk.cons]
  have e1 : aCons (eArgs oList (aCons (eVar 1) aNil)) (aCons (eLst aNil) aNil) (Cn M (k + 1)) [some (.ref r), some d, none, none, none] h = .ok [.ref h.length, .ref (h.length + 1)] (h ++ [.lst xs] ++ [.lst []]) := by
    have e2 : eArgs oList (aCons (eVar 1) aNil) (Cn M (k + 1)) [some (.ref r), some d, none, none, none] h = .ok (.ref h.length) (h ++ [.lst xs]) := by
      rw [arg1_ok (var_ok (i := 1) (d := d) rfl)]
      show opt (seqD d h) _ = _
      rw [q.seq]
      rfl
    exact aC2 e2 (show eLst aNil (Cn M (k + 1)) [some (.ref r), some d, none, none, none] (h ++ [.lst xs]) = .ok (.ref (h.length + 1)) (h ++ [.lst xs] ++ [.lst []]) by
      show Res.ok (D.ref (h ++ [O.lst xs]).length) (h ++ [.lst xs] ++ [.lst []]) = _
      rw [List.length_append]
      rfl)
  unfold sPar2
  rw [Sk.toS, Ok.res e1]
  simp only [Sk.nx, List.set]
  generalize hh2 : h ++ [O.lst xs] ++ [O.lst []] = h2
  have p2 : h <+: h2 := by rw [← hh2, List.append_assoc]; exact ⟨_, rfl⟩
  have gl : h2[h.length]? = some (.lst xs) := by rw [← hh2]; simp
  have gf : h2[h.length + 1]? = some (.lst []) := by rw [← hh2]; simp
  generalize hll : h.length = l at gl gf rlt
  rw [Sk.cons, Sk.for_]
  have e3 := iRng1_ok (C := Cn M (k + 1)) (env := [some (.ref r), some d, none, some (.ref l), some (.ref (l + 1))]) (h := h2) (a := eArgs oLen (aCons (eVar 3) aNil)) (n := xs.length) ((arg1_ok (var_ok (i := 3) (d := .ref l) rfl)).trans (oLen_at gl)) (by omega)
  rw [Ok.res e3]
  refine forS_ok _ (fun i e h' => ∃ (u : Option D) (L F : List D), e = [some (.ref r), some d, u, some (.ref l), some (.ref (l + 1))] ∧ h'[l]? = some (.lst L) ∧ h'[l + 1]? = some (.lst F) ∧ (F ++ L).Perm xs ∧ L.length + i = xs.length ∧ RowOk h' r ns ∧ h.length ≤ h'.length ∧ ∀ j o, j ≠ r → j < l → h[j]? = some o → h'[j]? = some o) (fun _ _ _ _ => rfl) (Nat.le_refl _)
    ⟨none, xs, [], rfl, gl, gf, List.Perm.refl _, by omega, R.keep p2, p2.length_le, fun j o _ _ e => pre_get p2 e⟩ ?_ ?_
  · rintro e h' ⟨u, L, F, rfl, g1, g2, pm, ln, R', hlen, kp⟩
    have : L = [] := List.eq_nil_of_length_eq_zero (by rw [List.length_map, List.length_range] at ln; omega)
    subst this
    simp only
    rw [Sk.cons, Sk.ret, Ok.res (var_ok (i := 4) (d := .ref (l + 1)) rfl)]
    refine ⟨l + 1, F, rfl, by omega, g2, by simpa using pm, R', hlen, fun j o hj e => kp j o hj ?_ e⟩
    rw [← hll]
    exact (List.getElem?_eq_some_iff.mp e).1
  · rintro i dd e h' hx ⟨u, L, F, rfl, g1, g2, pm, ln, R', hlen, kp⟩
    obtain ⟨hi, rfl⟩ := getElem?_range' hx
    simp only [Ok.tg, Ok.con, List.set]
    have hL : 1 ≤ L.length := by omega
    rw [Sk.cons, Sk.expr]
    have e4 : eCall "_law_taken" 2 (aCons (eVar 0) (aCons (eArgs oLen (aCons (eVar 3) aNil)) aNil)) (Cn M (k + 1)) [some (.ref r), some d, some (iN i), some (.ref l), some (.ref (l + 1))] h' = run M (k + 1) "_law_taken" [.ref r, iN L.length] h' := call2 (d := .ref r) rfl ((arg1_ok (var_ok (i := 3) (d := .ref l) rfl)).trans (oLen_at g1))
    obtain ⟨v, h3, e5, t, rfl, ht, R3, b3⟩ := (r_taken (k := k) B.taken hL (by omega) R').eq
    have g1' := b3.keep l _ (by omega) g1
    have g2' := b3.keep (l + 1) _ (by omega) g2
    have hy : L[t]? = some L[t] := List.getElem?_eq_getElem ht
    have e6 : eMl mPop (eVar 3) (aCons (eCall "_law_taken" 2 (aCons (eVar 0) (aCons (eArgs oLen (aCons (eVar 3) aNil)) aNil))) aNil) (Cn M (k + 1)) [some (.ref r), some d, some (iN i), some (.ref l), some (.ref (l + 1))] h' = .ok L[t] (h3.set l (.lst (L.eraseIdx t))) := by
      have l1 : lstD (.ref l) h' = some L := seqD_at g1
      refine eMl_ok (var_ok (i := 3) (d := .ref l) rfl) l1 (aC1 (e4.trans e5)) ?_
      exact mPop_ok g1' hy (by omega)
    have e7 : eMl mAppend (eVar 4) (aCons (eMl mPop (eVar 3) (aCons (eCall "_law_taken" 2 (aCons (eVar 0) (aCons (eArgs oLen (aCons (eVar 3) aNil)) aNil))) aNil)) aNil) (Cn M (k + 1)) [some (.ref r), some d, some (iN i), some (.ref l), some (.ref (l + 1))] h' = .ok .non ((h3.set l (.lst (L.eraseIdx t))).set (l + 1) (.lst (F ++ [L[t]]))) := by
      have g4 : (h3.set l (.lst (L.eraseIdx t)))[l + 1]? = some (.lst F) := by rw [List.getElem?_set_ne (by omega)]; exact g2'
      have l1 : lstD (.ref (l + 1)) h' = some F := seqD_at g2
      have fl : F.length < 100000 := by
        have := pm.length_eq
        rw [List.length_append] at this
        omega
      refine eMl_ok (var_ok (i := 4) (d := .ref (l + 1)) rfl) l1 (aC1 e6) ?_
      exact mAppend_ok g4 fl
    rw [Ok.res e7]
    have lt3 : l < h3.length := (List.getElem?_eq_some_iff.mp g1').1
    have lt4 : l + 1 < h3.length := (List.getElem?_eq_some_iff.mp g2').1
    refine ⟨some (iN i), L.eraseIdx t, F ++ [L[t]], rfl, ?_, ?_, ?_, ?_, ?_, ?_, ?_⟩
    · rw [List.getElem?_set_ne (by omega), List.getElem?_set_self lt3]
    · rw [List.getElem?_set_self (by rw [List.length_set]; exact lt4)]
    · rw [List.append_assoc]
      exact ((erase_perm L t L[t] hy).append_left F).trans pm
    · rw [List.length_eraseIdx, if_pos ht]; omega
    · obtain ⟨i', x, y, hr, hx0, hx1⟩ := R3
      exact ⟨i', x, y, by rw [List.getElem?_set_ne (by omega), List.getElem?_set_ne (by omega)]; exact hr, hx0, hx1⟩
    · rw [List.length_set, List.length_set]
      exact Nat.le_trans hlen b3.len
    · intro j o hj hjl e
      rw [List.getElem?_set_ne (by omega), List.getElem?_set_ne (by omega)]
      exact b3.keep j o hj (kp j o hj hjl e)
end
end PV
end

section
set_option Elab.async false
set_option linter.all false
set_option maxRecDepth 100000
set_option maxHeartbeats 4000000
/-! V32: the number of beads of a family, as the program and as the law count it. -/
namespace PV
open PySem PySem.Spec PyProof.Rows L2 GX
section
variable {M : Md} {h : Hs} {k n : Nat} {bs : List (List Nat)} {rk : Nat → Nat}
theorem best_ge : ∀ (js : List Int) (j : Int), j ≤ best j js ∧ ∀ z ∈ js, z ≤ best j js
  | [], j => ⟨Int.le_refl _, fun z h => by cases h⟩
  | y :: r, j => by
    obtain ⟨h1, h2⟩ := best_ge r (gr j y)
    have e : best j (y :: r) = best (gr j y) r := rfl
    have g : j ≤ gr j y ∧ y ≤ gr j y := by
      unfold gr
      split <;> constructor <;> omega
    rw [e]
    refine ⟨Int.le_trans g.1 h1, fun z hz => ?_⟩
    rcases List.mem_cons.mp hz with q | q
    · rw [q]; exact Int.le_trans g.2 h1
    · exact h2 z q
theorem best_mem : ∀ (js : List Int) (j : Int), best j js = j ∨ best j js ∈ js
  | [], j => .inl rfl
  | y :: r, j => by
    have e : best j (y :: r) = best (gr j y) r := rfl
    rw [e]
    rcases best_mem r (gr j y) with q | q
    · rw [q]
      unfold gr
      split
      · exact .inr (by simp)
      · exact .inl rfl
    · exact .inr (List.mem_cons_of_mem _ q)
theorem best_eq {m j : Int} {js : List Int} (h : ∀ z ∈ j :: js, z ≤ m) (hm : m ∈ j :: js) : best j js = m := by
  obtain ⟨h1, h2⟩ := best_ge js j
  have h3 : best j js ≤ m := by
    rcases best_mem js j with q | q
    · rw [q]; exact h j (by simp)
    · exact h _ (List.mem_cons_of_mem _ q)
  have h4 : m ≤ best j js := by
    rcases List.mem_cons.mp hm with q | q
    · rw [q]; exact h1
    · exact h2 m q
  omega
abbrev lastN (b : List Nat) : Nat := b.getD (b.length - 1) 0
theorem lastN_get {b : List Nat} (hb : 2 ≤ b.length) : b[b.length - 1]? = some (lastN b) := by
  have hl : b.length - 1 < b.length := by omega
  show _ = some (b.getD (b.length - 1) 0)
  rw [List.getD_eq_getElem?_getD, List.getElem?_eq_getElem hl]
  rfl
theorem bag_last {b : List Nat} (hb : 2 ≤ b.length) : gIx (bagD b) (.int (-1)) h = .ok (iN (lastN b)) h := by
  have e1 : atI (b.map iN) (-1) = some (iN (lastN b)) := by
    unfold atI ixN
    rw [if_neg (by omega), if_pos (by rw [List.length_map]; omega)]
    have : ((-1 : Int) + ((b.map iN).length : Nat)).toNat = b.length - 1 := by rw [List.length_map]; omega
    rw [this]
    exact get_map (lastN_get hb)
  show opt (atI (b.map iN) (-1)) _ = _
  rw [e1]
theorem last_ge {b : List Nat} (ha : FM.Asc b) (hb : 2 ≤ b.length) {x : Nat} (hx : x ∈ b) : x ≤ lastN b := by
  obtain ⟨i, hi⟩ := List.mem_iff_getElem?.mp hx
  have h1 := List.getElem?_eq_some_iff.mp hi
  have h2 := List.getElem?_eq_some_iff.mp (lastN_get hb)
  by_cases z : i = b.length - 1
  · subst z
    rw [lastN_get hb] at hi
    cases hi
    exact Nat.le_refl _
  · have := List.pairwise_iff_getElem.mp ha i (b.length - 1) h1.1 h2.1 (by have := h1.1; omega)
    rw [h1.2, h2.2] at this
    omega
/-- the greatest last bead is n - 1 -/
theorem Fam.top (F : Fam n bs rk) {b0 : List Nat} {r : List (List Nat)} (e : bs = b0 :: r) : best ((lastN b0 : Nat) : Int) (r.map fun b => ((lastN b : Nat) : Int)) = ((n - 1 : Nat) : Int) := by
  have hn := F.tree.two_le
  have em : ((lastN b0 : Nat) : Int) :: (r.map fun b => ((lastN b : Nat) : Int)) = bs.map fun b => ((lastN b : Nat) : Int) := by rw [e]; rfl
  refine best_eq (fun z hz => ?_) ?_
  · rw [em] at hz
    obtain ⟨b, hb, rfl⟩ := List.mem_map.mp hz
    have := F.tree.lt b hb (lastN b) (List.mem_of_getElem? (lastN_get (F.tree.two b hb)))
    omega
  · rw [em]
    obtain ⟨b, hb, hx⟩ := F.tree.cover (x := n - 1) (by omega)
    refine List.mem_map.mpr ⟨b, hb, ?_⟩
    have h1 := last_ge (F.tree.asc b hb) (F.tree.two b hb) hx
    have h2 := F.tree.lt b hb (lastN b) (List.mem_of_getElem? (lastN_get (F.tree.two b hb)))
    omega
theorem neg1 {C : CF} {env : Env'} : eUn gNeg (eCon (.int 1)) C env h = .ok (.int (-1)) h := rfl
theorem r_bead_count (B : At M "bead_count" c_bead_count) (F : Fam n bs rk) : run M (k + 2) "bead_count" [famD bs] h = .ok (iN n) h := by
  obtain ⟨b0, r, eb⟩ := F.tree.ne
  have hn := F.tree.two_le
  refine Ok.val ?_
  rw [run_at B rfl, Sk.toR]
  simp only [c_bead_count]
  show Sk (sCons _ _ (Cn M (k + 1)) [some (famD bs), none] h) _
  rw [Sk.cons, Sk.ret]
  have e1 : goF (eMaxG (iVal (eVar 0)) [] tYesV (eBin gIx (eVar 0) (eUn gNeg (eCon (.int 1))))) (Cn M (k + 1)) [some (famD bs), none] h = .ok (iN (n - 1)) h := by
    rw [goF_succ]
    unfold eMaxG eG
    rw [val_ok (d := famD bs) (s := .items (bs.map bagD)) rfl rfl]
    have e2 := loop_takeI (h := h) (C := (Cn M (k + 1)).inner) (cenv := capE [] [some (famD bs), none]) (elt := eBin gIx (eVar 0) (eUn gNeg (eCon (.int 1)))) bs bagD (fun b => ((lastN b : Nat) : Int)) fun b hb => (bin_ok (var_ok (i := 0) (d := bagD b) rfl) neg1).trans (bag_last (F.tree.two b hb))
    show ((loopB _ _ _ _ _ _ _ _).bind _) = _
    rw [show Src.size (.items (bs.map bagD)) h = (bs.map bagD).length from rfl, e2]
    show maxFin (bs.map fun b => ((lastN b : Nat) : Int)) h = _
    rw [eb]
    show Res.ok (D.int (best _ _)) h = _
    rw [F.top eb]
  have e3 : eBin gAdd (goF (eMaxG (iVal (eVar 0)) [] tYesV (eBin gIx (eVar 0) (eUn gNeg (eCon (.int 1)))))) (eCon (.int 1)) (Cn M (k + 1)) [some (famD bs), none] h = .ok (iN n) h := by
    rw [bin_ok e1 (con_ok _), gAdd_ok]
    rw [show ((n - 1 : Nat) : Int) + 1 = (n : Int) by omega]
  rw [Ok.res e3]
  exact ⟨rfl, rfl⟩
/-! ### max of a list of ints -/
theorem py0_int (i : Int) : py0 (.int i) = .int i := by show pyW _ (.int i) = _; rw [pyW]
theorem alikeD_ints (js : List Int) : alikeD (js.map D.int) = true := by
  unfold alikeD
  rw [Bool.and_eq_true, List.all_eq_true, List.all_eq_true]
  refine ⟨fun x hx => List.all_eq_true.mpr fun y hy => ?_, fun x hx => ?_⟩
  · obtain ⟨i, _, rfl⟩ := List.mem_map.mp hx
    obtain ⟨j, _, rfl⟩ := List.mem_map.mp hy
    rw [py0_int, py0_int, PySem.W.alike]
  · obtain ⟨i, _, rfl⟩ := List.mem_map.mp hx
    rw [py0_int, shaped_int]
theorem maxDs_ints : ∀ (js : List Int) (j : Int), maxDs (.int j) (js.map D.int) = .int (best j js)
  | [], j => rfl
  | y :: r, j => by
    have ih := maxDs_ints r (gr j y)
    unfold maxDs at ih ⊢
    rw [List.map_cons, List.foldl_cons]
    have e : (if ltD (.int j) (.int y) then D.int y else D.int j) = .int (gr j y) := by
      have : ltD (.int j) (.int y) = decide (j < y) := by
        show PySem.W.dataLt (py0 (.int j)) (py0 (.int y)) = _
        rw [py0_int, py0_int, PySem.W.dataLt_int]
      rw [this]
      unfold gr
      by_cases z : j < y
      · simp [z]
      · simp [z]
    rw [e, ih]
    rfl
theorem oMax_lst {p : Nat} {j : Int} {js : List Int} (hp : h[p]? = some (.lst ((j :: js).map D.int))) : oMax [.ref p] h = .ok (.int (best j js)) h := by
  have e1 : lstD (.ref p) h = some ((j :: js).map D.int) := seqD_at hp
  have e2 : (alikeD ((j :: js).map D.int) && ((j :: js).map D.int).all fun d => !d.isNon) = true := by
    rw [alikeD_ints, Bool.true_and, List.all_eq_true]
    intro x hx
    obtain ⟨i, _, rfl⟩ := List.mem_map.mp hx
    rfl
  show best1 maxDs (.ref p) h = _
  unfold best1
  simp only [e1, opt, List.map_cons, consD] at e2 ⊢
  rw [chk_true e2, maxDs_ints]
theorem r_size (B : At M "_law_size" c_law_size) (F : Fam n bs rk) : Ok (run M (k + 1) "_law_size" [famD bs] h) fun v h' => v = iN n ∧ h <+: h' := by
  obtain ⟨b0, r, eb⟩ := F.tree.ne
  have hn := F.tree.two_le
  have hl := F.few
  rw [run_at B rfl, Sk.toR]
  simp only [c_law_size]
  show Sk (sCons _ _ (Cn M k) [some (famD bs), none] h) _
  rw [Sk.cons, Sk.ret]
  have e1 : eLC (iVal (eVar 0)) (tgName 1) [1] tYesV (eBin gIx (eVar 1) (eUn gNeg (eCon (.int 1)))) (Cn M k) [some (famD bs), none] h = .ok (.ref h.length) (h ++ [.lst (bs.map fun b => iN (lastN b))]) := by
    have e2 := lc_map (h := h) (C := Cn M k) (t := tgName 1) (e0 := [some (famD bs), none]) (elt := eBin gIx (eVar 1) (eUn gNeg (eCon (.int 1)))) bs bagD (fun b => iN (lastN b)) (by omega) fun b hb => (bin_ok (var_ok (i := 1) (d := bagD b) rfl) neg1).trans (bag_last (F.tree.two b hb))
    unfold eLC
    rw [val_ok (d := famD bs) (s := .items (bs.map bagD)) rfl rfl]
    show ((loopB _ _ _ _ _ _ _ _).bind _) = _
    rw [show Src.size (.items (bs.map bagD)) h = (bs.map bagD).length from rfl]
    have e3 : wipeE [some (famD bs), none] [1] = [some (famD bs), none] := rfl
    rw [e3, e2]
    rfl
  generalize hh1 : h ++ [O.lst (bs.map fun b => iN (lastN b))] = h1 at e1
  have g1 : h1[h.length]? = some (.lst ((((lastN b0 : Nat) : Int) :: (r.map fun b => ((lastN b : Nat) : Int))).map D.int)) := by
    rw [← hh1]
    have : (bs.map fun b => iN (lastN b)) = (((lastN b0 : Nat) : Int) :: (r.map fun b => ((lastN b : Nat) : Int))).map D.int := by rw [eb, List.map_cons, List.map_cons, List.map_map]; rfl
    rw [this]
    exact new_get
  have e4 : eArgs oMax (aCons (eLC (iVal (eVar 0)) (tgName 1) [1] tYesV (eBin gIx (eVar 1) (eUn gNeg (eCon (.int 1))))) aNil) (Cn M k) [some (famD bs), none] h = .ok (iN (n - 1)) h1 := by
    unfold eArgs
    rw [aC1 e1]
    show oMax [.ref h.length] h1 = _
    rw [oMax_lst g1, F.top eb]
  have e5 : eBin gAdd (eCon (.int 1)) (eArgs oMax (aCons (eLC (iVal (eVar 0)) (tgName 1) [1] tYesV (eBin gIx (eVar 1) (eUn gNeg (eCon (.int 1))))) aNil)) (Cn M k) [some (famD bs), none] h = .ok (iN n) h1 := by
    rw [bin_ok2 (con_ok _) e4]
    show Res.ok (D.int (1 + ((n - 1 : Nat) : Int))) h1 = _
    rw [show 1 + ((n - 1 : Nat) : Int) = (n : Int) by omega]
  rw [Ok.res e5]
  exact ⟨rfl, by rw [← hh1]; exact pre_new⟩
end
end PV
end

section
set_option Elab.async false
set_option linter.all false
set_option maxRecDepth 100000
set_option maxHeartbeats 4000000
/-! V33: _law_alike of a thing and itself. -/
namespace PV
open PySem PySem.Spec PyProof.Rows L2 GX
section
variable {M : Md} {h : Hs} {k n : Nat} {bs : List (List Nat)} {rk : Nat → Nat}
theorem gEq_lst0 {p q : Nat} (hp : h[p]? = some (.lst [])) (hq : h[q]? = some (.lst [])) : gEq (.ref p) (.ref q) h = .ok (.bl true) h := by
  have e1 : py2 h (.ref p) = .list [] := by
    unfold py2; rw [pyW]; simp only [hp, pyO, pyWL]
  have e2 : py2 h (.ref q) = .list [] := by
    unfold py2; rw [pyW]; simp only [hq, pyO, pyWL]
  unfold gEq
  rw [e1, e2]
  rfl
/-- ints, tuples of such, n deep -/
def datD : Nat → D → Prop
  | 0, d => ∃ i, d = .int i
  | n + 1, d => (∃ i, d = .int i) ∨ ∃ xs, d = .tup xs ∧ xs.length ≤ 1000 ∧ ∀ x ∈ xs, datD n x
theorem datD.up : ∀ {n : Nat} {d : D}, datD n d → datD (n + 1) d
  | 0, d, h => .inl h
  | n + 1, d, .inl h => .inl h
  | n + 1, d, .inr ⟨xs, e, hl, h⟩ => .inr ⟨xs, e, hl, fun x hx => (h x hx).up⟩
theorem r_alike_int (B : At M "_law_alike" c_law_alike) (i : Int) : run M (k + 1) "_law_alike" [.int i, .int i] h = .ok (.bl true) h := by
  refine Ok.val ?_
  rw [run_at B rfl, Sk.toR]
  simp only [c_law_alike]
  show Sk (sCons _ _ (Cn M k) [some (.int i), some (.int i), none] h) _
  have t1 : tVal (eArgs oIsi (aCons (eVar 1) (aCons (eTup (aCons (eCon (.ty "tuple")) (aCons (eCon (.ty "list")) aNil))) aNil))) (Cn M k) [some (.int i), some (.int i), none] h = .ok false h := rfl
  rw [Sk.cons, Sk.if_, Ok.res t1]
  simp only [Bool.false_eq_true, if_false, Sk.nil]
  have t2 : tOrV (tBl (eBin gIs (eVar 1) (eCon .non))) (tVal (eArgs oIsi (aCons (eVar 1) (aCons (eCon (.ty "str")) aNil)))) (Cn M k) [some (.int i), some (.int i), none] h = .ok false h := rfl
  rw [Sk.cons, Sk.if_, Ok.res t2]
  simp only [Bool.false_eq_true, if_false, Sk.nil]
  have e1 : eBin gEq (eVar 0) (eVar 1) (Cn M k) [some (.int i), some (.int i), none] h = .ok (.bl true) h := by
    rw [bin_ok (var_ok (i := 0) (d := .int i) rfl) (var_ok (i := 1) (d := .int i) rfl), gEq_int]
    simp
  rw [Sk.cons, Sk.ret]
  have e2 : eAnd (eArgs oIsi (aCons (eVar 0) (aCons (eCon (.ty "int")) aNil))) (eAnd (eBin gEq (eArgs oIsi (aCons (eVar 0) (aCons (eCon (.ty "bool")) aNil))) (eArgs oIsi (aCons (eVar 1) (aCons (eCon (.ty "bool")) aNil)))) (eBin gEq (eVar 0) (eVar 1))) (Cn M k) [some (.int i), some (.int i), none] h = .ok (.bl true) h := by
    have e3 : eAnd (eBin gEq (eArgs oIsi (aCons (eVar 0) (aCons (eCon (.ty "bool")) aNil))) (eArgs oIsi (aCons (eVar 1) (aCons (eCon (.ty "bool")) aNil)))) (eBin gEq (eVar 0) (eVar 1)) (Cn M k) [some (.int i), some (.int i), none] h = .ok (.bl true) h := by
      unfold eAnd
      rw [show eBin gEq (eArgs oIsi (aCons (eVar 0) (aCons (eCon (.ty "bool")) aNil))) (eArgs oIsi (aCons (eVar 1) (aCons (eCon (.ty "bool")) aNil))) (Cn M k) [some (.int i), some (.int i), none] h = .ok (.bl true) h from rfl]
      exact e1
    generalize eAnd (eBin gEq (eArgs oIsi (aCons (eVar 0) (aCons (eCon (.ty "bool")) aNil))) (eArgs oIsi (aCons (eVar 1) (aCons (eCon (.ty "bool")) aNil)))) (eBin gEq (eVar 0) (eVar 1)) = X at e3 ⊢
    unfold eAnd
    rw [show eArgs oIsi (aCons (eVar 0) (aCons (eCon (.ty "int")) aNil)) (Cn M k) [some (.int i), some (.int i), none] h = .ok (.bl true) h from rfl]
    exact e3
  rw [Ok.res e2]
  exact ⟨rfl, rfl⟩
theorem r_alike (B : At M "_law_alike" c_law_alike) : ∀ (n : Nat) (d : D) (h : Hs), datD n d → Ok (run M (k + n + 1) "_law_alike" [d, d] h) fun v h' => v = .bl true ∧ h <+: h' := by
  intro n
  induction n with
  | zero =>
    rintro d h ⟨i, rfl⟩
    rw [Ok.res (r_alike_int B i)]
    exact ⟨rfl, List.prefix_refl _⟩
  | succ n ih =>
    rintro d h (⟨i, rfl⟩ | ⟨xs, rfl, hl, hx⟩)
    · rw [Ok.res (r_alike_int B i)]
      exact ⟨rfl, List.prefix_refl _⟩
    · rw [run_at B rfl, Sk.toR]
      simp only [c_law_alike]
      show Sk (sCons _ _ (Cn M (k + n + 1)) [some (.tup xs), some (.tup xs), none] h) _
      have t1 : tVal (eArgs oIsi (aCons (eVar 1) (aCons (eTup (aCons (eCon (.ty "tuple")) (aCons (eCon (.ty "list")) aNil))) aNil))) (Cn M (k + n + 1)) [some (.tup xs), some (.tup xs), none] h = .ok true h := rfl
      rw [Sk.cons, Sk.if_, Ok.res t1]
      simp only [if_true]
      rw [Sk.cons, Sk.if_]
      have t2 : tOrV (tNotV (tVal (eArgs oIsi (aCons (eVar 0) (aCons (eTup (aCons (eCon (.ty "tuple")) (aCons (eCon (.ty "list")) aNil))) aNil))))) (tBl (eBin gNe (eArgs oIsi (aCons (eVar 0) (aCons (eCon (.ty "list")) aNil))) (eArgs oIsi (aCons (eVar 1) (aCons (eCon (.ty "list")) aNil))))) (Cn M (k + n + 1)) [some (.tup xs), some (.tup xs), none] h = .ok false h := rfl
      rw [Ok.res t2]
      simp only [Bool.false_eq_true, if_false, Sk.nil]
      rw [Sk.cons, Sk.if_]
      have t3 : tBl (eBin gNe (eArgs oLen (aCons (eVar 0) aNil)) (eArgs oLen (aCons (eVar 1) aNil))) (Cn M (k + n + 1)) [some (.tup xs), some (.tup xs), none] h = .ok false h := by
        refine tBl_bl ?_
        rw [bin_ok ((arg1_ok (var_ok (i := 0) (d := .tup xs) rfl)).trans (oLen_tup xs)) ((arg1_ok (var_ok (i := 1) (d := .tup xs) rfl)).trans (oLen_tup xs)), gNe_int]
        simp
      rw [Ok.res t3]
      simp only [Bool.false_eq_true, if_false, Sk.nil]
      rw [Sk.cons, Sk.ret]
      -- the comprehension
      have e1 := iRng1_ok (C := Cn M (k + n + 1)) (env := [some (.tup xs), some (.tup xs), none]) (h := h) (a := eArgs oLen (aCons (eVar 1) aNil)) (n := xs.length) ((arg1_ok (var_ok (i := 1) (d := .tup xs) rfl)).trans (oLen_tup xs)) (by omega)
      have lc : Ok (eLC (iRng (rg1 (eArgs oLen (aCons (eVar 1) aNil)))) (tgName 2) [2] (tNotV (tVal (eCall "_law_alike" 2 (aCons (eBin gIx (eVar 0) (eVar 2)) (aCons (eBin gIx (eVar 1) (eVar 2)) aNil))))) (eVar 2) (Cn M (k + n + 1)) [some (.tup xs), some (.tup xs), none] h) fun v h' => ∃ p, v = .ref p ∧ h'[p]? = some (.lst []) ∧ h <+: h' := by
        unfold eLC
        rw [e1]
        show Ok ((loopB _ _ _ _ _ _ _ _).bind _) _
        rw [Ok.bind]
        refine (loopB_ok ((List.range xs.length).map iN) (fun i h' acc => h <+: h' ∧ acc = []) (fun _ _ _ _ => rfl) (Nat.le_refl _) ⟨List.prefix_refl _, rfl⟩ ?_).mono ?_
        · rintro i d h' acc hx' ⟨p, rfl⟩
          obtain ⟨hi, rfl⟩ := getElem?_range' hx'
          have gx : xs[i]? = some xs[i] := List.getElem?_eq_getElem hi
          rw [Ok.tg]
          unfold kOne
          rw [Ok.bind]
          obtain ⟨v, h2, e2, rfl, p2⟩ := (ih xs[i] h' (hx _ (List.getElem_mem hi))).eq
          have e3 : eCall "_law_alike" 2 (aCons (eBin gIx (eVar 0) (eVar 2)) (aCons (eBin gIx (eVar 1) (eVar 2)) aNil)) (Cn M (k + n + 1)) [some (.tup xs), some (.tup xs), some (iN i)] h' = .ok (.bl true) h2 :=
            (call2 ((bin_ok (var_ok (i := 0) (d := .tup xs) rfl) (var_ok (i := 2) (d := iN i) rfl)).trans (gIx_tup gx)) ((bin_ok (var_ok (i := 1) (d := .tup xs) rfl) (var_ok (i := 2) (d := iN i) rfl)).trans (gIx_tup gx))).trans e2
          have e4 : tNotV (tVal (eCall "_law_alike" 2 (aCons (eBin gIx (eVar 0) (eVar 2)) (aCons (eBin gIx (eVar 1) (eVar 2)) aNil)))) (Cn M (k + n + 1)) [some (.tup xs), some (.tup xs), some (iN i)] h' = .ok false h2 := by
            unfold tNotV tVal
            rw [e3]
            rfl
          refine (Ok.res (r := tNotV _ _ _ _) e4).mpr ?_
          exact ⟨p.trans p2, rfl⟩
        · rintro acc h' ⟨p, rfl⟩
          exact ⟨h'.length, rfl, new_get, p.trans pre_new⟩
      obtain ⟨v, h1, e2, p, rfl, g1, p1⟩ := lc.eq
      have e3 : eBin gEq (eLC (iRng (rg1 (eArgs oLen (aCons (eVar 1) aNil)))) (tgName 2) [2] (tNotV (tVal (eCall "_law_alike" 2 (aCons (eBin gIx (eVar 0) (eVar 2)) (aCons (eBin gIx (eVar 1) (eVar 2)) aNil))))) (eVar 2)) (eLst aNil) (Cn M (k + n + 1)) [some (.tup xs), some (.tup xs), none] h = .ok (.bl true) (h1 ++ [.lst []]) := by
        rw [bin_ok2 e2 (show eLst aNil (Cn M (k + n + 1)) [some (.tup xs), some (.tup xs), none] h1 = .ok (.ref h1.length) (h1 ++ [.lst []]) from rfl)]
        exact gEq_lst0 (pre_get pre_new g1) new_get
      rw [Ok.res e3]
      exact ⟨rfl, p1.trans pre_new⟩
end
end PV
end

section
set_option Elab.async false
set_option linter.all false
set_option maxRecDepth 100000
set_option maxHeartbeats 4000000
/-! V34: sorted of ints and of bags; _law_named. -/
namespace PV
open PySem PySem.Spec PyProof.Rows L2 GX
/-- a bag under other names -/
def nm (m b : List Nat) : List Nat := (b.map fun x => m.getD x 0).mergeSort (fun x y => decide (x ≤ y))
def leB (a b : List Nat) : Bool := decide (natI a ≤ natI b)
section
variable {M : Md} {h : Hs} {k n : Nat} {bs : List (List Nat)} {rk : Nat → Nat}
theorem leD_nat (a b : Nat) : leD (iN a) (iN b) = decide (a ≤ b) := by
  unfold leD
  rw [py0_int, py0_int, PySem.W.dataLt_int]
  by_cases z : a ≤ b
  · have : ¬ ((b : Int) < (a : Int)) := by omega
    simp [z, this]
  · have : ((b : Int) < (a : Int)) := by omega
    simp [z, this]
theorem sort_nats (l : List Nat) : (l.map iN).mergeSort leD = (l.mergeSort fun x y => decide (x ≤ y)).map iN :=
  (List.map_mergeSort (r := fun x y => decide (x ≤ y)) (s := leD) (f := iN) fun a _ b _ => (leD_nat a b).symm).symm
theorem leD_bag (a b : List Nat) : leD (bagD a) (bagD b) = leB a b := by
  unfold leD leB
  have dl : PySem.W.dataLt (py0 (bagD b)) (py0 (bagD a)) = decide (natI b < natI a) := by
    rw [py0_bag, py0_bag, PySem.W.dataLt_tuple]
    exact PySem.W.dataLt_ints _ _
  rw [dl]
  by_cases z : natI b < natI a
  · have : ¬ natI a ≤ natI b := fun w => List.not_lt.mpr w z
    simp [z, this]
  · have : natI a ≤ natI b := List.not_lt.mp z
    simp [z, this]
theorem sort_bags (l : List (List Nat)) : (l.map bagD).mergeSort leD = (l.mergeSort leB).map bagD :=
  (List.map_mergeSort (r := leB) (s := leD) (f := bagD) fun a _ b _ => (leD_bag a b).symm).symm
theorem oSorted_nats {p : Nat} {l : List Nat} (hp : h[p]? = some (.lst (l.map iN))) (hl : l.length ≤ 100000) : oSorted [.ref p] h = .ok (.ref h.length) (h ++ [.lst ((l.mergeSort fun x y => decide (x ≤ y)).map iN)]) := by
  have e1 : seqD (.ref p) h = some (l.map iN) := seqD_at hp
  have e2 : (sortable (l.map iN) && decide ((l.map iN).length ≤ 100000)) = true := by
    have a1 : alikeD (l.map iN) = true := by
      have := alikeD_ints (l.map fun (x : Nat) => (x : Int))
      rwa [List.map_map] at this
    have a2 : (l.map iN).all D.plainS = true := by
      rw [List.all_eq_true]
      intro x hx
      obtain ⟨i, _, rfl⟩ := List.mem_map.mp hx
      rfl
    unfold sortable
    rw [a1, a2, decide_eq_true (by rw [List.length_map]; exact hl)]
    simp
  show opt (seqD (.ref p) h) _ = _
  rw [e1]
  simp only [opt]
  rw [chk_true e2, sortT_eq, sort_nats]
  rfl
theorem alikeD_bags (l : List (List Nat)) : alikeD (l.map bagD) = true := by
  unfold alikeD
  rw [Bool.and_eq_true, List.all_eq_true, List.all_eq_true]
  refine ⟨fun x hx => List.all_eq_true.mpr fun y hy => ?_, fun x hx => ?_⟩
  · obtain ⟨i, _, rfl⟩ := List.mem_map.mp hx
    obtain ⟨j, _, rfl⟩ := List.mem_map.mp hy
    rw [py0_bag, py0_bag, PySem.W.alike]
    exact alike_ints _ _
  · obtain ⟨i, _, rfl⟩ := List.mem_map.mp hx
    exact shaped_of (n := 1) (by omega) (nat_bag i)
theorem oSorted_bags {p : Nat} {l : List (List Nat)} (hp : h[p]? = some (.lst (l.map bagD))) (hl : l.length ≤ 100000) (hne : ∀ b ∈ l, b ≠ []) : oSorted [.ref p] h = .ok (.ref h.length) (h ++ [.lst ((l.mergeSort leB).map bagD)]) := by
  have e1 : seqD (.ref p) h = some (l.map bagD) := seqD_at hp
  have e2 : (sortable (l.map bagD) && decide ((l.map bagD).length ≤ 100000)) = true := by
    have a2 : (l.map bagD).all D.tupNE = true := by
      rw [List.all_eq_true]
      intro x hx
      obtain ⟨b, hb, rfl⟩ := List.mem_map.mp hx
      cases b with
      | nil => exact absurd rfl (hne _ hb)
      | cons y r => rfl
    unfold sortable
    rw [alikeD_bags, a2, decide_eq_true (by rw [List.length_map]; exact hl)]
    simp
  show opt (seqD (.ref p) h) _ = _
  rw [e1]
  simp only [opt]
  rw [chk_true e2, sortT_eq, sort_bags]
  rfl
theorem arg1_ok2 {C : CF} {env : Env'} {f : OpN} {a : Ev} {x : D} {h1 : Hs} (ha : a C env h = .ok x h1) : eArgs f (aCons a aNil) C env h = f [x] h1 := by
  unfold eArgs
  rw [aC1 ha]
theorem oTuple_at {p : Nat} {xs : List D} (hp : h[p]? = some (.lst xs)) : oTuple [.ref p] h = .ok (.tup xs) h := by
  show opt (seqD (.ref p) h) _ = _
  rw [seqD_at hp]
/-- bags as lists in the heap -/
structure BagsAt (h : Hs) (p : Nat) (qs : List Nat) (bs : List (List Nat)) : Prop where
  at_ : h[p]? = some (.lst (qs.map D.ref))
  len : qs.length = bs.length
  each : ∀ (i q : Nat) (b : List Nat), qs[i]? = some q → bs[i]? = some b → h[q]? = some (.lst (b.map iN))
theorem BagsAt.pre {h' : Hs} {p : Nat} {qs : List Nat} (B : BagsAt h p qs bs) (q : h <+: h') : BagsAt h' p qs bs := ⟨pre_get q B.at_, B.len, fun i a b ha hb => pre_get q (B.each i a b ha hb)⟩
theorem nm_perm (m b : List Nat) : (nm m b).Perm (b.map fun x => m.getD x 0) := List.mergeSort_perm _ _
theorem r_named (A : At M "_law_named" c_law_named) {p w : Nat} {qs m : List Nat} (B : BagsAt h p qs bs) (hw : h[w]? = some (.lst (m.map iN))) (hl : bs.length ≤ 1000) (hb : ∀ b ∈ bs, b ≠ [] ∧ b.length ≤ 1000 ∧ ∀ x ∈ b, x < m.length) :
    Ok (run M (k + 1) "_law_named" [.ref p, .ref w] h) fun v h' => v = famD ((bs.map (nm m)).mergeSort leB) ∧ h <+: h' := by
  rw [run_at A rfl, Sk.toR]
  simp only [c_law_named]
  show Sk (sCons _ _ (Cn M k) [some (.ref p), some (.ref w), none, none] h) _
  rw [Sk.cons, Sk.ret]
  have lc : Ok (eLC (iVal (eVar 0)) (tgName 2) [2] tYesV (eArgs oTuple (aCons (eArgs oSorted (aCons (eLC (iVal (eVar 2)) (tgName 3) [3] tYesV (eBin gIx (eVar 1) (eVar 3))) aNil)) aNil)) (Cn M k) [some (.ref p), some (.ref w), none, none] h) fun v h' => ∃ q, v = .ref q ∧ h'[q]? = some (.lst ((bs.map (nm m)).map bagD)) ∧ h <+: h' := by
    unfold eLC
    rw [val_ok (d := .ref p) (s := .at_ p) rfl (srcD_at B.at_)]
    show Ok ((loopB _ _ _ _ _ _ _ _).bind _) _
    rw [Ok.bind, size_at B.at_]
    refine (loopB_ok (qs.map D.ref) (fun i h' acc => h <+: h' ∧ acc = ((bs.take i).map (nm m)).map bagD) (fun i h' acc q => get_at (B.pre q.1).at_ i) (Nat.le_refl _) ⟨List.prefix_refl _, rfl⟩ ?_).mono ?_
    · rintro i d h' acc hx ⟨pf, rfl⟩
      obtain ⟨q, hq, rfl⟩ := of_get_map hx
      have hi : i < bs.length := by rw [← B.len]; exact (List.getElem?_eq_some_iff.mp hq).1
      have hbi : bs[i]? = some bs[i] := List.getElem?_eq_getElem hi
      obtain ⟨hne, hbl, hlt⟩ := hb bs[i] (List.getElem_mem hi)
      have gq := (B.pre pf).each i q bs[i] hq hbi
      have gw := pre_get pf hw
      rw [Ok.tg]
      have e1 := eLC_at (h := h') (C := Cn M k) (env := [some (.ref p), some (.ref w), some (.ref q), none]) (n := q) (a := eVar 2) (t := tgName 3) (own := [3]) (tt := tYesV) (elt := eBin gIx (eVar 1) (eVar 3)) bs[i] iN (fun x => iN (m.getD x 0)) (fun _ => true) rfl gq (by omega) fun x hx => ⟨rfl, fun _ => gIx_at gw (get_map (ms_get (hlt x hx)))⟩
      rw [List.filter_eq_self.mpr fun _ _ => rfl] at e1
      have g1 : (h' ++ [O.lst (bs[i].map fun x => iN (m.getD x 0))])[h'.length]? = some (.lst ((bs[i].map fun x => m.getD x 0).map iN)) := by rw [List.map_map]; exact new_get
      have e2 := (arg1_ok2 (f := oSorted) e1).trans (oSorted_nats g1 (by rw [List.length_map]; omega))
      have e3 := (arg1_ok2 (f := oTuple) e2).trans (oTuple_at new_get)
      unfold kOne
      show Ok ((eArgs oTuple _ _ _ _).bind _) _
      rw [Ok.bind]
      refine (Ok.res e3).mpr ?_
      have hc : decide ((((bs.take i).map (nm m)).map bagD).length < 100000) = true := by
        rw [decide_eq_true_eq, List.length_map, List.length_map, List.length_take]; omega
      rw [Ok.chk]
      refine ⟨hc, (pf.trans pre_new).trans pre_new, ?_⟩
      rw [List.take_add_one, hbi, List.map_append, List.map_append]
      rfl
    · rintro acc h' ⟨pf, rfl⟩
      refine ⟨h'.length, rfl, ?_, pf.trans pre_new⟩
      rw [List.take_of_length_le (by rw [List.length_map, B.len]; exact Nat.le_refl _)]
      exact new_get
  obtain ⟨v, h1, e1, q, rfl, g1, p1⟩ := lc.eq
  have hne : ∀ b ∈ bs.map (nm m), b ≠ [] := fun b hb' z => by
    obtain ⟨c, hc, rfl⟩ := List.mem_map.mp hb'
    have := (nm_perm m c).length_eq
    rw [z, List.length_map] at this
    exact (hb c hc).1 (List.eq_nil_of_length_eq_zero this.symm)
  have e2 := (arg1_ok2 (f := oSorted) e1).trans (oSorted_bags g1 (by rw [List.length_map]; omega) hne)
  have e3 := (arg1_ok2 (f := oTuple) e2).trans (oTuple_at new_get)
  rw [Ok.res e3]
  exact ⟨rfl, p1.trans pre_new⟩
end
end PV
end

section
set_option Elab.async false
set_option linter.all false
set_option maxRecDepth 100000
set_option maxHeartbeats 4000000
/-! Families that grow bead by bead, with other names, in another order. -/
namespace FM
section
variable {n : Nat} {bs bs' : List (List Nat)} {rk : Nat → Nat}
theorem tree_two : Tree 2 [[0, 1]] id := by
  refine ⟨fun b hb => ?_, fun b hb => ?_, fun b hb x hx => ?_, fun x y _ _ h => h, fun i j a b x ha hb _ _ => ?_, 0, by decide, ⟨[0, 1], by simp, by simp⟩, fun x hx h0 => ⟨[0, 1], by simp, ?_⟩⟩
  · rw [List.mem_singleton.mp hb]; simp [Asc]
  · rw [List.mem_singleton.mp hb]; simp
  · rw [List.mem_singleton.mp hb] at hx; simp at hx; omega
  · have h1 := (List.getElem?_eq_some_iff.mp ha).1
    have h2 := (List.getElem?_eq_some_iff.mp hb).1
    simp at h1 h2
    omega
  · have : x = 1 := by omega
    subst this
    exact ⟨by simp, 0, by simp, by decide⟩
theorem own_snoc {b : List Nat} {x m : Nat} (h : Own id (b ++ [m]) x) (hb : ∀ y ∈ b, y < m) : Own id b x ∨ x = m := by
  obtain ⟨h1, y, hy, hlt⟩ := h
  rcases List.mem_append.mp h1 with q | q
  · refine .inl ⟨q, y, ?_, hlt⟩
    rcases List.mem_append.mp hy with z | z
    · exact z
    · have := hb x q
      have e := List.mem_singleton.mp z
      subst e
      simp at hlt
      omega
  · exact .inr (List.mem_singleton.mp q)
theorem own_lt (T : Tree n bs id) {b : List Nat} (hb : b ∈ bs) {x : Nat} (h : Own id b x) : x < n := T.lt b hb x h.1
theorem Tree.join (T : Tree n bs id) {i : Nat} {b : List Nat} (hi : bs[i]? = some b) : Tree (n + 1) (bs.set i (b ++ [n])) id := by
  have hb := List.mem_of_getElem? hi
  have hlt := T.lt b hb
  have hil := (List.getElem?_eq_some_iff.mp hi).1
  have mem : ∀ c ∈ bs.set i (b ++ [n]), c ∈ bs ∨ c = b ++ [n] := fun c hc => List.mem_or_eq_of_mem_set hc
  have new : b ++ [n] ∈ bs.set i (b ++ [n]) := List.mem_of_getElem? (by rw [List.getElem?_set_self hil])
  have up : ∀ c ∈ bs, ∀ x, Own id c x → ∃ d ∈ bs.set i (b ++ [n]), Own id d x := fun c hc x hx => by
    obtain ⟨j, hj⟩ := List.mem_iff_getElem?.mp hc
    by_cases e : i = j
    · subst e
      rw [hi] at hj
      cases hj
      exact ⟨_, new, List.mem_append_left _ hx.1, by obtain ⟨y, hy, h⟩ := hx.2; exact ⟨y, List.mem_append_left _ hy, h⟩⟩
    · exact ⟨c, List.mem_of_getElem? (by rw [List.getElem?_set_ne e]; exact hj), hx⟩
  have ownj : ∀ (j : Nat) c x, (bs.set i (b ++ [n]))[j]? = some c → Own id c x → (∃ d, bs[j]? = some d ∧ Own id d x) ∨ (j = i ∧ x = n) := fun j c x hj hx => by
    by_cases e : i = j
    · subst e
      rw [List.getElem?_set_self hil] at hj
      cases hj
      rcases own_snoc hx hlt with q | q
      · exact .inl ⟨b, hi, q⟩
      · exact .inr ⟨rfl, q⟩
    · rw [List.getElem?_set_ne e] at hj
      exact .inl ⟨c, hj, hx⟩
  refine ⟨fun c hc => ?_, fun c hc => ?_, fun c hc x hx => ?_, fun x y _ _ h => h, fun j k a c x ha hc hx hy => ?_, ?_⟩
  · rcases mem c hc with q | rfl
    · exact T.asc c q
    · exact List.pairwise_append.mpr ⟨T.asc b hb, List.pairwise_singleton _ _, fun y hy z hz => by rw [List.mem_singleton.mp hz]; exact hlt y hy⟩
  · rcases mem c hc with q | rfl
    · exact T.two c q
    · have := T.two b hb
      rw [List.length_append]
      omega
  · rcases mem c hc with q | rfl
    · exact Nat.lt_succ_of_lt (T.lt c q x hx)
    · rcases List.mem_append.mp hx with q | q
      · exact Nat.lt_succ_of_lt (hlt x q)
      · rw [List.mem_singleton.mp q]; exact Nat.lt_succ_self n
  · rcases ownj j a x ha hx with ⟨d, hd, q1⟩ | ⟨q1, q2⟩ <;> rcases ownj k c x hc hy with ⟨d', hd', r1⟩ | ⟨r1, r2⟩
    · exact T.uniq j k d d' x hd hd' q1 r1
    · have := own_lt T (List.mem_of_getElem? hd) q1
      omega
    · have := own_lt T (List.mem_of_getElem? hd') r1
      omega
    · omega
  · obtain ⟨r, hr, ⟨c, hc, hrc⟩, ho⟩ := T.root
    refine ⟨r, Nat.lt_succ_of_lt hr, ?_, fun x hx hne => ?_⟩
    · obtain ⟨j, hj⟩ := List.mem_iff_getElem?.mp hc
      by_cases e : i = j
      · subst e
        rw [hi] at hj
        cases hj
        exact ⟨_, new, List.mem_append_left _ hrc⟩
      · exact ⟨c, List.mem_of_getElem? (by rw [List.getElem?_set_ne e]; exact hj), hrc⟩
    · by_cases e : x = n
      · subst e
        refine ⟨_, new, by simp, ?_⟩
        have h2 := T.two b hb
        obtain ⟨y, hy⟩ : ∃ y, y ∈ b := by
          cases b with
          | nil => simp at h2
          | cons y l => exact ⟨y, by simp⟩
        exact ⟨y, List.mem_append_left _ hy, hlt y hy⟩
      · obtain ⟨d, hd, q⟩ := ho x (by omega) hne
        exact up d hd x q
theorem Tree.hung (T : Tree n bs id) {p : Nat} (hp : p < n) : Tree (n + 1) (bs ++ [[p, n]]) id := by
  have mem : ∀ c ∈ bs ++ [[p, n]], c ∈ bs ∨ c = [p, n] := fun c hc => by
    rcases List.mem_append.mp hc with q | q
    · exact .inl q
    · exact .inr (List.mem_singleton.mp q)
  have own1 : ∀ x, Own id [p, n] x → x = n := fun x ⟨h1, y, hy, h2⟩ => by
    simp at h1 hy h2
    omega
  have ownj : ∀ (j : Nat) c x, (bs ++ [[p, n]])[j]? = some c → Own id c x → (∃ d, bs[j]? = some d ∧ Own id d x) ∨ (j = bs.length ∧ x = n) := fun j c x hj hx => by
    by_cases e : j < bs.length
    · rw [List.getElem?_append_left e] at hj
      exact .inl ⟨c, hj, hx⟩
    · have h1 := (List.getElem?_eq_some_iff.mp hj).1
      rw [List.length_append] at h1
      simp only [List.length_cons, List.length_nil] at h1
      have e2 : j = bs.length := by omega
      subst e2
      rw [List.getElem?_append_right (Nat.le_refl _)] at hj
      simp at hj
      subst hj
      exact .inr ⟨rfl, own1 x hx⟩
  refine ⟨fun c hc => ?_, fun c hc => ?_, fun c hc x hx => ?_, fun x y _ _ h => h, fun j k a c x ha hc hx hy => ?_, ?_⟩
  · rcases mem c hc with q | rfl
    · exact T.asc c q
    · simp [Asc, hp]
  · rcases mem c hc with q | rfl
    · exact T.two c q
    · simp
  · rcases mem c hc with q | rfl
    · exact Nat.lt_succ_of_lt (T.lt c q x hx)
    · simp at hx
      omega
  · rcases ownj j a x ha hx with ⟨d, hd, q1⟩ | ⟨q1, q2⟩ <;> rcases ownj k c x hc hy with ⟨d', hd', r1⟩ | ⟨r1, r2⟩
    · exact T.uniq j k d d' x hd hd' q1 r1
    · have := own_lt T (List.mem_of_getElem? hd) q1
      omega
    · have := own_lt T (List.mem_of_getElem? hd') r1
      omega
    · omega
  · obtain ⟨r, hr, ⟨c, hc, hrc⟩, ho⟩ := T.root
    refine ⟨r, Nat.lt_succ_of_lt hr, ⟨c, List.mem_append_left _ hc, hrc⟩, fun x hx hne => ?_⟩
    by_cases e : x = n
    · subst e
      exact ⟨[p, x], by simp, by simp, p, by simp, hp⟩
    · obtain ⟨d, hd, q⟩ := ho x (by omega) hne
      exact ⟨d, List.mem_append_left _ hd, q⟩
/-- no two bags own one bead -/
def Apart (rk : Nat → Nat) (a b : List Nat) : Prop := ∀ x, Own rk a x → ¬ Own rk b x
theorem apart_iff : (∀ (i j : Nat) (a b : List Nat) (x : Nat), bs[i]? = some a → bs[j]? = some b → Own rk a x → Own rk b x → i = j) ↔ bs.Pairwise (Apart rk) := by
  constructor
  · intro h
    rw [List.pairwise_iff_getElem]
    intro i j hi hj hij x h1 h2
    have := h i j bs[i] bs[j] x (List.getElem?_eq_getElem hi) (List.getElem?_eq_getElem hj) h1 h2
    omega
  · intro h i j a b x ha hb h1 h2
    obtain ⟨hi, ea⟩ := List.getElem?_eq_some_iff.mp ha
    obtain ⟨hj, eb⟩ := List.getElem?_eq_some_iff.mp hb
    rw [List.pairwise_iff_getElem] at h
    rcases Nat.lt_trichotomy i j with q | q | q
    · exact absurd h2 (eb ▸ h i j hi hj q x (ea ▸ h1))
    · exact q
    · exact absurd h1 (ea ▸ h j i hj hi q x (eb ▸ h2))
theorem Tree.perm (T : Tree n bs rk) (p : bs'.Perm bs) : Tree n bs' rk := by
  have m : ∀ b, b ∈ bs' ↔ b ∈ bs := fun b => p.mem_iff
  refine ⟨fun b hb => T.asc b ((m b).mp hb), fun b hb => T.two b ((m b).mp hb), fun b hb => T.lt b ((m b).mp hb), T.inj, apart_iff.mpr ?_, ?_⟩
  · exact (p.pairwise_iff (R := Apart rk) (fun {a b} h x h1 h2 => h x h2 h1)).mpr (apart_iff.mp T.uniq)
  · obtain ⟨r, hr, ⟨c, hc, hrc⟩, ho⟩ := T.root
    refine ⟨r, hr, ⟨c, (m c).mpr hc, hrc⟩, fun x hx hne => ?_⟩
    obtain ⟨b, hb, q⟩ := ho x hx hne
    exact ⟨b, (m b).mpr hb, q⟩
end
end FM
end

section
set_option Elab.async false
set_option linter.all false
set_option maxRecDepth 100000
set_option maxHeartbeats 4000000
/-! Families with other names. -/
namespace PV
open FM
section
variable {n : Nat} {bs bs' : List (List Nat)} {m : List Nat}
theorem nm_asc (m b : List Nat) : (nm m b).Pairwise (· ≤ ·) := by
  have := List.pairwise_mergeSort (le := fun x y : Nat => decide (x ≤ y)) (fun x y z h1 h2 => by
    rw [decide_eq_true_eq] at h1 h2 ⊢; omega) (fun x y => by
    rw [Bool.or_eq_true, decide_eq_true_eq, decide_eq_true_eq]; omega) (b.map fun x => m.getD x 0)
  exact this.imp fun h => by simpa using h
/-- names: an order of 0 .. n - 1 -/
structure Names (n : Nat) (m : List Nat) : Prop where
  len : m.length = n
  nd : m.Nodup
  lt : ∀ y ∈ m, y < n
  all : ∀ y, y < n → y ∈ m
theorem names_of (h : m.Perm (List.range n)) : Names n m :=
  ⟨by rw [h.length_eq, List.length_range], h.nodup_iff.mpr List.nodup_range, fun y hy => List.mem_range.mp (h.mem_iff.mp hy), fun y hy => h.mem_iff.mpr (List.mem_range.mpr hy)⟩
theorem Names.get (N : Names n m) {x : Nat} (h : x < n) : ∃ hx : x < m.length, m.getD x 0 = m[x] := by
  have hx : x < m.length := by rw [N.len]; exact h
  exact ⟨hx, by rw [List.getD_eq_getElem?_getD, List.getElem?_eq_getElem hx]; rfl⟩
theorem Names.idx (N : Names n m) {x : Nat} (h : x < n) : m.idxOf (m.getD x 0) = x := by
  obtain ⟨hx, e⟩ := N.get h
  rw [e]
  exact N.nd.idxOf_getElem x hx
theorem Names.back (N : Names n m) {y : Nat} (h : y < n) : m.idxOf y < n ∧ m.getD (m.idxOf y) 0 = y := by
  have h1 := List.idxOf_lt_length_of_mem (N.all y h)
  have h2 : m.idxOf y < n := by rw [← N.len]; exact h1
  obtain ⟨hx, e⟩ := N.get h2
  exact ⟨h2, by rw [e]; exact List.getElem_idxOf h1⟩
theorem mem_nm {b : List Nat} {y : Nat} : y ∈ nm m b ↔ ∃ x ∈ b, m.getD x 0 = y := by
  rw [(nm_perm m b).mem_iff, List.mem_map]
theorem Names.tree (N : Names n m) (T : Tree n bs id) : Tree n (bs.map (nm m)) (fun y => m.idxOf y) := by
  have ltn : ∀ x, x < n → m.getD x 0 < n := fun x hx => by
    obtain ⟨h, e⟩ := N.get hx
    rw [e]
    exact N.lt _ (List.getElem_mem h)
  have inj : ∀ x y, x < n → y < n → m.getD x 0 = m.getD y 0 → x = y := fun x y hx hy e => by
    rw [← N.idx hx, ← N.idx hy, e]
  have own : ∀ b ∈ bs, ∀ y, Own (fun y => m.idxOf y) (nm m b) y → Own id b (m.idxOf y) := fun b hb y ⟨h1, z, hz, hlt⟩ => by
    obtain ⟨x, hx, rfl⟩ := mem_nm.mp h1
    obtain ⟨u, hu, rfl⟩ := mem_nm.mp hz
    have hxn := T.lt b hb x hx
    have hun := T.lt b hb u hu
    simp only [N.idx hxn, N.idx hun] at hlt ⊢
    exact ⟨hx, u, hu, hlt⟩
  have own2 : ∀ b ∈ bs, ∀ x, Own id b x → Own (fun y => m.idxOf y) (nm m b) (m.getD x 0) := fun b hb x ⟨h1, u, hu, hlt⟩ => by
    have hxn := T.lt b hb x h1
    have hun := T.lt b hb u hu
    refine ⟨mem_nm.mpr ⟨x, h1, rfl⟩, m.getD u 0, mem_nm.mpr ⟨u, hu, rfl⟩, ?_⟩
    simp only [N.idx hxn, N.idx hun]
    exact hlt
  refine ⟨fun c hc => ?_, fun c hc => ?_, fun c hc y hy => ?_, fun x y hx hy e => ?_, fun i j a c x ha hc hx hy => ?_, ?_⟩
  · obtain ⟨b, hb, rfl⟩ := List.mem_map.mp hc
    have nd : (nm m b).Nodup := by
      rw [(nm_perm m b).nodup_iff]
      have ab := T.asc b hb
      unfold List.Nodup
      rw [List.pairwise_map]
      refine ab.imp_of_mem fun {x y} hx hy h e => ?_
      have := inj x y (T.lt b hb x hx) (T.lt b hb y hy) e
      omega
    have := (nm_asc m b).and nd
    exact this.imp fun {x y} h => by have h1 := h.1; have h2 := h.2; omega
  · obtain ⟨b, hb, rfl⟩ := List.mem_map.mp hc
    rw [(nm_perm m b).length_eq, List.length_map]
    exact T.two b hb
  · obtain ⟨b, hb, rfl⟩ := List.mem_map.mp hc
    obtain ⟨x, hx, rfl⟩ := mem_nm.mp hy
    exact ltn x (T.lt b hb x hx)
  · rw [← (N.back hx).2, ← (N.back hy).2]
    exact congrArg (fun k => m.getD k 0) e
  · rw [List.getElem?_map] at ha hc
    cases ea : bs[i]? with
    | none => rw [ea] at ha; cases ha
    | some a0 =>
      cases ec : bs[j]? with
      | none => rw [ec] at hc; cases hc
      | some c0 =>
        rw [ea] at ha
        rw [ec] at hc
        have ha := Option.some.inj ha
        have hc := Option.some.inj hc
        rw [← ha] at hx
        rw [← hc] at hy
        exact T.uniq i j a0 c0 _ ea ec (own a0 (List.mem_of_getElem? ea) x hx) (own c0 (List.mem_of_getElem? ec) x hy)
  · obtain ⟨r, hr, ⟨c, hc, hrc⟩, ho⟩ := T.root
    refine ⟨m.getD r 0, ltn r hr, ⟨nm m c, List.mem_map.mpr ⟨c, hc, rfl⟩, mem_nm.mpr ⟨r, hrc, rfl⟩⟩, fun y hy hne => ?_⟩
    obtain ⟨h1, h2⟩ := N.back hy
    have hx : m.idxOf y ≠ r := fun e => hne (by rw [← e]; exact h2.symm)
    obtain ⟨b, hb, q⟩ := ho _ h1 hx
    refine ⟨nm m b, List.mem_map.mpr ⟨b, hb, rfl⟩, ?_⟩
    have := own2 b hb _ q
    rw [h2] at this
    exact this
/-- a bag of a tree owns a bead -/
theorem own_some {rk : Nat → Nat} (T : Tree n bs rk) {b : List Nat} (hb : b ∈ bs) : ∃ x, Own rk b x := by
  have a := T.asc b hb
  have t := T.two b hb
  match b, a, t, T.lt b hb with
  | x :: y :: l, a, _, l1 =>
    have h1 : x < y := (List.pairwise_cons.mp a).1 y (by simp)
    have hxn := l1 x (by simp)
    have hyn := l1 y (by simp)
    have hne : rk x ≠ rk y := fun e => by have := T.inj x y hxn hyn e; omega
    rcases Nat.lt_or_gt_of_ne hne with q | q
    · exact ⟨y, by simp, x, by simp, q⟩
    · exact ⟨x, by simp, y, by simp, q⟩
theorem nat_inj : ∀ {a b : List Nat}, natI a = natI b → a = b
  | [], [], _ => rfl
  | [], _ :: _, e => by cases e
  | _ :: _, [], e => by cases e
  | x :: a, y :: b, e => by
    have e := List.cons.inj e
    rw [nat_inj e.2, show x = y from Int.ofNat.inj e.1]
theorem fam_of {rk : Nat → Nat} (T : Tree n bs rk) (hn : n ≤ 60) (hl : bs.length ≤ 60) (hs : bs.Pairwise (fun x y => natI x ≤ natI y)) : Fam n bs rk := by
  refine ⟨T, hn, hl, fun i a b ha hb => ?_⟩
  obtain ⟨hi, ea⟩ := List.getElem?_eq_some_iff.mp ha
  obtain ⟨hj, eb⟩ := List.getElem?_eq_some_iff.mp hb
  have le := (List.pairwise_iff_getElem.mp hs) i (i + 1) hi hj (Nat.lt_succ_self i)
  rw [ea, eb] at le
  apply Classical.byContradiction
  intro h
  have e : natI a = natI b := List.le_antisymm le (List.not_lt.mp h)
  have e2 := nat_inj e
  subst e2
  obtain ⟨x, hx⟩ := own_some T (List.mem_of_getElem? ha)
  have := T.uniq i (i + 1) a a x ha hb hx hx
  omega
theorem leB_trans (a b c : List Nat) (h1 : leB a b = true) (h2 : leB b c = true) : leB a c = true := by
  unfold leB at *
  rw [decide_eq_true_eq] at *
  exact List.le_trans h1 h2
theorem leB_total (a b : List Nat) : (leB a b || leB b a) = true := by
  unfold leB
  rw [Bool.or_eq_true, decide_eq_true_eq, decide_eq_true_eq]
  exact List.le_total _ _
theorem leB_sorted (l : List (List Nat)) : (l.mergeSort leB).Pairwise fun x y => natI x ≤ natI y :=
  (List.pairwise_mergeSort leB_trans leB_total l).imp fun h => by unfold leB at h; exact of_decide_eq_true h
end
end PV
end

section
set_option Elab.async false
set_option linter.all false
set_option maxRecDepth 100000
set_option maxHeartbeats 4000000
/-! V35: _law_family draws a family. -/
namespace PV
open PySem PySem.Spec PyProof.Rows L2 GX
structure MG (M : Md) : Prop extends ML M where
  named : At M "_law_named" c_law_named
  family : At M "_law_family" c_law_family
section
variable {M : Md} {h h' h'' : Hs} {k n r : Nat} {ns : List Int} {bs : List (List Nat)} {rk : Nat → Nat}
theorem perm_map {ys : List D} {l : List Nat} (p : ys.Perm (l.map iN)) : ∃ m : List Nat, m.Perm l ∧ ys = m.map iN := by
  let dec : D → Nat := fun d => match d with | .int i => i.toNat | _ => 0
  have hd : ∀ x : Nat, dec (iN x) = x := fun x => by show ((x : Int)).toNat = x; omega
  refine ⟨ys.map dec, ?_, ?_⟩
  · have := p.map dec
    rw [List.map_map] at this
    have e : l.map (dec ∘ iN) = l := by
      conv => rhs; rw [← List.map_id l]
      exact List.map_congr_left fun x _ => hd x
    rwa [e] at this
  · rw [List.map_map]
    conv => lhs; rw [← List.map_id ys]
    refine List.map_congr_left fun y hy => ?_
    obtain ⟨x, _, rfl⟩ := List.mem_map.mp (p.mem_iff.mp hy)
    show iN x = iN (dec (iN x))
    rw [hd]
/-- the bags as they grow: lists of their own -/
structure Grow (h : Hs) (r L p : Nat) (qs : List Nat) (bs : List (List Nat)) : Prop extends BagsAt h p qs bs where
  nd : qs.Nodup
  np : p ∉ qs
  gp : L ≤ p
  gq : ∀ q ∈ qs, L ≤ q
theorem Grow.but {L p : Nat} {qs : List Nat} (G : Grow h r L p qs bs) (hr : r < L) (b : But r h h') : Grow h' r L p qs bs :=
  ⟨⟨b.keep p _ (by have := G.gp; omega) G.at_, G.len, fun i q c hq hc => b.keep q _ (by have := G.gq q (List.mem_of_getElem? hq); omega) (G.each i q c hq hc)⟩, G.nd, G.np, G.gp, G.gq⟩
/-- a bead joins a bag -/
theorem Grow.join {L p i q x : Nat} {qs : List Nat} {b : List Nat} (G : Grow h r L p qs bs) (hq : qs[i]? = some q) (hb : bs[i]? = some b) : Grow (h.set q (.lst ((b ++ [x]).map iN))) r L p qs (bs.set i (b ++ [x])) := by
  have hl := List.getElem?_eq_some_iff.mp (G.each i q b hq hb)
  have hpq : p ≠ q := fun z => G.np (by rw [z]; exact List.mem_of_getElem? hq)
  refine ⟨⟨by rw [List.getElem?_set_ne (fun z => hpq z.symm)]; exact G.at_, by rw [List.length_set]; exact G.len, fun j q' c hq' hc => ?_⟩, G.nd, G.np, G.gp, G.gq⟩
  by_cases z : i = j
  · subst z
    rw [hq] at hq'
    cases hq'
    have hi := (List.getElem?_eq_some_iff.mp hb).1
    rw [List.getElem?_set_self hi] at hc
    cases hc
    exact List.getElem?_set_self hl.1
  · rw [List.getElem?_set_ne z] at hc
    have hne : q ≠ q' := fun w => by
      subst w
      have h1 := List.getElem?_eq_some_iff.mp hq
      have h2 := List.getElem?_eq_some_iff.mp hq'
      rcases Nat.lt_or_gt_of_ne z with w | w
      · exact (List.pairwise_iff_getElem.mp G.nd i j h1.1 h2.1 w) (h1.2.trans h2.2.symm)
      · exact (List.pairwise_iff_getElem.mp G.nd j i h2.1 h1.1 w) (h2.2.trans h1.2.symm)
    rw [List.getElem?_set_ne hne]
    exact G.each j q' c hq' hc
/-- a new bag -/
theorem Grow.hung {L p : Nat} {qs : List Nat} {b : List Nat} (G : Grow h r L p qs bs) (hL : L ≤ h.length) : Grow ((h ++ [O.lst (b.map iN)]).set p (O.lst ((qs ++ [h.length]).map D.ref))) r L p (qs ++ [h.length]) (bs ++ [b]) := by
  have hp := (List.getElem?_eq_some_iff.mp G.at_).1
  have hlt : ∀ q ∈ qs, q < h.length := fun q hq => by
    obtain ⟨i, hi⟩ := List.mem_iff_getElem?.mp hq
    have h1 := (List.getElem?_eq_some_iff.mp hi).1
    exact (List.getElem?_eq_some_iff.mp (G.each i q _ hi (List.getElem?_eq_getElem (by rw [← G.len]; exact h1)))).1
  refine ⟨⟨List.getElem?_set_self (by rw [List.length_append]; simp; omega), by rw [List.length_append, List.length_append, G.len]; rfl, fun i q c hq hc => ?_⟩, ?_, ?_, G.gp, ?_⟩
  · by_cases hi : i < qs.length
    · rw [List.getElem?_append_left hi] at hq
      rw [List.getElem?_append_left (by rw [← G.len]; exact hi)] at hc
      have hm := List.mem_of_getElem? hq
      rw [List.getElem?_set_ne (fun z => G.np (by rw [z]; exact hm)), List.getElem?_append_left (hlt q hm)]
      exact G.each i q c hq hc
    · have h1 := (List.getElem?_eq_some_iff.mp hq).1
      rw [List.length_append] at h1
      have e : i = qs.length := by simp at h1; omega
      subst e
      rw [List.getElem?_append_right (Nat.le_refl _)] at hq
      rw [G.len, List.getElem?_append_right (Nat.le_refl _)] at hc
      simp at hq hc
      subst hq
      subst hc
      rw [List.getElem?_set_ne (by omega)]
      exact new_get
  · rw [List.nodup_append]
    refine ⟨G.nd, by simp, fun a ha b hb => ?_⟩
    have := hlt a ha
    rw [List.mem_singleton.mp hb]
    omega
  · rw [List.mem_append, not_or]
    exact ⟨G.np, by simp; omega⟩
  · intro q hq
    rcases List.mem_append.mp hq with z | z
    · exact G.gq q z
    · rw [List.mem_singleton.mp z]; exact hL
theorem RowOk.set {q : Nat} {o : O} (R : RowOk h r ns) (hq : q ≠ r) : RowOk (h.set q o) r ns := let ⟨i, x, y, e, h1, h2⟩ := R; ⟨i, x, y, by rw [List.getElem?_set_ne hq]; exact e, h1, h2⟩
theorem call22 {x : Str} {a b : Ev} {env : Env'} {d e : D} {j : Nat} {h1 h2 : Hs} (ha : a (Cn M j) env h = .ok d h1) (hb : b (Cn M j) env h1 = .ok e h2) : eCall x 2 (aCons a (aCons b aNil)) (Cn M j) env h = run M j x [d, e] h2 := by
  unfold eCall
  rw [aC2 ha hb]
  rfl
theorem eMl_ok2 {C : CF} {env : Env'} {f : Mop} {o : Ev} {a : Av} {d : D} {L xs : List D} {h1 h2 : Hs} {R : Res D} (ho : o C env h = .ok d h1) (hl : lstD d h1 = some L) (ha : a C env h1 = .ok xs h2) (hf : f d xs h2 = R) : eMl f o a C env h = R := by
  unfold eMl
  rw [ho]
  simp only [Res.bind]
  rw [hl, ha]
  exact hf
theorem But.set_new {q : Nat} {o : O} (b : But r h h') (hq : h.length ≤ q) : But r h (h'.set q o) := ⟨by rw [List.length_set]; exact b.len, fun j u hj e => by
  have := (List.getElem?_eq_some_iff.mp e).1
  rw [List.getElem?_set_ne (by omega)]
  exact b.keep j u hj e⟩
theorem r_family (B : MG M) {most : Nat} (h2 : 2 ≤ most) (h60 : most ≤ 60) (R : RowOk h r ns) : Ok (run M (k + 4) "_law_family" [.ref r, iN most] h) fun v h' => ∃ (n : Nat) (bs : List (List Nat)) (rk : Nat → Nat), v = famD bs ∧ Fam n bs rk ∧ n ≤ most ∧ RowOk h' r ns ∧ But r h h' := by
  have rlt : r < h.length := by obtain ⟨i, x, y, hr, _⟩ := R; exact (List.getElem?_eq_some_iff.mp hr).1
  rw [run_at B.family rfl, Sk.toR]
  simp only [c_law_family]
  show Sk (sCons _ _ (Cn M (k + 3)) [some (.ref r), some (iN most), none, none, none, none] h) _
  -- size
  obtain ⟨v, h1, e1, t, rfl, ht, R1, b1⟩ := (r_taken (k := k + 2) B.taken (many := most - 1) (by omega) (by omega) R).eq
  have e2 : eBin gAdd (eCon (.int 2)) (eCall "_law_taken" 2 (aCons (eVar 0) (aCons (eBin gSub (eVar 1) (eCon (.int 1))) aNil))) (Cn M (k + 3)) [some (.ref r), some (iN most), none, none, none, none] h = .ok (iN (2 + t)) h1 := by
    have e3 : eBin gSub (eVar 1) (eCon (.int 1)) (Cn M (k + 3)) [some (.ref r), some (iN most), none, none, none, none] h = .ok (iN (most - 1)) h := (bin_ok (var_ok (i := 1) (d := iN most) rfl) (con_ok _)).trans (gSub_len (by omega))
    rw [bin_ok2 (con_ok _) ((call22 (d := .ref r) rfl e3).trans e1), gAdd_ok]
    rw [show (2 : Int) + (t : Int) = ((2 + t : Nat) : Int) by omega]
  -- how often
  have e4 : eLst (aCons (eCon (.int 2)) (aCons (eCon (.int 3)) (aCons (eCon (.int 3)) (aCons (eCon (.int 4)) (aCons (eCon (.int 9)) aNil))))) (Cn M (k + 3)) [some (.ref r), some (iN most), none, none, none, none] h1 = .ok (.ref h1.length) (h1 ++ [.lst [.int 2, .int 3, .int 3, .int 4, .int 9]]) := rfl
  have l1 : r < h1.length := Nat.lt_of_lt_of_le rlt b1.len
  obtain ⟨v, h3, e5, hv, R3, b3⟩ := (r_pick (k := k + 1) B.toML (d := .ref h1.length) (xs := [.int 2, .int 3, .int 3, .int 4, .int 9]) (h := h1 ++ [.lst [.int 2, .int 3, .int 3, .int 4, .int 9]]) (.inr ⟨h1.length, rfl, by omega, new_get⟩) (by simp) (by simp) (R1.keep pre_new)).eq
  obtain ⟨o, rfl, ho1, ho2⟩ : ∃ o : Nat, v = iN o ∧ 1 ≤ o ∧ o ≤ 9 := by
    simp only [List.mem_cons, List.not_mem_nil, or_false] at hv
    rcases hv with rfl | rfl | rfl | rfl | rfl
    · exact ⟨2, rfl, by omega, by omega⟩
    · exact ⟨3, rfl, by omega, by omega⟩
    · exact ⟨3, rfl, by omega, by omega⟩
    · exact ⟨4, rfl, by omega, by omega⟩
    · exact ⟨9, rfl, by omega, by omega⟩
  have e6 := aC2 e2 ((call22 (x := "_law_pick") (a := eVar 0) (d := .ref r) (h1 := h1) rfl e4).trans e5)
  rw [Sk.cons]
  unfold sPar2
  rw [Sk.toS, Ok.res e6]
  simp only [Sk.nx, List.set]
  have b03 : But r h h3 := (b1.trans (But.pre pre_new)).trans b3
  -- the first bag
  rw [Sk.cons, Sk.asg]
  have e7 : eLst (aCons (eLst (aCons (eCon (.int 0)) (aCons (eCon (.int 1)) aNil))) aNil) (Cn M (k + 3)) [some (.ref r), some (iN most), none, none, some (iN (2 + t)), some (iN o)] h3 = .ok (.ref (h3 ++ [O.lst [.int 0, .int 1]]).length) (h3 ++ [.lst [.int 0, .int 1]] ++ [.lst [.ref h3.length]]) := rfl
  rw [Ok.res e7]
  simp only [Ok.tg, Ok.con, List.set]
  generalize hp : (h3 ++ [O.lst [.int 0, .int 1]]).length = p
  have hp3 : p = h3.length + 1 := by rw [← hp]; simp
  generalize hh4 : h3 ++ [O.lst [.int 0, .int 1]] ++ [O.lst [.ref h3.length]] = h4
  have p34 : h3 <+: h4 := by rw [← hh4, List.append_assoc]; exact ⟨_, rfl⟩
  have b04 : But r h h4 := b03.trans (But.pre p34)
  have G0 : Grow h4 r h.length p [h3.length] [[0, 1]] := by
    refine ⟨⟨by rw [← hh4, hp3]; simp, rfl, fun i q c hq hc => ?_⟩, by simp, by simp; omega, by have := b03.len; omega, fun q hq => by rw [List.mem_singleton.mp hq]; exact b03.len⟩
    cases i with
    | zero => cases hq; cases hc; rw [← hh4]; simp
    | succ i => simp at hq
  rw [Sk.cons, Sk.for_]
  have e8 := iRng2_ok (C := Cn M (k + 3)) (env := [some (.ref r), some (iN most), some (.ref p), none, some (iN (2 + t)), some (iN o)]) (h := h4) (a := eCon (.int 2)) (b := eVar 4) (m := 2) (n := 2 + t) rfl rfl (by omega) (by omega)
  rw [Ok.res e8]
  refine forS_ok _ (fun i e h' => ∃ (u : Option D) (qs : List Nat) (bs : List (List Nat)), e = [some (.ref r), some (iN most), some (.ref p), u, some (iN (2 + t)), some (iN o)] ∧ Grow h' r h.length p qs bs ∧ FM.Tree (2 + i) bs id ∧ bs.length ≤ i + 1 ∧ RowOk h' r ns ∧ But r h h') (fun _ _ _ _ => rfl) (Nat.le_refl _)
    ⟨none, [h3.length], [[0, 1]], rfl, G0, FM.tree_two, by simp, R3.keep p34, b04⟩ ?_ ?_
  · rintro e h' ⟨u, qs, bs, rfl, G, T, hl, R', b'⟩
    rw [List.length_map, List.length_range, show 2 + t - 2 = t by omega] at T hl
    simp only
    rw [Sk.cons, Sk.ret]
    have e9 : eLstR (rg1 (eVar 4)) (Cn M (k + 3)) [some (.ref r), some (iN most), some (.ref p), u, some (iN (2 + t)), some (iN o)] h' = .ok (.ref h'.length) (h' ++ [.lst ((List.range (2 + t)).map iN)]) := lstR0_ok (rg1_ok (var_ok (i := 4) (d := iN (2 + t)) rfl)) (by omega)
    have l' : r < h'.length := Nat.lt_of_lt_of_le rlt b'.len
    obtain ⟨v, h5, e10, f, ys, rfl, hf, gf, pm, R5, b5⟩ := (r_mixed (k := k + 1) B.toML (d := .ref h'.length) (xs := (List.range (2 + t)).map iN) (h := h' ++ [.lst ((List.range (2 + t)).map iN)]) (.inr ⟨h'.length, rfl, by omega, new_get⟩) (by rw [List.length_map, List.length_range]; omega) (R'.keep pre_new)).eq
    obtain ⟨m, pmm, rfl⟩ := perm_map pm
    have N := names_of pmm
    have G5 : Grow h5 r h.length p qs bs := G.but rlt ((But.pre pre_new).trans b5)
    have e11 : eCall "_law_mixed" 2 (aCons (eVar 0) (aCons (eLstR (rg1 (eVar 4))) aNil)) (Cn M (k + 3)) [some (.ref r), some (iN most), some (.ref p), u, some (iN (2 + t)), some (iN o)] h' = .ok (.ref f) h5 := (call22 (d := .ref r) (h1 := h') rfl e9).trans e10
    obtain ⟨v, h6, e12, rfl, p6⟩ := (r_named (k := k + 2) B.named G5.toBagsAt gf (by omega) fun b hb => ⟨fun z => by have := T.two b hb; rw [z] at this; simp at this, by
      have nd : b.Nodup := (T.asc b hb).imp fun h => Nat.ne_of_lt h
      have sub : b ⊆ List.range (2 + t) := fun x hx => List.mem_range.mpr (T.lt b hb x hx)
      have := nd.length_le_of_subset sub
      rw [List.length_range] at this
      omega, fun x hx => by rw [N.len]; exact T.lt b hb x hx⟩).eq
    have e13 := (call22 (x := "_law_named") (a := eVar 2) (d := .ref p) (h1 := h') rfl e11).trans e12
    rw [Ok.res e13]
    have T2 : FM.Tree (2 + t) ((bs.map (nm m)).mergeSort leB) (fun y => m.idxOf y) := FM.Tree.perm (N.tree T) (List.mergeSort_perm _ _)
    refine ⟨2 + t, _, _, rfl, fam_of T2 (by omega) (by rw [(List.mergeSort_perm _ _).length_eq, List.length_map]; omega) (leB_sorted _), by omega, R5.keep p6, ?_⟩
    exact ((b'.trans (But.pre pre_new)).trans b5).trans (But.pre p6)
  · rintro i d e h' hx ⟨u, qs, bs, rfl, G, T, hl, R', b'⟩
    obtain ⟨j, hj, rfl⟩ := of_get_map hx
    have hj' := (List.getElem?_eq_some_iff.mp hj).1
    rw [List.length_range] at hj'
    rw [List.getElem?_range hj'] at hj
    cases hj
    simp only [Ok.tg, Ok.con, List.set]
    rw [Sk.cons, Sk.if_]
    obtain ⟨v, ha, ea, t1, rfl, ht1, Ra, ba⟩ := (r_taken (k := k + 2) B.taken (many := o) ho1 (by omega) R').eq
    have ez : (2 : Int) + (i : Int) = ((2 + i : Nat) : Int) := by omega
    have t0 : tBl (eBin gEq (eCall "_law_taken" 2 (aCons (eVar 0) (aCons (eVar 5) aNil))) (eCon (.int 0))) (Cn M (k + 3)) [some (.ref r), some (iN most), some (.ref p), some (iN (2 + i)), some (iN (2 + t)), some (iN o)] h' = .ok (decide (((t1 : Nat) : Int) = 0)) ha := by
      unfold tBl
      rw [bin_ok2 ((call22 (d := .ref r) (h1 := h') rfl (var_ok (i := 5) (d := iN o) rfl)).trans ea) (con_ok _), gEq_int]
      rfl
    have Ga : Grow ha r h.length p qs bs := G.but rlt ba
    have b0a : But r h ha := b'.trans ba
    obtain ⟨c0, cr, ec⟩ := T.ne
    have hq1 : 1 ≤ qs.length := by rw [Ga.len, ec]; simp
    have hqs : qs.length ≤ 100 := by rw [Ga.len]; omega
    refine (Ok.res t0).mpr ?_
    by_cases hz : ((t1 : Nat) : Int) = 0
    · rw [decide_eq_true hz]
      simp only [if_true]
      rw [Sk.cons, Sk.expr]
      obtain ⟨v, hb, eb, t2, rfl, ht2, Rb, bb⟩ := (r_taken (k := k + 2) B.taken (many := qs.length) hq1 (by omega) Ra).eq
      have Gb : Grow hb r h.length p qs bs := Ga.but rlt bb
      have hq : qs[t2]? = some qs[t2] := List.getElem?_eq_getElem ht2
      obtain ⟨bt, hbi⟩ : ∃ c, bs[t2]? = some c := ⟨_, List.getElem?_eq_getElem (by rw [← Ga.len]; exact ht2)⟩
      have gq := Gb.each t2 _ _ hq hbi
      have eo : eBin gIx (eVar 2) (eCall "_law_taken" 2 (aCons (eVar 0) (aCons (eArgs oLen (aCons (eVar 2) aNil)) aNil))) (Cn M (k + 3)) [some (.ref r), some (iN most), some (.ref p), some (iN (2 + i)), some (iN (2 + t)), some (iN o)] ha = .ok (.ref qs[t2]) hb := by
        have el : eArgs oLen (aCons (eVar 2) aNil) (Cn M (k + 3)) [some (.ref r), some (iN most), some (.ref p), some (iN (2 + i)), some (iN (2 + t)), some (iN o)] ha = .ok (iN qs.length) ha := by
          rw [arg1_ok (var_ok (i := 2) (d := .ref p) rfl), oLen_at Ga.at_, List.length_map]
        rw [bin_ok2 (var_ok (i := 2) (d := .ref p) rfl) ((call22 (d := .ref r) (h1 := ha) rfl el).trans eb)]
        exact gIx_at Gb.at_ (get_map hq)
      have hbl : (bt.map iN).length < 100000 := by
        have hm := List.mem_of_getElem? hbi
        have nd : bt.Nodup := (T.asc _ hm).imp fun h => Nat.ne_of_lt h
        have sub : bt ⊆ List.range (2 + i) := fun x hx => List.mem_range.mpr (T.lt _ hm x hx)
        have := nd.length_le_of_subset sub
        rw [List.length_range] at this
        rw [List.length_map]
        omega
      have em := eMl_ok2 eo (seqD_at gq) (aC1 (var_ok (i := 3) (d := iN (2 + i)) rfl)) (mAppend_ok gq hbl)
      rw [Ok.res em]
      have ejoin : bt.map iN ++ [iN (2 + i)] = (bt ++ [2 + i]).map iN := by rw [List.map_append]; rfl
      rw [ejoin]
      have lq : h.length ≤ qs[t2] := Gb.gq _ (List.getElem_mem ht2)
      refine ⟨some (iN (2 + i)), qs, bs.set t2 (bt ++ [2 + i]), rfl, Gb.join hq hbi, T.join hbi, by rw [List.length_set]; omega, Rb.set (by omega), (b0a.trans bb).set_new lq⟩
    · rw [decide_eq_false hz]
      simp only [Bool.false_eq_true, if_false]
      rw [Sk.cons, Sk.expr]
      obtain ⟨v, hb, eb, t2, rfl, ht2, Rb, bb⟩ := (r_taken (k := k + 2) B.taken (many := 2 + i) (by omega) (by omega) Ra).eq
      have Gb : Grow hb r h.length p qs bs := Ga.but rlt bb
      have ea2 : eLst (aCons (eCall "_law_taken" 2 (aCons (eVar 0) (aCons (eVar 3) aNil))) (aCons (eVar 3) aNil)) (Cn M (k + 3)) [some (.ref r), some (iN most), some (.ref p), some (iN (2 + i)), some (iN (2 + t)), some (iN o)] ha = .ok (.ref hb.length) (hb ++ [.lst [iN t2, iN (2 + i)]]) := by
        unfold eLst
        rw [aC2 ((call22 (d := .ref r) (h1 := ha) rfl (var_ok (i := 3) (d := iN (2 + i)) rfl)).trans eb) (var_ok (i := 3) (d := iN (2 + i)) rfl)]
        rfl
      have gp' : (hb ++ [O.lst [iN t2, iN (2 + i)]])[p]? = some (.lst (qs.map D.ref)) := pre_get pre_new Gb.at_
      have em := eMl_ok2 (var_ok (C := Cn M (k + 3)) (env := [some (.ref r), some (iN most), some (.ref p), some (iN (2 + i)), some (iN (2 + t)), some (iN o)]) (i := 2) (d := .ref p) rfl) (seqD_at Ga.at_) (aC1 ea2) (mAppend_ok gp' (by rw [List.length_map]; omega))
      rw [Ok.res em]
      have ejoin : qs.map D.ref ++ [D.ref hb.length] = (qs ++ [hb.length]).map D.ref := by rw [List.map_append]; rfl
      rw [ejoin]
      have lb : h.length ≤ hb.length := (b0a.trans bb).len
      refine ⟨some (iN (2 + i)), qs ++ [hb.length], bs ++ [[t2, 2 + i]], rfl, Gb.hung (b := [t2, 2 + i]) lb, T.hung ht2, by rw [List.length_append]; simp; omega, (Rb.keep pre_new).set (by have := Gb.gp; omega), ((b0a.trans bb).trans (But.pre pre_new)).set_new Gb.gp⟩
end
end PV
end

section
set_option Elab.async false
set_option linter.all false
set_option maxRecDepth 100000
set_option maxHeartbeats 4000000
/-! V36: is_family, bar, beads, rank, sizes, one_bag of a family. -/
namespace PV
open PySem PySem.Spec PyProof.Rows L2 GX
structure MK (M : Md) : Prop extends MF M where
  bar : At M "bar" c_bar
  beads : At M "beads" c_beads
  rank : At M "rank" c_rank
  sizes : At M "sizes" c_sizes
  one_bag : At M "one_bag" c_one_bag
  check_number : At M "check_number" c_check_number
section
variable {M : Md} {h h' h'' : Hs} {k n r : Nat} {bs : List (List Nat)} {rk : Nat → Nat}
theorem call1' {x : Str} {a : Ev} {env : Env'} {d : D} {j : Nat} {h1 : Hs} (ha : a (Cn M j) env h = .ok d h1) : eCall x 1 (aCons a aNil) (Cn M j) env h = run M j x [d] h1 := by
  unfold eCall
  rw [aC1 ha]
  rfl
theorem Ok.eqv {α : Type} {r r' : Res α} {P : α → Hs → Prop} (e : r = r') (k : Ok r' P) : Ok r P := by rw [e]; exact k
theorem r_makes_family (B : MF M) (F : Fam n bs rk) : Ok (run M (k + 9) "makes_family" [famD bs] h) fun v h' => v = .bl true ∧ h <+: h' := by
  rw [run_at B.makes_family rfl, Sk.toR]
  simp only [c_makes_family]
  show Sk (sCons _ _ (Cn M (k + 8)) [some (famD bs)] h) _
  rw [Sk.cons, Sk.ret]
  obtain ⟨v, h1, e1, rfl, p⟩ := (r_first_bar (h := h) (k := k + 4) B.toMB F.tree F.most (by have := F.few; omega)).eq
  have e2 : eBin gIs (eCall "first_bar" 1 (aCons (eVar 0) aNil)) (eCon .non) (Cn M (k + 8)) [some (famD bs)] h = .ok (.bl true) h1 := bin_ok2 ((call1' (d := famD bs) (h1 := h) rfl).trans e1) (con_ok _)
  have e3 : eAnd (eCall "are_bags" 1 (aCons (eVar 0) aNil)) (eBin gIs (eCall "first_bar" 1 (aCons (eVar 0) aNil)) (eCon .non)) (Cn M (k + 8)) [some (famD bs)] h = .ok (.bl true) h1 := by
    generalize eBin gIs (eCall "first_bar" 1 (aCons (eVar 0) aNil)) (eCon .non) = X at e2 ⊢
    unfold eAnd
    rw [(call1' (d := famD bs) (h1 := h) rfl).trans (r_are_bags B.toMC F)]
    exact e2
  rw [Ok.res e3]
  exact ⟨rfl, p⟩
theorem r_is_family (B : MF M) (F : Fam n bs rk) : Ok (run M (k + 10) "is_family" [famD bs] h) fun v h' => v = .bl true ∧ h <+: h' := by
  rw [run_at B.is_family rfl, Sk.toR]
  simp only [c_is_family]
  show Sk (sCons _ _ (Cn M (k + 9)) [some (famD bs)] h) _
  rw [Sk.cons, Sk.ret]
  exact Ok.eqv (call1' (d := famD bs) (h1 := h) rfl) (r_makes_family B F)
theorem r_bar (B : MK M) (F : Fam n bs rk) : Ok (run M (k + 10) "bar" [famD bs] h) fun v h' => v = .non ∧ h <+: h' := by
  rw [run_at B.bar rfl, Sk.toR]
  simp only [c_bar]
  show Sk (sCons _ _ (Cn M (k + 9)) [some (famD bs)] h) _
  rw [Sk.cons, Sk.expr, Ok.res ((call1' (d := famD bs) (h1 := h) rfl).trans (r_check_bags B.toMF F))]
  simp only
  rw [Sk.cons, Sk.ret]
  exact Ok.eqv (call1' (d := famD bs) (h1 := h) rfl) (r_first_bar (k := k + 5) B.toMB F.tree F.most (by have := F.few; omega))
theorem r_beads (B : MK M) (F : Fam n bs rk) : Ok (run M (k + 11) "beads" [famD bs] h) fun v h' => v = iN n ∧ h <+: h' := by
  rw [run_at B.beads rfl, Sk.toR]
  simp only [c_beads]
  show Sk (sCons _ _ (Cn M (k + 10)) [some (famD bs)] h) _
  rw [Sk.cons, Sk.expr]
  refine Ok.eqv (call1' (d := famD bs) (h1 := h) rfl) ((r_check_family B.toMF F).mono ?_)
  rintro v h1 ⟨rfl, p⟩
  dsimp only
  rw [Sk.cons, Sk.ret, Ok.res ((call1' (d := famD bs) (h1 := h1) rfl).trans (r_bead_count (k := k + 8) B.bead_count F))]
  exact ⟨rfl, p⟩
theorem r_rank (B : MK M) (F : Fam n bs rk) : Ok (run M (k + 11) "rank" [famD bs] h) fun v h' => v = iN (bs.length - 1) ∧ h <+: h' := by
  obtain ⟨b0, r0, eb⟩ := F.tree.ne
  rw [run_at B.rank rfl, Sk.toR]
  simp only [c_rank]
  show Sk (sCons _ _ (Cn M (k + 10)) [some (famD bs)] h) _
  rw [Sk.cons, Sk.expr]
  refine Ok.eqv (call1' (d := famD bs) (h1 := h) rfl) ((r_check_family B.toMF F).mono ?_)
  rintro v h1 ⟨rfl, p⟩
  dsimp only
  have e1 : eBin gSub (eArgs oLen (aCons (eVar 0) aNil)) (eCon (.int 1)) (Cn M (k + 10)) [some (famD bs)] h1 = .ok (iN (bs.length - 1)) h1 := by
    rw [bin_ok ((arg1_ok (var_ok (i := 0) (d := famD bs) rfl)).trans (oLen_tup _)) (con_ok _), List.length_map]
    exact gSub_len (by rw [eb]; simp)
  rw [Sk.cons, Sk.ret, Ok.res e1]
  exact ⟨rfl, p⟩
/-- [len(bag) for bag in family], sorted -/
abbrev lens (bs : List (List Nat)) : List Nat := (bs.map List.length).mergeSort fun x y => decide (x ≤ y)
theorem sizes_e {C : CF} {env : Env'} {j s : Nat} (hl : bs.length ≤ 60) (he : getV env j = some (famD bs)) (hs : ∀ (d : D), Ok ((tgName s).run d (wipeE env [s]) h) fun e h1 => h1 = h ∧ getV e s = some d) :
    ∃ h1, eArgs oTuple (aCons (eArgs oSorted (aCons (eLC (iVal (eVar j)) (tgName s) [s] tYesV (eArgs oLen (aCons (eVar s) aNil))) aNil)) aNil) C env h = .ok (.tup ((lens bs).map iN)) h1 ∧ h <+: h1 := by
  have e1 : eLC (iVal (eVar j)) (tgName s) [s] tYesV (eArgs oLen (aCons (eVar s) aNil)) C env h = .ok (.ref h.length) (h ++ [.lst ((bs.map List.length).map iN)]) := by
    have e2 := lc_map (h := h) (C := C) (t := tgName s) (e0 := wipeE env [s]) (elt := eArgs oLen (aCons (eVar s) aNil)) bs bagD (fun b => iN b.length) (by omega) fun b hb => (hs (bagD b)).mono fun e h1 ⟨z1, z2⟩ => by
      subst z1
      rw [arg1_ok (var_ok z2), oLen_tup, List.length_map]
    unfold eLC
    rw [val_ok (d := famD bs) (s := .items (bs.map bagD)) he rfl]
    show ((loopB _ _ _ _ _ _ _ _).bind _) = _
    rw [show Src.size (.items (bs.map bagD)) h = (bs.map bagD).length from rfl, e2, List.map_map]
    rfl
  have e2 := (arg1_ok2 (f := oSorted) e1).trans (oSorted_nats new_get (by rw [List.length_map]; omega))
  have e3 := (arg1_ok2 (f := oTuple) e2).trans (oTuple_at new_get)
  exact ⟨_, e3, pre_new.trans pre_new⟩
theorem r_sizes (B : MK M) (F : Fam n bs rk) : Ok (run M (k + 11) "sizes" [famD bs] h) fun v h' => v = .tup ((lens bs).map iN) ∧ h <+: h' := by
  rw [run_at B.sizes rfl, Sk.toR]
  simp only [c_sizes]
  show Sk (sCons _ _ (Cn M (k + 10)) [some (famD bs), none] h) _
  rw [Sk.cons, Sk.expr]
  refine Ok.eqv (call1' (d := famD bs) (h1 := h) rfl) ((r_check_family B.toMF F).mono ?_)
  rintro v h1 ⟨rfl, p⟩
  dsimp only
  obtain ⟨h2, e, p2⟩ := sizes_e (C := Cn M (k + 10)) (env := [some (famD bs), none]) (h := h1) (j := 0) (s := 1) F.few rfl fun d => ⟨rfl, rfl⟩
  rw [Sk.cons, Sk.ret, Ok.res e]
  exact ⟨rfl, p.trans p2⟩
theorem tupR0_ok {C : CF} {env : Env'} {r : Rv} {m : Nat} (e : r C env h = .ok (0, (m : Int)) h) (hm : m ≤ 100000) : eTupR r C env h = .ok (.tup ((List.range m).map iN)) h := by
  have hp : (rgOk (0, (m : Int)) && decide (((m : Int) - 0).toNat ≤ 100000)) = true := by
    rw [rgOk_is0 hm, Bool.true_and, decide_eq_true_eq]
    simp only [Int.sub_zero, Int.toNat_natCast]
    exact hm
  have gen : ∀ {p : Int × Int} {xs : List D}, r C env h = .ok p h → (rgOk p && decide ((p.2 - p.1).toNat ≤ 100000)) = true → rangeD p.1 (p.2 - p.1).toNat = xs → eTupR r C env h = .ok (.tup xs) h := fun {p xs} e hp hx => by
    subst hx
    unfold eTupR
    rw [e]
    simp only [Res.bind]
    rw [hp]
    rfl
  exact gen e hp (by simp only [Int.sub_zero, Int.toNat_natCast]; exact rng0)
theorem eTup1 {C : CF} {env : Env'} {a : Ev} {d : D} (e : a C env h = .ok d h) : eTup (aCons a aNil) C env h = .ok (.tup [d]) h := by
  unfold eTup
  rw [aC1 e]
  rfl
theorem call3 {x : Str} {a b c : Ev} {env : Env'} {d e f : D} {j : Nat} (ha : a (Cn M j) env h = .ok d h) (hb : b (Cn M j) env h = .ok e h) (hc : c (Cn M j) env h = .ok f h) : eCall x 3 (aCons a (aCons b (aCons c aNil))) (Cn M j) env h = run M j x [d, e, f] h := by
  have e1 := aC2 hb hc
  generalize aCons b (aCons c aNil) = s at e1 ⊢
  unfold eCall aCons
  rw [ha]
  simp only [Res.bind]
  rw [e1]
  rfl
theorem r_one_bag (B : MK M) (h2 : 2 ≤ n) (h60 : n ≤ 60) : run M (k + 4) "one_bag" [iN n] h = .ok (.tup [.tup ((List.range n).map iN)]) h := by
  have hn : run M (k + 3) "check_number" [iN n, .int 2, .int 60] h = .ok .non h := by
    refine Ok.val ?_
    rw [run_at B.check_number rfl, Sk.toR]
    simp only [c_check_number]
    show Sk (sCons _ _ (Cn M (k + 2)) [some (iN n), some (.int 2), some (.int 60)] h) _
    have e0 : tNotV (tVal (eCall "is_between" 3 (aCons (eVar 0) (aCons (eVar 1) (aCons (eVar 2) aNil))))) (Cn M (k + 2)) [some (iN n), some (.int 2), some (.int 60)] h = .ok false h := by
      unfold tNotV
      rw [tVal_bl ((call3 (d := iN n) (e := .int 2) (f := .int 60) rfl rfl rfl).trans (r_is_between (k := k) B.toMC (by omega) (by omega)))]
      rfl
    rw [Sk.cons, Sk.if_, Ok.res e0]
    exact ⟨trivial, rfl⟩
  refine Ok.val ?_
  rw [run_at B.one_bag rfl, Sk.toR]
  simp only [c_one_bag]
  show Sk (sCons _ _ (Cn M (k + 3)) [some (iN n)] h) _
  rw [Sk.cons, Sk.expr, Ok.res ((call3 (d := iN n) (e := .int 2) (f := .int 60) rfl rfl rfl).trans hn)]
  simp only
  rw [Sk.cons, Sk.ret, Ok.res (eTup1 (tupR0_ok (rg1_ok (var_ok (i := 0) (d := iN n) rfl)) (by omega)))]
  exact ⟨rfl, rfl⟩
end
end PV
end

section
set_option Elab.async false
set_option linter.all false
set_option maxRecDepth 100000
set_option maxHeartbeats 4000000
/-! V37: degrees, as the program and as the law count them. -/
namespace PV
open PySem PySem.Spec PyProof.Rows L2 GX
/-- the bags that hold a bead -/
def cntB (bs : List (List Nat)) (x : Nat) : Nat := (bs.filter fun b => decide (x ∈ b)).length
theorem cntB_snoc (bs : List (List Nat)) (b : List Nat) (x : Nat) : cntB (bs ++ [b]) x = cntB bs x + (if x ∈ b then 1 else 0) := by
  unfold cntB
  rw [List.filter_append, List.length_append]
  by_cases h : x ∈ b
  · simp [h]
  · simp [h]
section
variable {M : Md} {h h' h'' : Hs} {k n r : Nat} {bs : List (List Nat)} {rk : Nat → Nat}
theorem eqD_nat (a x : Nat) : eqD (iN a) (iN x) = decide (a = x) := by
  unfold eqD
  rw [py0_int, py0_int, PyData.eqv]
  by_cases e : a = x
  · subst e; simp
  · have : ((a : Int)) ≠ (x : Int) := by omega
    simp [e, this]
theorem gIn_bag (x : Nat) (b : List Nat) : gIn (iN x) (bagD b) h = .ok (.bl (decide (x ∈ b))) h := by
  have fl : (D.flat (iN x) && (b.map iN).all D.flat) = true := by
    rw [show D.flat (iN x) = true from rfl, Bool.true_and, List.all_eq_true]
    intro y hy
    obtain ⟨i, _, rfl⟩ := List.mem_map.mp hy
    rfl
  have e1 : inD (iN x) (bagD b) h = some ((b.map iN).any fun y => eqD y (iN x)) := by
    show (if (D.flat (iN x) && (b.map iN).all D.flat || (D.isRef (bagD b) && SeqAt.shaped (py0 (iN x)) && SeqAt.shaped (.list ((b.map iN).map py0)))) = true then some ((b.map iN).any fun y => eqD y (iN x)) else none) = _
    rw [fl]
    rfl
  unfold gIn
  rw [e1]
  show Res.ok (D.bl _) h = _
  congr 2
  rw [Bool.eq_iff_iff, List.any_eq_true, decide_eq_true_eq]
  constructor
  · rintro ⟨y, hy, he⟩
    obtain ⟨i, hi, rfl⟩ := List.mem_map.mp hy
    rw [eqD_nat, decide_eq_true_eq] at he
    rw [← he]; exact hi
  · intro hx
    exact ⟨iN x, List.mem_map.mpr ⟨x, hx, rfl⟩, by rw [eqD_nat]; simp⟩
theorem augS_ok {C : CF} {env : Env'} {E : Ek} {c x v i j : Nat} {cs : List Nat} (ho : getV env i = some (.ref c)) (hi : getV env j = some (iN x)) (hc : h[c]? = some (.lst (cs.map iN))) (hx : cs[x]? = some v) :
    Sk (sAugS (eVar i) (eVar j) (gInt2 fun i j => .int (i + j)) (eCon (.int 1)) C env h) E ↔ E.nx env (h.set c (.lst ((cs.set x (v + 1)).map iN))) := by
  have hlt := (List.getElem?_eq_some_iff.mp hx).1
  have e1 : gIxL (.ref c) (iN x) h = .ok (iN v) h := by
    have at1 : atI (cs.map iN) ((x : Nat) : Int) = some (iN v) := by
      unfold atI ixN
      rw [List.length_map, if_pos (by omega), if_pos (by omega)]
      exact get_map hx
    unfold gIxL
    rw [dctD_at hc, show lstD (.ref c) h = some (cs.map iN) from seqD_at hc]
    show opt (atI (cs.map iN) ((x : Nat) : Int)) _ = _
    rw [at1]
  have e2 : setD (.ref c) (iN x) (iN (v + 1)) h = some (h.set c (.lst ((cs.set x (v + 1)).map iN))) := by
    have e3 : ixN (cs.map iN).length ((x : Nat) : Int) = some x := by
      unfold ixN
      rw [List.length_map, if_pos (by omega), if_pos (by omega)]
      simp
    unfold setD
    simp only [refD, Option.bind_some, hc, intD, e3, Option.map_some]
    rw [List.map_set]
  unfold sAugS
  rw [var_ok ho]
  simp only [Res.toS]
  rw [var_ok hi]
  simp only
  rw [e1]
  show Sk (match setD (.ref c) (iN x) (.int ((v : Int) + 1)) h with | some h6 => .nx env h6 | none => .bad) E ↔ _
  rw [show ((v : Int) + 1) = ((v + 1 : Nat) : Int) by omega, e2]
  exact Iff.rfl
theorem set_range {f : Nat → Nat} {x : Nat} : ((List.range n).map f).set x (f x + 1) = (List.range n).map fun y => if y = x then f y + 1 else f y := by
  apply List.ext_getElem?
  intro i
  by_cases e : x = i
  · subst e
    by_cases hl : x < n
    · rw [List.getElem?_set_self (by simpa using hl), List.getElem?_map, List.getElem?_range hl]
      simp
    · rw [List.getElem?_eq_none (by simp; omega), List.getElem?_eq_none (by simp; omega)]
  · rw [List.getElem?_set_ne e, List.getElem?_map, List.getElem?_map]
    by_cases hl : i < n
    · rw [List.getElem?_range hl]
      simp [Ne.symm e]
    · rw [List.getElem?_eq_none (by simp; omega)]
      rfl
theorem r_degrees_of (B : At M "bead_count" c_bead_count) (A : At M "degrees_of" c_degrees_of) (F : Fam n bs rk) : Ok (run M (k + 10) "degrees_of" [famD bs] h) fun v h' => ∃ c, v = .ref c ∧ h'[c]? = some (.lst (((List.range n).map (cntB bs)).map iN)) ∧ h <+: h' := by
  have hn := F.most
  rw [run_at A rfl, Sk.toR]
  simp only [c_degrees_of]
  show Sk (sCons _ _ (Cn M (k + 9)) [some (famD bs), none, none, none] h) _
  have p : h <+: h := List.prefix_refl _
  rw [Sk.cons, Sk.asg]
  have e1 : eBin gMul (eLst (aCons (eCon (.int 0)) aNil)) (eCall "bead_count" 1 (aCons (eVar 0) aNil)) (Cn M (k + 9)) [some (famD bs), none, none, none] h = .ok (.ref (h.length + 1)) (h ++ [.lst [.int 0]] ++ [.lst (((List.range n).map fun _ => 0).map iN)]) := by
    have e2 : eLst (aCons (eCon (.int 0)) aNil) (Cn M (k + 9)) [some (famD bs), none, none, none] h = .ok (.ref h.length) (h ++ [.lst [.int 0]]) := rfl
    rw [bin_ok2 e2 ((call1' (d := famD bs) (h := h ++ [.lst [.int 0]]) rfl).trans (r_bead_count (k := k + 7) B F))]
    have hc : (decide (((n : Nat) : Int) ≤ 100000) && decide (([D.int 0] : List D).length * ((n : Nat) : Int).toNat ≤ 100000) && decide (-(2 ^ 62) ≤ ((n : Nat) : Int))) = true := by
      rw [Bool.and_eq_true, Bool.and_eq_true, decide_eq_true_eq, decide_eq_true_eq, decide_eq_true_eq, Int.toNat_natCast]
      simp
      omega
    have g0 : (h ++ [O.lst [.int 0]])[h.length]? = some (.lst [.int 0]) := new_get
    have rep : ∀ m : Nat, (List.replicate m ([D.int 0] : List D)).flatten = ((List.range m).map fun _ => 0).map iN := fun m => by
      rw [List.map_map, show ((iN ∘ fun _ => 0) : Nat → D) = fun _ => iN 0 from rfl, List.map_const', List.length_range]
      induction m with
      | zero => rfl
      | succ m ih => rw [List.replicate_succ, List.flatten_cons, ih, List.replicate_succ]; rfl
    simp only [gMul, g0]
    rw [if_pos hc, Int.toNat_natCast, rep]
    simp only [mk, List.length_append, List.length_cons, List.length_nil]
  rw [Ok.res e1]
  simp only [Ok.tg, Ok.con, List.set]
  generalize hh2 : h ++ [O.lst [.int 0]] ++ [O.lst (((List.range n).map fun _ => 0).map iN)] = h2
  have p2 : h <+: h2 := by rw [← hh2, List.append_assoc]; exact ⟨_, rfl⟩
  have gc : h2[h.length + 1]? = some (.lst (((List.range n).map fun _ => 0).map iN)) := by rw [← hh2]; simp
  generalize hc1 : h.length + 1 = c at gc
  have hcl : h.length ≤ c := by have := p.length_le; omega
  rw [Sk.cons, Sk.for_]
  rw [Ok.res (val_ok (C := Cn M (k + 9)) (env := [some (famD bs), some (.ref c), none, none]) (i := 0) (d := famD bs) (s := .items (bs.map bagD)) rfl rfl)]
  have keep : ∀ {hh : Hs} {o : O}, h <+: hh → h <+: hh.set c o := fun {hh o} q => by
    obtain ⟨r, rfl⟩ := q
    exact ⟨r.set (c - h.length) o, by rw [List.set_append, if_neg (by omega)]⟩
  refine forS_ok (bs.map bagD) (fun i e h' => ∃ u v f, e = [some (famD bs), some (.ref c), u, v] ∧ h'[c]? = some (.lst (((List.range n).map f).map iN)) ∧ (∀ y, f y = cntB (bs.take i) y) ∧ h <+: h') (fun _ _ _ _ => rfl) (Nat.le_refl _) ⟨none, none, fun _ => 0, rfl, gc, fun y => rfl, p.trans p2⟩ ?_ ?_
  · rintro e h' ⟨u, v, f, rfl, g, hf, pf⟩
    rw [List.length_map, List.take_length] at hf
    dsimp only
    rw [Sk.cons, Sk.ret, Ok.res (var_ok (i := 1) (d := .ref c) rfl)]
    exact ⟨c, rfl, by rw [g, show f = cntB bs from funext hf], pf⟩
  · rintro i d e h' hx ⟨u, v, f, rfl, g, hf, pf⟩
    obtain ⟨b, hb, rfl⟩ := of_get_map hx
    have hm := List.mem_of_getElem? hb
    have nd : b.Nodup := (F.tree.asc b hm).imp fun h => Nat.ne_of_lt h
    simp only [Ok.tg, Ok.con, List.set]
    rw [Sk.cons, Sk.for_]
    rw [Ok.res (val_ok (C := Cn M (k + 9)) (env := [some (famD bs), some (.ref c), some (bagD b), v]) (i := 2) (d := bagD b) (s := .items (b.map iN)) rfl rfl)]
    refine forS_ok (b.map iN) (fun j e h'' => ∃ v f, e = [some (famD bs), some (.ref c), some (bagD b), v] ∧ h''[c]? = some (.lst (((List.range n).map f).map iN)) ∧ (∀ y, f y = cntB (bs.take i) y + if y ∈ b.take j then 1 else 0) ∧ h <+: h'') (fun _ _ _ _ => rfl) (Nat.le_refl _) ⟨v, f, rfl, g, fun y => by simpa using hf y, pf⟩ ?_ ?_
    · rintro e h'' ⟨v, f', rfl, g', hf', pf'⟩
      rw [List.length_map, List.take_length] at hf'
      dsimp only
      rw [Sk.nil]
      refine ⟨some (bagD b), v, f', rfl, g', fun y => ?_, pf'⟩
      rw [List.take_add_one, hb, hf' y]
      exact (cntB_snoc _ _ _).symm
    · rintro j d e h'' hy ⟨v, f', rfl, g', hf', pf'⟩
      obtain ⟨x, hxx, rfl⟩ := of_get_map hy
      have hxn : x < n := F.tree.lt b hm x (List.mem_of_getElem? hxx)
      simp only [Ok.tg, Ok.con, List.set]
      have hget : ((List.range n).map f')[x]? = some (f' x) := by rw [List.getElem?_map, List.getElem?_range hxn]; rfl
      rw [Sk.cons, augS_ok (i := 1) (j := 3) (c := c) (x := x) rfl rfl g' hget]
      dsimp only
      rw [Sk.nil]
      have lc : c < h''.length := (List.getElem?_eq_some_iff.mp g').1
      refine ⟨some (iN x), _, rfl, by rw [set_range]; exact List.getElem?_set_self lc, fun y => ?_, keep pf'⟩
      have tk : b.take (j + 1) = b.take j ++ [x] := by rw [List.take_add_one, hxx]; rfl
      have nx : x ∉ b.take j := fun z => by
        rw [← List.take_append_drop (j + 1) b, tk, List.append_assoc, List.nodup_append] at nd
        exact nd.2.2 x z x (by simp) rfl
      rw [tk]
      by_cases e : y = x
      · subst e
        rw [if_pos rfl, hf' y, if_neg nx, if_pos (by simp)]
      · rw [if_neg e, hf' y]
        congr 1
        by_cases z : y ∈ b.take j
        · rw [if_pos z, if_pos (by simp [z])]
        · rw [if_neg z, if_neg (by simp [z, e])]
theorem r_degrees (B : MK M) (A : At M "degrees" c_degrees) (A2 : At M "degrees_of" c_degrees_of) (F : Fam n bs rk) : Ok (run M (k + 11) "degrees" [famD bs] h) fun v h' => v = .tup (((List.range n).map (cntB bs)).map iN) ∧ h <+: h' := by
  rw [run_at A rfl, Sk.toR]
  simp only [c_degrees]
  show Sk (sCons _ _ (Cn M (k + 10)) [some (famD bs)] h) _
  rw [Sk.cons, Sk.expr]
  refine Ok.eqv (call1' (d := famD bs) (h1 := h) rfl) ((r_check_family B.toMF F).mono ?_)
  rintro v h1 ⟨rfl, p⟩
  dsimp only
  obtain ⟨v, h2, e, c, rfl, g, p2⟩ := (r_degrees_of (k := k) (h := h1) B.bead_count A2 F).eq
  have e3 : eArgs oTuple (aCons (eCall "degrees_of" 1 (aCons (eVar 0) aNil)) aNil) (Cn M (k + 10)) [some (famD bs)] h1 = .ok (.tup (((List.range n).map (cntB bs)).map iN)) h2 := (arg1_ok2 (f := oTuple) ((call1' (d := famD bs) (h1 := h1) rfl).trans e)).trans (oTuple_at g)
  rw [Sk.cons, Sk.ret, Ok.res e3]
  exact ⟨rfl, p.trans p2⟩
end
end PV
end

section
set_option Elab.async false
set_option linter.all false
set_option maxRecDepth 100000
set_option maxHeartbeats 4000000
/-! k00: what the law computes. -/
namespace PV
open PySem PySem.Spec PyProof.Rows L2 GX
section
variable {M : Md} {h h' h1 h2 : Hs} {k n r : Nat} {bs : List (List Nat)} {rk : Nat → Nat} {C : CF} {env : Env'}
theorem tNot_f {a : Ev} (e : a C env h = .ok (.bl true) h1) : tNotV (tVal a) C env h = .ok false h1 := by
  unfold tNotV tVal
  rw [e]
  rfl
theorem tOr_f {a b : Tv} (e : a C env h = .ok false h1) (e2 : b C env h1 = .ok false h2) : tOrV a b C env h = .ok false h2 := by
  unfold tOrV
  rw [e]
  exact e2
theorem isNotT {a : Ev} (e : a C env h = .ok (.bl true) h1) : tBl (eBin gIsNot a (eCon (.bl true))) C env h = .ok false h1 := by
  unfold tBl
  rw [bin_ok2 e (con_ok _)]
  rfl
theorem isNotN {a : Ev} (e : a C env h = .ok .non h1) : tBl (eBin gIsNot a (eCon .non)) C env h = .ok false h1 := by
  unfold tBl
  rw [bin_ok2 e (con_ok _)]
  rfl
theorem dat1 {l : List Nat} (hl : l.length ≤ 1000) : datD 1 (.tup (l.map iN)) := .inr ⟨_, rfl, by rw [List.length_map]; exact hl, fun x hx => by obtain ⟨i, _, rfl⟩ := List.mem_map.mp hx; exact ⟨_, rfl⟩⟩
theorem counts_e (hl : bs.length ≤ 60) (hn : n ≤ 60) (d0 d1 : D) : Ok (eArgs oTuple (aCons (eLC (iRng (rg1 (eVar 3))) (tgName 4) [4] tYesV (eArgs oLen (aCons (eLC (iVal (eVar 2)) (tgName 5) [5] (tBl (eBin gIn (eVar 4) (eVar 5))) (eCon (.int 1))) aNil))) aNil) C [some d0, some d1, some (famD bs), some (iN n), none, none] h) fun v h' => v = .tup (((List.range n).map (cntB bs)).map iN) ∧ h <+: h' := by
  have lc : Ok (eLC (iRng (rg1 (eVar 3))) (tgName 4) [4] tYesV (eArgs oLen (aCons (eLC (iVal (eVar 2)) (tgName 5) [5] (tBl (eBin gIn (eVar 4) (eVar 5))) (eCon (.int 1))) aNil)) C [some d0, some d1, some (famD bs), some (iN n), none, none] h) fun v h' => ∃ q, v = .ref q ∧ h'[q]? = some (.lst (((List.range n).map (cntB bs)).map iN)) ∧ h <+: h' := by
    unfold eLC
    rw [iRng1_ok (var_ok (i := 3) (d := iN n) rfl) (by omega)]
    show Ok ((loopB _ _ _ _ _ _ _ _).bind _) _
    rw [Ok.bind]
    refine (loopB_ok ((List.range n).map iN) (fun i h' acc => h <+: h' ∧ acc = (((List.range n).take i).map (cntB bs)).map iN) (fun _ _ _ _ => rfl) (Nat.le_refl _) ⟨List.prefix_refl _, rfl⟩ ?_).mono ?_
    · rintro i d h' acc hx ⟨p, rfl⟩
      obtain ⟨hi, rfl⟩ := getElem?_range' hx
      rw [Ok.tg]
      have e1 : eLC (iVal (eVar 2)) (tgName 5) [5] (tBl (eBin gIn (eVar 4) (eVar 5))) (eCon (.int 1)) C [some d0, some d1, some (famD bs), some (iN n), some (iN i), none] h' = .ok (.ref h'.length) (h' ++ [.lst ((bs.filter fun b => decide (i ∈ b)).map fun _ => .int 1)]) := by
        have e2 := lc_filter (h := h') (C := C) (t := tgName 5) (e0 := [some d0, some d1, some (famD bs), some (iN n), some (iN i), none]) (tt := tBl (eBin gIn (eVar 4) (eVar 5))) (elt := eCon (.int 1)) bs bagD (fun _ => .int 1) (fun b => decide (i ∈ b)) (by omega) fun b hb => ⟨tBl_bl ((bin_ok (var_ok (i := 4) (d := iN i) rfl) (var_ok (i := 5) (d := bagD b) rfl)).trans (gIn_bag i b)), fun _ => rfl⟩
        unfold eLC
        rw [val_ok (i := 2) (d := famD bs) (s := .items (bs.map bagD)) rfl rfl]
        show ((loopB _ _ _ _ _ _ _ _).bind _) = _
        rw [show Src.size (.items (bs.map bagD)) h' = (bs.map bagD).length from rfl]
        rw [show wipeE [some d0, some d1, some (famD bs), some (iN n), some (iN i), none] [5] = [some d0, some d1, some (famD bs), some (iN n), some (iN i), none] from rfl, e2]
        rfl
      have e3 : eArgs oLen (aCons (eLC (iVal (eVar 2)) (tgName 5) [5] (tBl (eBin gIn (eVar 4) (eVar 5))) (eCon (.int 1))) aNil) C [some d0, some d1, some (famD bs), some (iN n), some (iN i), none] h' = .ok (iN (cntB bs i)) (h' ++ [.lst ((bs.filter fun b => decide (i ∈ b)).map fun _ => .int 1)]) := by
        rw [arg1_ok2 e1, oLen_at new_get, List.length_map]
        rfl
      unfold kOne
      show Ok ((eArgs oLen _ _ _ _).bind _) _
      rw [Ok.bind]
      refine (Ok.res e3).mpr ?_
      rw [Ok.chk]
      refine ⟨by rw [decide_eq_true_eq, List.length_map, List.length_map, List.length_take, List.length_range]; omega, p.trans pre_new, ?_⟩
      rw [List.take_add_one, List.getElem?_range hi, List.map_append, List.map_append]
      rfl
    · rintro acc h' ⟨p, rfl⟩
      refine ⟨h'.length, rfl, ?_, p.trans pre_new⟩
      rw [List.length_map, List.take_length]
      exact new_get
  obtain ⟨v, h1, e1, q, rfl, g1, p1⟩ := lc.eq
  rw [Ok.res ((arg1_ok2 (f := oTuple) e1).trans (oTuple_at g1))]
  exact ⟨rfl, p1⟩
structure MQ (M : Md) : Prop extends MK M, MG M where
  alike : At M "_law_alike" c_law_alike
  size : At M "_law_size" c_law_size
  degrees : At M "degrees" c_degrees
  degrees_of : At M "degrees_of" c_degrees_of
  law : At M "law" c_law_k00
theorem law_k00 (B : MQ M) (ns : List Int) : Ok (run M (k + 13) "law" [.scr ns] []) fun v _ => v = .bl true := by
  rw [run_at B.law rfl, Sk.toR]
  simp only [c_law_k00]
  show Sk (sCons _ _ (Cn M (k + 12)) [some (.scr ns), none, none, none, none, none] []) _
  rw [Sk.cons, Sk.asg, Ok.res (show eLst (aCons (eVar 0) (aCons (eCon (.int 0)) (aCons (eCon (.int 5200)) (aCons (eCon (.int 0)) aNil)))) (Cn M (k + 12)) [some (.scr ns), none, none, none, none, none] [] = .ok (.ref 0) [.lst [.scr ns, .int 0, .int 5200, .int 0]] from rfl)]
  simp only [Ok.tg, Ok.con, List.set]
  generalize hh0 : ([O.lst [.scr ns, .int 0, .int 5200, .int 0]] : Hs) = h0
  have R0 : RowOk h0 0 ns := ⟨0, 5200, 0, by rw [← hh0]; rfl, by omega, by omega⟩
  have l0 : h0.length = 1 := by rw [← hh0]; rfl
  -- the family
  have e1 : eLst (aCons (eCon (.int 6)) (aCons (eCon (.int 20)) (aCons (eCon (.int 60)) aNil))) (Cn M (k + 12)) [some (.scr ns), some (.ref 0), none, none, none, none] h0 = .ok (.ref h0.length) (h0 ++ [.lst [.int 6, .int 20, .int 60]]) := rfl
  obtain ⟨v, h1, e2, hv, R1, b1⟩ := (r_pick (k := k + 10) B.toML (d := .ref h0.length) (xs := [.int 6, .int 20, .int 60]) (h := h0 ++ [.lst [.int 6, .int 20, .int 60]]) (.inr ⟨h0.length, rfl, by omega, new_get⟩) (by simp) (by simp) (R0.keep pre_new)).eq
  obtain ⟨most, rfl, m2, m60⟩ : ∃ o : Nat, v = iN o ∧ 2 ≤ o ∧ o ≤ 60 := by
    simp only [List.mem_cons, List.not_mem_nil, or_false] at hv
    rcases hv with rfl | rfl | rfl
    · exact ⟨6, rfl, by omega, by omega⟩
    · exact ⟨20, rfl, by omega, by omega⟩
    · exact ⟨60, rfl, by omega, by omega⟩
  obtain ⟨v, h2, e3, n, bs, rk, rfl, F, hn, R2, b2⟩ := (r_family (k := k + 8) B.toMG m2 m60 R1).eq
  have e4 : eCall "_law_family" 2 (aCons (eVar 1) (aCons (eCall "_law_pick" 2 (aCons (eVar 1) (aCons (eLst (aCons (eCon (.int 6)) (aCons (eCon (.int 20)) (aCons (eCon (.int 60)) aNil)))) aNil))) aNil)) (Cn M (k + 12)) [some (.scr ns), some (.ref 0), none, none, none, none] h0 = .ok (famD bs) h2 :=
    (call22 (d := .ref 0) (h1 := h0) rfl ((call22 (d := .ref 0) (h1 := h0) rfl e1).trans e2)).trans e3
  rw [Sk.cons, Sk.asg, Ok.res e4]
  simp only [Ok.tg, Ok.con, List.set]
  rw [Sk.cons, Sk.asg]
  refine Ok.eqv (call1' (d := famD bs) (h1 := h2) rfl) ((r_size (k := k + 11) B.size F).mono ?_)
  rintro v h3 ⟨rfl, p3⟩
  simp only [Ok.tg, Ok.con, List.set]
  have n60 := F.most
  have n2 := F.tree.two_le
  have few := F.few
  -- beads, is_family, bar
  obtain ⟨v, h4, e5, rfl, p4⟩ := (r_beads (h := h3) (k := k + 1) B.toMK F).eq
  obtain ⟨v, h5, e6, rfl, p5⟩ := (r_is_family (h := h4) (k := k + 2) B.toMF F).eq
  obtain ⟨v, h6, e7, rfl, p6⟩ := (r_bar (h := h5) (k := k + 2) B.toMK F).eq
  have t1 := tOr_f (tNot_f ((call22 (x := "_law_alike") (a := eCall "beads" 1 (aCons (eVar 2) aNil)) (b := eVar 3) (env := [some (.scr ns), some (.ref 0), some (famD bs), some (iN n), none, none]) ((call1' (x := "beads") (a := eVar 2) (d := famD bs) (h1 := h3) rfl).trans e5) rfl).trans (r_alike_int (k := k + 11) B.alike (n : Int))))
    (tOr_f (isNotT ((call1' (x := "is_family") (a := eVar 2) (d := famD bs) (h1 := h4) rfl).trans e6)) (isNotN ((call1' (x := "bar") (a := eVar 2) (d := famD bs) (h1 := h5) rfl).trans e7)))
  rw [Sk.cons, Sk.if_, Ok.res t1]
  simp only [Bool.false_eq_true, if_false, Sk.nil]
  -- degrees
  obtain ⟨v, h7, e8, rfl, p7⟩ := (r_degrees (h := h6) (k := k + 1) B.toMK B.degrees B.degrees_of F).eq
  obtain ⟨v, h8, e9, rfl, p8⟩ := (counts_e (C := Cn M (k + 12)) (h := h7) (bs := bs) (n := n) few n60 (.scr ns) (.ref 0)).eq
  obtain ⟨v, h9, e10, rfl, p9⟩ := (r_alike (k := k + 10) B.alike 1 (.tup (((List.range n).map (cntB bs)).map iN)) h8 (dat1 (by rw [List.length_map, List.length_range]; omega))).eq
  have t2 := tNot_f ((call22 (x := "_law_alike") (a := eCall "degrees" 1 (aCons (eVar 2) aNil)) (env := [some (.scr ns), some (.ref 0), some (famD bs), some (iN n), none, none]) ((call1' (x := "degrees") (a := eVar 2) (d := famD bs) (h1 := h6) rfl).trans e8) e9).trans e10)
  rw [Sk.cons, Sk.if_, Ok.res t2]
  simp only [Bool.false_eq_true, if_false, Sk.nil]
  -- sizes, rank
  obtain ⟨v, h10, e11, rfl, p10⟩ := (r_sizes (h := h9) (k := k + 1) B.toMK F).eq
  obtain ⟨h11, e12, p11⟩ := sizes_e (C := Cn M (k + 12)) (env := [some (.scr ns), some (.ref 0), some (famD bs), some (iN n), none, none]) (h := h10) (j := 2) (s := 5) few rfl fun d => ⟨rfl, rfl⟩
  obtain ⟨v, h12, e13, rfl, p12⟩ := (r_alike (k := k + 10) B.alike 1 (.tup ((lens bs).map iN)) h11 (dat1 (by rw [(List.mergeSort_perm _ _).length_eq, List.length_map]; omega))).eq
  obtain ⟨v, h13, e14, rfl, p13⟩ := (r_rank (h := h12) (k := k + 1) B.toMK F).eq
  obtain ⟨b0, r0, eb⟩ := F.tree.ne
  have e15 : eBin gSub (eArgs oLen (aCons (eVar 2) aNil)) (eCon (.int 1)) (Cn M (k + 12)) [some (.scr ns), some (.ref 0), some (famD bs), some (iN n), none, none] h13 = .ok (iN (bs.length - 1)) h13 := by
    rw [bin_ok ((arg1_ok (var_ok (i := 2) (d := famD bs) rfl)).trans (oLen_tup _)) (con_ok _), List.length_map]
    exact gSub_len (by rw [eb]; simp)
  have t3 := tOr_f (tNot_f ((call22 (x := "_law_alike") (a := eCall "sizes" 1 (aCons (eVar 2) aNil)) (env := [some (.scr ns), some (.ref 0), some (famD bs), some (iN n), none, none]) ((call1' (x := "sizes") (a := eVar 2) (d := famD bs) (h1 := h9) rfl).trans e11) e12).trans e13))
    (tNot_f ((call22 (x := "_law_alike") (a := eCall "rank" 1 (aCons (eVar 2) aNil)) (env := [some (.scr ns), some (.ref 0), some (famD bs), some (iN n), none, none]) ((call1' (x := "rank") (a := eVar 2) (d := famD bs) (h1 := h12) rfl).trans e14) e15).trans (r_alike_int (k := k + 11) B.alike ((bs.length - 1 : Nat) : Int))))
  rw [Sk.cons, Sk.if_, Ok.res t3]
  simp only [Bool.false_eq_true, if_false, Sk.nil]
  -- one bag
  obtain ⟨v, h14, e16, rfl, p14⟩ := (r_alike (k := k + 9) B.alike 2 (.tup [.tup ((List.range n).map iN)]) h13 (.inr ⟨_, rfl, by simp, fun x hx => by rw [List.mem_singleton.mp hx]; exact dat1 (by rw [List.length_range]; omega)⟩)).eq
  have e17 := (call22 (x := "_law_alike") (a := eCall "one_bag" 1 (aCons (eVar 3) aNil)) (env := [some (.scr ns), some (.ref 0), some (famD bs), some (iN n), none, none]) ((call1' (x := "one_bag") (a := eVar 3) (d := iN n) (h1 := h13) rfl).trans (r_one_bag (h := h13) (k := k + 8) B.toMK n2 n60)) (eTup1 (tupR0_ok (rg1_ok (var_ok (i := 3) (d := iN n) rfl)) (by omega)))).trans e16
  rw [Sk.cons, Sk.ret, Ok.res e17]
end
theorem mq_k00 : MQ md_k00 := by
  repeat' first
    | (unfold At; kernel_rfl)
    | constructor
theorem holds_k00 (ns : List Int) (hl : ns.length ≤ 63) (hb : ∀ z ∈ ns, Builtin.Int.intBits z ≤ 1048576) : ∃ h', run md_k00 60 "law" [.scr ns] [] = .ok (.bl true) h' := by
  obtain ⟨v, h', e, rfl⟩ := (law_k00 (k := 47) mq_k00 ns).eq
  exact ⟨h', e⟩
end PV
end

section
set_option Elab.async false
set_option linter.all false
set_option maxRecDepth 100000
set_option maxHeartbeats 4000000
namespace K00
open PySem PySem.Spec PyProof.Rows L2
def r_mask_of : PV.Df := ⟨"mask_of", (dd "mask_of" p_mask_of).params, (dd "mask_of" p_mask_of).body, (dd "mask_of" p_mask_of).scope, ["bag", "bead"], ["bag"], true⟩
def r_masks_of : PV.Df := ⟨"masks_of", (dd "masks_of" p_masks_of).params, (dd "masks_of" p_masks_of).body, (dd "masks_of" p_masks_of).scope, ["bags", "bag"], ["bags"], false⟩
def r_holds_two : PV.Df := ⟨"holds_two", (dd "holds_two" p_holds_two).params, (dd "holds_two" p_holds_two).body, (dd "holds_two" p_holds_two).scope, ["mask"], ["mask"], false⟩
def r_missing_bead : PV.Df := ⟨"missing_bead", (dd "missing_bead" p_missing_bead).params, (dd "missing_bead" p_missing_bead).body, (dd "missing_bead" p_missing_bead).scope, ["masks", "held", "mask", "bead"], ["masks"], false⟩
def r_first_double : PV.Df := ⟨"first_double", (dd "first_double" p_first_double).params, (dd "first_double" p_first_double).body, (dd "first_double" p_first_double).scope, ["masks", "j", "i"], ["masks"], false⟩
def r_hanging_with_first : PV.Df := ⟨"hanging_with_first", (dd "hanging_with_first" p_hanging_with_first).params, (dd "hanging_with_first" p_hanging_with_first).body, (dd "hanging_with_first" p_hanging_with_first).scope, ["masks", "joined", "grown", "mask", "k"], ["masks"], true⟩
def r_twice_held : PV.Df := ⟨"twice_held", (dd "twice_held" p_twice_held).params, (dd "twice_held" p_twice_held).body, (dd "twice_held" p_twice_held).scope, ["masks", "once", "twice", "mask"], ["masks"], false⟩
def r_left_in_rings : PV.Df := ⟨"left_in_rings", (dd "left_in_rings" p_left_in_rings).params, (dd "left_in_rings" p_left_in_rings).body, (dd "left_in_rings" p_left_in_rings).scope, ["masks", "left", "kept", "shared", "k"], ["masks"], false⟩
def r_first_bar : PV.Df := ⟨"first_bar", (dd "first_bar" p_first_bar).params, (dd "first_bar" p_first_bar).body, (dd "first_bar" p_first_bar).scope, ["bags", "masks", "missing", "double", "joined", "ring"], ["bags"], false⟩
def r_bead_count : PV.Df := ⟨"bead_count", (dd "bead_count" p_bead_count).params, (dd "bead_count" p_bead_count).body, (dd "bead_count" p_bead_count).scope, ["family", "bag"], ["family"], true⟩
def r_degrees_of : PV.Df := ⟨"degrees_of", (dd "degrees_of" p_degrees_of).params, (dd "degrees_of" p_degrees_of).body, (dd "degrees_of" p_degrees_of).scope, ["family", "counts", "bag", "bead"], ["family"], false⟩
def r_is_integer : PV.Df := ⟨"is_integer", (dd "is_integer" p_is_integer).params, (dd "is_integer" p_is_integer).body, (dd "is_integer" p_is_integer).scope, ["value"], ["value"], false⟩
def r_is_between : PV.Df := ⟨"is_between", (dd "is_between" p_is_between).params, (dd "is_between" p_is_between).body, (dd "is_between" p_is_between).scope, ["value", "least", "most"], ["value", "least", "most"], false⟩
def r_is_ascending : PV.Df := ⟨"is_ascending", (dd "is_ascending" p_is_ascending).params, (dd "is_ascending" p_is_ascending).body, (dd "is_ascending" p_is_ascending).scope, ["items", "k"], ["items"], true⟩
def r_are_integers : PV.Df := ⟨"are_integers", (dd "are_integers" p_are_integers).params, (dd "are_integers" p_are_integers).body, (dd "are_integers" p_are_integers).scope, ["value", "least", "most", "number"], ["value", "least", "most"], true⟩
def r_is_bead_tuple : PV.Df := ⟨"is_bead_tuple", (dd "is_bead_tuple" p_is_bead_tuple).params, (dd "is_bead_tuple" p_is_bead_tuple).body, (dd "is_bead_tuple" p_is_bead_tuple).scope, ["value"], ["value"], false⟩
def r_is_bag : PV.Df := ⟨"is_bag", (dd "is_bag" p_is_bag).params, (dd "is_bag" p_is_bag).body, (dd "is_bag" p_is_bag).scope, ["value"], ["value"], false⟩
def r_are_bags : PV.Df := ⟨"are_bags", (dd "are_bags" p_are_bags).params, (dd "are_bags" p_are_bags).body, (dd "are_bags" p_are_bags).scope, ["value", "bag"], ["value"], true⟩
def r_makes_family : PV.Df := ⟨"makes_family", (dd "makes_family" p_makes_family).params, (dd "makes_family" p_makes_family).body, (dd "makes_family" p_makes_family).scope, ["value"], ["value"], false⟩
def r_check_bags : PV.Df := ⟨"check_bags", (dd "check_bags" p_check_bags).params, (dd "check_bags" p_check_bags).body, (dd "check_bags" p_check_bags).scope, ["value"], ["value"], false⟩
def r_check_family : PV.Df := ⟨"check_family", (dd "check_family" p_check_family).params, (dd "check_family" p_check_family).body, (dd "check_family" p_check_family).scope, ["value"], ["value"], false⟩
def r_check_number : PV.Df := ⟨"check_number", (dd "check_number" p_check_number).params, (dd "check_number" p_check_number).body, (dd "check_number" p_check_number).scope, ["value", "least", "most"], ["value", "least", "most"], false⟩
def r_is_family : PV.Df := ⟨"is_family", (dd "is_family" p_is_family).params, (dd "is_family" p_is_family).body, (dd "is_family" p_is_family).scope, ["value"], ["value"], false⟩
def r_bar : PV.Df := ⟨"bar", (dd "bar" p_bar).params, (dd "bar" p_bar).body, (dd "bar" p_bar).scope, ["value"], ["value"], false⟩
def r_beads : PV.Df := ⟨"beads", (dd "beads" p_beads).params, (dd "beads" p_beads).body, (dd "beads" p_beads).scope, ["family"], ["family"], false⟩
def r_degrees : PV.Df := ⟨"degrees", (dd "degrees" p_degrees).params, (dd "degrees" p_degrees).body, (dd "degrees" p_degrees).scope, ["family"], ["family"], false⟩
def r_sizes : PV.Df := ⟨"sizes", (dd "sizes" p_sizes).params, (dd "sizes" p_sizes).body, (dd "sizes" p_sizes).scope, ["family", "bag"], ["family"], false⟩
def r_one_bag : PV.Df := ⟨"one_bag", (dd "one_bag" p_one_bag).params, (dd "one_bag" p_one_bag).body, (dd "one_bag" p_one_bag).scope, ["size"], ["size"], false⟩
def r_rank : PV.Df := ⟨"rank", (dd "rank" p_rank).params, (dd "rank" p_rank).body, (dd "rank" p_rank).scope, ["family"], ["family"], false⟩
def r_law_taken : PV.Df := ⟨"_law_taken", (dd "_law_taken" p_law_taken).params, (dd "_law_taken" p_law_taken).body, (dd "_law_taken" p_law_taken).scope, ["row", "many", "cell", "found"], ["row", "many"], false⟩
def r_law_pick : PV.Df := ⟨"_law_pick", (dd "_law_pick" p_law_pick).params, (dd "_law_pick" p_law_pick).body, (dd "_law_pick" p_law_pick).scope, ["row", "things"], ["row", "things"], false⟩
def r_law_alike : PV.Df := ⟨"_law_alike", (dd "_law_alike" p_law_alike).params, (dd "_law_alike" p_law_alike).body, (dd "_law_alike" p_law_alike).scope, ["found", "due", "k"], ["found", "due"], false⟩
def r_law_mixed : PV.Df := ⟨"_law_mixed", (dd "_law_mixed" p_law_mixed).params, (dd "_law_mixed" p_law_mixed).body, (dd "_law_mixed" p_law_mixed).scope, ["row", "some", "turn", "left", "found"], ["row", "some"], false⟩
def r_law_named : PV.Df := ⟨"_law_named", (dd "_law_named" p_law_named).params, (dd "_law_named" p_law_named).body, (dd "_law_named" p_law_named).scope, ["bags", "names", "bag", "bead"], ["bags", "names"], false⟩
def r_law_family : PV.Df := ⟨"_law_family", (dd "_law_family" p_law_family).params, (dd "_law_family" p_law_family).body, (dd "_law_family" p_law_family).scope, ["row", "most", "bags", "bead", "size", "often"], ["row", "most"], false⟩
def r_law_size : PV.Df := ⟨"_law_size", (dd "_law_size" p_law_size).params, (dd "_law_size" p_law_size).body, (dd "_law_size" p_law_size).scope, ["family", "bag"], ["family"], false⟩
def r_law : PV.Df := ⟨"law", (dd "law" p_law).params, (dd "law" p_law).body, (dd "law" p_law).scope, ["script", "row", "family", "size", "bead", "bag"], ["script"], false⟩
def rows : List PV.Df := [r_mask_of, r_masks_of, r_holds_two, r_missing_bead, r_first_double, r_hanging_with_first, r_twice_held, r_left_in_rings, r_first_bar, r_bead_count, r_degrees_of, r_is_integer, r_is_between, r_is_ascending, r_are_integers, r_is_bead_tuple, r_is_bag, r_are_bags, r_makes_family, r_check_bags, r_check_family, r_check_number, r_is_family, r_bar, r_beads, r_degrees, r_sizes, r_one_bag, r_rank, r_law_taken, r_law_pick, r_law_alike, r_law_mixed, r_law_named, r_law_family, r_law_size, r_law]
def ks : List (Str × Int) := [("MOST_BEADS", 60)]
def ex : PV.Ex := ⟨[], [], [], []⟩
def md : PV.Md := PV.mdOf 40 rows ks ex
end K00
end

section
set_option Elab.async false
set_option linter.all false
set_option maxRecDepth 100000
set_option maxHeartbeats 4000000
namespace K00
open PySem PySem.Spec PyProof.Rows L2
theorem d_mask_of : PV.cdOf 40 rows ks ex r_mask_of = PV.c_mask_of := by kernel_rfl
theorem d_masks_of : PV.cdOf 40 rows ks ex r_masks_of = PV.c_masks_of := by kernel_rfl
theorem d_holds_two : PV.cdOf 40 rows ks ex r_holds_two = PV.c_holds_two := by kernel_rfl
theorem d_missing_bead : PV.cdOf 40 rows ks ex r_missing_bead = PV.c_missing_bead := by kernel_rfl
theorem d_first_double : PV.cdOf 40 rows ks ex r_first_double = PV.c_first_double := by kernel_rfl
theorem d_hanging_with_first : PV.cdOf 40 rows ks ex r_hanging_with_first = PV.c_hanging_with_first := by kernel_rfl
theorem d_twice_held : PV.cdOf 40 rows ks ex r_twice_held = PV.c_twice_held := by kernel_rfl
theorem d_left_in_rings : PV.cdOf 40 rows ks ex r_left_in_rings = PV.c_left_in_rings := by kernel_rfl
theorem d_first_bar : PV.cdOf 40 rows ks ex r_first_bar = PV.c_first_bar := by kernel_rfl
theorem d_bead_count : PV.cdOf 40 rows ks ex r_bead_count = PV.c_bead_count := by kernel_rfl
theorem d_degrees_of : PV.cdOf 40 rows ks ex r_degrees_of = PV.c_degrees_of := by kernel_rfl
theorem d_is_integer : PV.cdOf 40 rows ks ex r_is_integer = PV.c_is_integer := by kernel_rfl
theorem d_is_between : PV.cdOf 40 rows ks ex r_is_between = PV.c_is_between := by kernel_rfl
theorem d_is_ascending : PV.cdOf 40 rows ks ex r_is_ascending = PV.c_is_ascending := by kernel_rfl
theorem d_are_integers : PV.cdOf 40 rows ks ex r_are_integers = PV.c_are_integers := by kernel_rfl
theorem d_is_bead_tuple : PV.cdOf 40 rows ks ex r_is_bead_tuple = PV.c_is_bead_tuple := by kernel_rfl
theorem d_is_bag : PV.cdOf 40 rows ks ex r_is_bag = PV.c_is_bag := by kernel_rfl
theorem d_are_bags : PV.cdOf 40 rows ks ex r_are_bags = PV.c_are_bags := by kernel_rfl
theorem d_makes_family : PV.cdOf 40 rows ks ex r_makes_family = PV.c_makes_family := by kernel_rfl
theorem d_check_bags : PV.cdOf 40 rows ks ex r_check_bags = PV.c_check_bags := by kernel_rfl
theorem d_check_family : PV.cdOf 40 rows ks ex r_check_family = PV.c_check_family := by kernel_rfl
theorem d_check_number : PV.cdOf 40 rows ks ex r_check_number = PV.c_check_number := by kernel_rfl
theorem d_is_family : PV.cdOf 40 rows ks ex r_is_family = PV.c_is_family := by kernel_rfl
theorem d_bar : PV.cdOf 40 rows ks ex r_bar = PV.c_bar := by kernel_rfl
theorem d_beads : PV.cdOf 40 rows ks ex r_beads = PV.c_beads := by kernel_rfl
theorem d_degrees : PV.cdOf 40 rows ks ex r_degrees = PV.c_degrees := by kernel_rfl
theorem d_sizes : PV.cdOf 40 rows ks ex r_sizes = PV.c_sizes := by kernel_rfl
theorem d_one_bag : PV.cdOf 40 rows ks ex r_one_bag = PV.c_one_bag := by kernel_rfl
theorem d_rank : PV.cdOf 40 rows ks ex r_rank = PV.c_rank := by kernel_rfl
theorem d_law_taken : PV.cdOf 40 rows ks ex r_law_taken = PV.c_law_taken := by kernel_rfl
theorem d_law_pick : PV.cdOf 40 rows ks ex r_law_pick = PV.c_law_pick := by kernel_rfl
theorem d_law_alike : PV.cdOf 40 rows ks ex r_law_alike = PV.c_law_alike := by kernel_rfl
theorem d_law_mixed : PV.cdOf 40 rows ks ex r_law_mixed = PV.c_law_mixed := by kernel_rfl
theorem d_law_named : PV.cdOf 40 rows ks ex r_law_named = PV.c_law_named := by kernel_rfl
theorem d_law_family : PV.cdOf 40 rows ks ex r_law_family = PV.c_law_family := by kernel_rfl
theorem d_law_size : PV.cdOf 40 rows ks ex r_law_size = PV.c_law_size := by kernel_rfl
theorem d_law : PV.cdOf 40 rows ks ex r_law = PV.c_law_k00 := by kernel_rfl
theorem md_eq : PV.mdOf 40 rows ks ex = PV.md_k00 := by
  show [(("mask_of" : Str), PV.cdOf 40 rows ks ex r_mask_of), (("masks_of" : Str), PV.cdOf 40 rows ks ex r_masks_of), (("holds_two" : Str), PV.cdOf 40 rows ks ex r_holds_two), (("missing_bead" : Str), PV.cdOf 40 rows ks ex r_missing_bead), (("first_double" : Str), PV.cdOf 40 rows ks ex r_first_double), (("hanging_with_first" : Str), PV.cdOf 40 rows ks ex r_hanging_with_first), (("twice_held" : Str), PV.cdOf 40 rows ks ex r_twice_held), (("left_in_rings" : Str), PV.cdOf 40 rows ks ex r_left_in_rings), (("first_bar" : Str), PV.cdOf 40 rows ks ex r_first_bar), (("bead_count" : Str), PV.cdOf 40 rows ks ex r_bead_count), (("degrees_of" : Str), PV.cdOf 40 rows ks ex r_degrees_of), (("is_integer" : Str), PV.cdOf 40 rows ks ex r_is_integer), (("is_between" : Str), PV.cdOf 40 rows ks ex r_is_between), (("is_ascending" : Str), PV.cdOf 40 rows ks ex r_is_ascending), (("are_integers" : Str), PV.cdOf 40 rows ks ex r_are_integers), (("is_bead_tuple" : Str), PV.cdOf 40 rows ks ex r_is_bead_tuple), (("is_bag" : Str), PV.cdOf 40 rows ks ex r_is_bag), (("are_bags" : Str), PV.cdOf 40 rows ks ex r_are_bags), (("makes_family" : Str), PV.cdOf 40 rows ks ex r_makes_family), (("check_bags" : Str), PV.cdOf 40 rows ks ex r_check_bags), (("check_family" : Str), PV.cdOf 40 rows ks ex r_check_family), (("check_number" : Str), PV.cdOf 40 rows ks ex r_check_number), (("is_family" : Str), PV.cdOf 40 rows ks ex r_is_family), (("bar" : Str), PV.cdOf 40 rows ks ex r_bar), (("beads" : Str), PV.cdOf 40 rows ks ex r_beads), (("degrees" : Str), PV.cdOf 40 rows ks ex r_degrees), (("sizes" : Str), PV.cdOf 40 rows ks ex r_sizes), (("one_bag" : Str), PV.cdOf 40 rows ks ex r_one_bag), (("rank" : Str), PV.cdOf 40 rows ks ex r_rank), (("_law_taken" : Str), PV.cdOf 40 rows ks ex r_law_taken), (("_law_pick" : Str), PV.cdOf 40 rows ks ex r_law_pick), (("_law_alike" : Str), PV.cdOf 40 rows ks ex r_law_alike), (("_law_mixed" : Str), PV.cdOf 40 rows ks ex r_law_mixed), (("_law_named" : Str), PV.cdOf 40 rows ks ex r_law_named), (("_law_family" : Str), PV.cdOf 40 rows ks ex r_law_family), (("_law_size" : Str), PV.cdOf 40 rows ks ex r_law_size), (("law" : Str), PV.cdOf 40 rows ks ex r_law)] = _
  rw [d_mask_of, d_masks_of, d_holds_two, d_missing_bead, d_first_double, d_hanging_with_first, d_twice_held, d_left_in_rings, d_first_bar, d_bead_count, d_degrees_of, d_is_integer, d_is_between, d_is_ascending, d_are_integers, d_is_bead_tuple, d_is_bag, d_are_bags, d_makes_family, d_check_bags, d_check_family, d_check_number, d_is_family, d_bar, d_beads, d_degrees, d_sizes, d_one_bag, d_rank, d_law_taken, d_law_pick, d_law_alike, d_law_mixed, d_law_named, d_law_family, d_law_size, d_law]
  rfl
end K00
end

set_option Elab.async false
set_option linter.all false
set_option maxRecDepth 100000
set_option maxHeartbeats 4000000
namespace K00
open PySem PySem.Spec PyProof.Rows L2 GX GxR C8
open _root_.PG
structure Txt (K : PySem.W.Frag) (mg : Str → Option Value) (base : Heap) : Prop where
  kin : K.In base
  ns : base.Ns mainGlobals mg
  defs : ∀ (i : Nat) (d : He.DefD), fn[i]? = some d → ∃ fd, FunD K d.name d.qual d.params d.body d.scope (d.dvs K) (d.kws K) (He.fAd K d.at_) fd
  facts : ∀ f ∈ fa, f.ok K = true
  tab : ∀ p ∈ tf, TabB base mg (He.cT K p).1 (He.cT K p).2
  ltb : ∀ p ∈ tf, LamX.TabB base mg (He.cT K p).1 (He.cT K p).2
def tg : List He.Defn := [("mask_of", none), ("hanging_with_first", none), ("bead_count", none), ("is_ascending", none), ("are_integers", none), ("are_bags", none)]
def tl : List He.Defn := []
abbrev tabs (K : PySem.W.Frag) : List Addr := tg.map fun p => (He.cT K p).2
abbrev lts (K : PySem.W.Frag) : List (Addr × Str) := tl.map fun p => ((He.cT K p).2, PV.lamQ p.1)
theorem tg_sub : ∀ p ∈ tg, p ∈ tf := by decide +kernel
theorem tl_sub : ∀ p ∈ tl, p ∈ tf := by decide +kernel
theorem tgl : ∀ p ∈ tl, p ∉ tg := by decide +kernel
theorem inj_of {α β : Type} {f : α → β} : ∀ {l : List α}, (l.map f).Nodup → ∀ {a b : α}, a ∈ l → b ∈ l → f a = f b → a = b
  | [], _, _, _, h, _, _ => nomatch h
  | x :: l, h, a, b, ha, hb, e => by
    rw [List.map_cons, List.nodup_cons] at h
    rcases List.mem_cons.mp ha with ea | ha <;> rcases List.mem_cons.mp hb with eb | hb
    · rw [ea, eb]
    · exact absurd (List.mem_map.mpr ⟨b, hb, by rw [← e, ea]⟩) h.1
    · exact absurd (List.mem_map.mpr ⟨a, ha, by rw [e, eb]⟩) h.1
    · exact inj_of h.2 ha hb e
theorem nd_inj {K : PySem.W.Frag} (h : exK K = true) : ∀ p ∈ tf, ∀ p' ∈ tf, (He.cT K p).2 = (He.cT K p').2 → p = p' := by
  have h : (tf.map fun p => (He.cT K p).2).Nodup := of_decide_eq_true h
  intro p hp p' hp' e
  exact inj_of h hp hp' e
theorem hsep {K : PySem.W.Frag} (h : exK K = true) : (∀ p ∈ lts K, p.1 ∉ tabs K) ∧ ∀ p ∈ lts K, ∀ p' ∈ lts K, p.1 = p'.1 → p' = p := by
  constructor
  · intro p hp hm
    obtain ⟨a, ha, rfl⟩ := List.mem_map.mp hp
    obtain ⟨b, hb, e⟩ := List.mem_map.mp hm
    have := nd_inj h b (tg_sub b hb) a (tl_sub a ha) e
    subst this
    exact tgl _ ha hb
  · intro p hp p' hp' e
    obtain ⟨a, ha, rfl⟩ := List.mem_map.mp hp
    obtain ⟨b, hb, rfl⟩ := List.mem_map.mp hp'
    have := nd_inj h a (tl_sub a ha) b (tl_sub b hb) e
    subst this
    rfl
section
variable {P : Program} {w : World} {K : PySem.W.Frag} {mg : Str → Option Value} {base : Heap}
theorem Txt.g (T : Txt K mg base) {x : Str} (h : (fn.map (·.name)).contains x = true := by decide +kernel) : mg x = some (.ref (He.ga K x)) := He.glo_ok T.kin T.ns (T.facts _ (by
  obtain ⟨d, hd, e⟩ := List.mem_map.mp (List.contains_iff_mem.mp h)
  exact List.mem_append_left _ (List.mem_map.mpr ⟨d, hd, by rw [e]⟩)))
theorem Txt.inF {f : He.Fa} (i : Nat) (h : fi[i]? = some f) : f ∈ fa := List.mem_append_right _ (List.mem_append_right _ (List.mem_of_getElem? h))
theorem Txt.n (T : Txt K mg base) {x : Str} (h : fr.contains x = true) : mg x = none := He.free_ok T.kin T.ns (T.facts _ (List.mem_append_right _ (List.mem_append_left _ (List.mem_map.mpr ⟨x, List.contains_iff_mem.mp h, rfl⟩))))
abbrev gOf (P : Program) (w : World) (K : PySem.W.Frag) (mg : Str → Option Value) (base : Heap) (a : Addr) (ns : List Int) : PV.G := ⟨P, w, K, mg, base, tabs K, a, ns, lts K⟩
variable {a : Addr} {ns : List Int}
theorem o_mask_of (T : Txt K mg base) : PV.DfOk (gOf P w K mg base a ns) ex r_mask_of := ⟨T.defs f_mask_of _ rfl, T.g, fnScope_by (by decide +kernel), (fun _ _ _ _ _ _ us hl => match us, hl with | [_], _ => rfl), fun _ => ⟨_, T.tab ("mask_of", none) (by decide +kernel), List.mem_map.mpr ⟨("mask_of", none), by decide +kernel, rfl⟩⟩, (fun z => absurd z (by decide +kernel))⟩
theorem o_masks_of (T : Txt K mg base) : PV.DfOk (gOf P w K mg base a ns) ex r_masks_of := ⟨T.defs f_masks_of _ rfl, T.g, fnScope_by (by decide +kernel), (fun _ _ _ _ _ _ us hl => match us, hl with | [_], _ => rfl), (fun z => by cases z), (fun z => absurd z (by decide +kernel))⟩
theorem o_holds_two (T : Txt K mg base) : PV.DfOk (gOf P w K mg base a ns) ex r_holds_two := ⟨T.defs f_holds_two _ rfl, T.g, fnScope_by (by decide +kernel), (fun _ _ _ _ _ _ us hl => match us, hl with | [_], _ => rfl), (fun z => by cases z), (fun z => absurd z (by decide +kernel))⟩
theorem o_missing_bead (T : Txt K mg base) : PV.DfOk (gOf P w K mg base a ns) ex r_missing_bead := ⟨T.defs f_missing_bead _ rfl, T.g, fnScope_by (by decide +kernel), (fun _ _ _ _ _ _ us hl => match us, hl with | [_], _ => rfl), (fun z => by cases z), (fun z => absurd z (by decide +kernel))⟩
theorem o_first_double (T : Txt K mg base) : PV.DfOk (gOf P w K mg base a ns) ex r_first_double := ⟨T.defs f_first_double _ rfl, T.g, fnScope_by (by decide +kernel), (fun _ _ _ _ _ _ us hl => match us, hl with | [_], _ => rfl), (fun z => by cases z), (fun z => absurd z (by decide +kernel))⟩
theorem o_hanging_with_first (T : Txt K mg base) : PV.DfOk (gOf P w K mg base a ns) ex r_hanging_with_first := ⟨T.defs f_hanging_with_first _ rfl, T.g, fnScope_by (by decide +kernel), (fun _ _ _ _ _ _ us hl => match us, hl with | [_], _ => rfl), fun _ => ⟨_, T.tab ("hanging_with_first", none) (by decide +kernel), List.mem_map.mpr ⟨("hanging_with_first", none), by decide +kernel, rfl⟩⟩, (fun z => absurd z (by decide +kernel))⟩
theorem o_twice_held (T : Txt K mg base) : PV.DfOk (gOf P w K mg base a ns) ex r_twice_held := ⟨T.defs f_twice_held _ rfl, T.g, fnScope_by (by decide +kernel), (fun _ _ _ _ _ _ us hl => match us, hl with | [_], _ => rfl), (fun z => by cases z), (fun z => absurd z (by decide +kernel))⟩
theorem o_left_in_rings (T : Txt K mg base) : PV.DfOk (gOf P w K mg base a ns) ex r_left_in_rings := ⟨T.defs f_left_in_rings _ rfl, T.g, fnScope_by (by decide +kernel), (fun _ _ _ _ _ _ us hl => match us, hl with | [_], _ => rfl), (fun z => by cases z), (fun z => absurd z (by decide +kernel))⟩
theorem o_first_bar (T : Txt K mg base) : PV.DfOk (gOf P w K mg base a ns) ex r_first_bar := ⟨T.defs f_first_bar _ rfl, T.g, fnScope_by (by decide +kernel), (fun _ _ _ _ _ _ us hl => match us, hl with | [_], _ => rfl), (fun z => by cases z), (fun z => absurd z (by decide +kernel))⟩
theorem o_bead_count (T : Txt K mg base) : PV.DfOk (gOf P w K mg base a ns) ex r_bead_count := ⟨T.defs f_bead_count _ rfl, T.g, fnScope_by (by decide +kernel), (fun _ _ _ _ _ _ us hl => match us, hl with | [_], _ => rfl), fun _ => ⟨_, T.tab ("bead_count", none) (by decide +kernel), List.mem_map.mpr ⟨("bead_count", none), by decide +kernel, rfl⟩⟩, (fun z => absurd z (by decide +kernel))⟩
theorem o_degrees_of (T : Txt K mg base) : PV.DfOk (gOf P w K mg base a ns) ex r_degrees_of := ⟨T.defs f_degrees_of _ rfl, T.g, fnScope_by (by decide +kernel), (fun _ _ _ _ _ _ us hl => match us, hl with | [_], _ => rfl), (fun z => by cases z), (fun z => absurd z (by decide +kernel))⟩
theorem o_is_integer (T : Txt K mg base) : PV.DfOk (gOf P w K mg base a ns) ex r_is_integer := ⟨T.defs f_is_integer _ rfl, T.g, fnScope_by (by decide +kernel), (fun _ _ _ _ _ _ us hl => match us, hl with | [_], _ => rfl), (fun z => by cases z), (fun z => absurd z (by decide +kernel))⟩
theorem o_is_between (T : Txt K mg base) : PV.DfOk (gOf P w K mg base a ns) ex r_is_between := ⟨T.defs f_is_between _ rfl, T.g, fnScope_by (by decide +kernel), (fun _ _ _ _ _ _ us hl => match us, hl with | [_, _, _], _ => rfl), (fun z => by cases z), (fun z => absurd z (by decide +kernel))⟩
theorem o_is_ascending (T : Txt K mg base) : PV.DfOk (gOf P w K mg base a ns) ex r_is_ascending := ⟨T.defs f_is_ascending _ rfl, T.g, fnScope_by (by decide +kernel), (fun _ _ _ _ _ _ us hl => match us, hl with | [_], _ => rfl), fun _ => ⟨_, T.tab ("is_ascending", none) (by decide +kernel), List.mem_map.mpr ⟨("is_ascending", none), by decide +kernel, rfl⟩⟩, (fun z => absurd z (by decide +kernel))⟩
theorem o_are_integers (T : Txt K mg base) : PV.DfOk (gOf P w K mg base a ns) ex r_are_integers := ⟨T.defs f_are_integers _ rfl, T.g, fnScope_by (by decide +kernel), (fun _ _ _ _ _ _ us hl => match us, hl with | [_, _, _], _ => rfl), fun _ => ⟨_, T.tab ("are_integers", none) (by decide +kernel), List.mem_map.mpr ⟨("are_integers", none), by decide +kernel, rfl⟩⟩, (fun z => absurd z (by decide +kernel))⟩
theorem o_is_bead_tuple (T : Txt K mg base) : PV.DfOk (gOf P w K mg base a ns) ex r_is_bead_tuple := ⟨T.defs f_is_bead_tuple _ rfl, T.g, fnScope_by (by decide +kernel), (fun _ _ _ _ _ _ us hl => match us, hl with | [_], _ => rfl), (fun z => by cases z), (fun z => absurd z (by decide +kernel))⟩
theorem o_is_bag (T : Txt K mg base) : PV.DfOk (gOf P w K mg base a ns) ex r_is_bag := ⟨T.defs f_is_bag _ rfl, T.g, fnScope_by (by decide +kernel), (fun _ _ _ _ _ _ us hl => match us, hl with | [_], _ => rfl), (fun z => by cases z), (fun z => absurd z (by decide +kernel))⟩
theorem o_are_bags (T : Txt K mg base) : PV.DfOk (gOf P w K mg base a ns) ex r_are_bags := ⟨T.defs f_are_bags _ rfl, T.g, fnScope_by (by decide +kernel), (fun _ _ _ _ _ _ us hl => match us, hl with | [_], _ => rfl), fun _ => ⟨_, T.tab ("are_bags", none) (by decide +kernel), List.mem_map.mpr ⟨("are_bags", none), by decide +kernel, rfl⟩⟩, (fun z => absurd z (by decide +kernel))⟩
theorem o_makes_family (T : Txt K mg base) : PV.DfOk (gOf P w K mg base a ns) ex r_makes_family := ⟨T.defs f_makes_family _ rfl, T.g, fnScope_by (by decide +kernel), (fun _ _ _ _ _ _ us hl => match us, hl with | [_], _ => rfl), (fun z => by cases z), (fun z => absurd z (by decide +kernel))⟩
theorem o_check_bags (T : Txt K mg base) : PV.DfOk (gOf P w K mg base a ns) ex r_check_bags := ⟨T.defs f_check_bags _ rfl, T.g, fnScope_by (by decide +kernel), (fun _ _ _ _ _ _ us hl => match us, hl with | [_], _ => rfl), (fun z => by cases z), (fun z => absurd z (by decide +kernel))⟩
theorem o_check_family (T : Txt K mg base) : PV.DfOk (gOf P w K mg base a ns) ex r_check_family := ⟨T.defs f_check_family _ rfl, T.g, fnScope_by (by decide +kernel), (fun _ _ _ _ _ _ us hl => match us, hl with | [_], _ => rfl), (fun z => by cases z), (fun z => absurd z (by decide +kernel))⟩
theorem o_check_number (T : Txt K mg base) : PV.DfOk (gOf P w K mg base a ns) ex r_check_number := ⟨T.defs f_check_number _ rfl, T.g, fnScope_by (by decide +kernel), (fun _ _ _ _ _ _ us hl => match us, hl with | [_, _, _], _ => rfl), (fun z => by cases z), (fun z => absurd z (by decide +kernel))⟩
theorem o_is_family (T : Txt K mg base) : PV.DfOk (gOf P w K mg base a ns) ex r_is_family := ⟨T.defs f_is_family _ rfl, T.g, fnScope_by (by decide +kernel), (fun _ _ _ _ _ _ us hl => match us, hl with | [_], _ => rfl), (fun z => by cases z), (fun z => absurd z (by decide +kernel))⟩
theorem o_bar (T : Txt K mg base) : PV.DfOk (gOf P w K mg base a ns) ex r_bar := ⟨T.defs f_bar _ rfl, T.g, fnScope_by (by decide +kernel), (fun _ _ _ _ _ _ us hl => match us, hl with | [_], _ => rfl), (fun z => by cases z), (fun z => absurd z (by decide +kernel))⟩
theorem o_beads (T : Txt K mg base) : PV.DfOk (gOf P w K mg base a ns) ex r_beads := ⟨T.defs f_beads _ rfl, T.g, fnScope_by (by decide +kernel), (fun _ _ _ _ _ _ us hl => match us, hl with | [_], _ => rfl), (fun z => by cases z), (fun z => absurd z (by decide +kernel))⟩
theorem o_degrees (T : Txt K mg base) : PV.DfOk (gOf P w K mg base a ns) ex r_degrees := ⟨T.defs f_degrees _ rfl, T.g, fnScope_by (by decide +kernel), (fun _ _ _ _ _ _ us hl => match us, hl with | [_], _ => rfl), (fun z => by cases z), (fun z => absurd z (by decide +kernel))⟩
theorem o_sizes (T : Txt K mg base) : PV.DfOk (gOf P w K mg base a ns) ex r_sizes := ⟨T.defs f_sizes _ rfl, T.g, fnScope_by (by decide +kernel), (fun _ _ _ _ _ _ us hl => match us, hl with | [_], _ => rfl), (fun z => by cases z), (fun z => absurd z (by decide +kernel))⟩
theorem o_one_bag (T : Txt K mg base) : PV.DfOk (gOf P w K mg base a ns) ex r_one_bag := ⟨T.defs f_one_bag _ rfl, T.g, fnScope_by (by decide +kernel), (fun _ _ _ _ _ _ us hl => match us, hl with | [_], _ => rfl), (fun z => by cases z), (fun z => absurd z (by decide +kernel))⟩
theorem o_rank (T : Txt K mg base) : PV.DfOk (gOf P w K mg base a ns) ex r_rank := ⟨T.defs f_rank _ rfl, T.g, fnScope_by (by decide +kernel), (fun _ _ _ _ _ _ us hl => match us, hl with | [_], _ => rfl), (fun z => by cases z), (fun z => absurd z (by decide +kernel))⟩
theorem o_law_taken (T : Txt K mg base) : PV.DfOk (gOf P w K mg base a ns) ex r_law_taken := ⟨T.defs f_law_taken _ rfl, T.g, fnScope_by (by decide +kernel), (fun _ _ _ _ _ _ us hl => match us, hl with | [_, _], _ => rfl), (fun z => by cases z), (fun z => absurd z (by decide +kernel))⟩
theorem o_law_pick (T : Txt K mg base) : PV.DfOk (gOf P w K mg base a ns) ex r_law_pick := ⟨T.defs f_law_pick _ rfl, T.g, fnScope_by (by decide +kernel), (fun _ _ _ _ _ _ us hl => match us, hl with | [_, _], _ => rfl), (fun z => by cases z), (fun z => absurd z (by decide +kernel))⟩
theorem o_law_alike (T : Txt K mg base) : PV.DfOk (gOf P w K mg base a ns) ex r_law_alike := ⟨T.defs f_law_alike _ rfl, T.g, fnScope_by (by decide +kernel), (fun _ _ _ _ _ _ us hl => match us, hl with | [_, _], _ => rfl), (fun z => by cases z), (fun z => absurd z (by decide +kernel))⟩
theorem o_law_mixed (T : Txt K mg base) : PV.DfOk (gOf P w K mg base a ns) ex r_law_mixed := ⟨T.defs f_law_mixed _ rfl, T.g, fnScope_by (by decide +kernel), (fun _ _ _ _ _ _ us hl => match us, hl with | [_, _], _ => rfl), (fun z => by cases z), (fun z => absurd z (by decide +kernel))⟩
theorem o_law_named (T : Txt K mg base) : PV.DfOk (gOf P w K mg base a ns) ex r_law_named := ⟨T.defs f_law_named _ rfl, T.g, fnScope_by (by decide +kernel), (fun _ _ _ _ _ _ us hl => match us, hl with | [_, _], _ => rfl), (fun z => by cases z), (fun z => absurd z (by decide +kernel))⟩
theorem o_law_family (T : Txt K mg base) : PV.DfOk (gOf P w K mg base a ns) ex r_law_family := ⟨T.defs f_law_family _ rfl, T.g, fnScope_by (by decide +kernel), (fun _ _ _ _ _ _ us hl => match us, hl with | [_, _], _ => rfl), (fun z => by cases z), (fun z => absurd z (by decide +kernel))⟩
theorem o_law_size (T : Txt K mg base) : PV.DfOk (gOf P w K mg base a ns) ex r_law_size := ⟨T.defs f_law_size _ rfl, T.g, fnScope_by (by decide +kernel), (fun _ _ _ _ _ _ us hl => match us, hl with | [_], _ => rfl), (fun z => by cases z), (fun z => absurd z (by decide +kernel))⟩
theorem o_law (T : Txt K mg base) : PV.DfOk (gOf P w K mg base a ns) ex r_law := ⟨T.defs f_law _ rfl, T.g, fnScope_by (by decide +kernel), (fun _ _ _ _ _ _ us hl => match us, hl with | [_], _ => rfl), (fun z => by cases z), (fun z => absurd z (by decide +kernel))⟩
theorem o_all (T : Txt K mg base) : ∀ r ∈ rows, PV.DfOk (gOf P w K mg base a ns) ex r := List.forall_mem_cons.mpr ⟨o_mask_of T, List.forall_mem_cons.mpr ⟨o_masks_of T, List.forall_mem_cons.mpr ⟨o_holds_two T, List.forall_mem_cons.mpr ⟨o_missing_bead T, List.forall_mem_cons.mpr ⟨o_first_double T, List.forall_mem_cons.mpr ⟨o_hanging_with_first T, List.forall_mem_cons.mpr ⟨o_twice_held T, List.forall_mem_cons.mpr ⟨o_left_in_rings T, List.forall_mem_cons.mpr ⟨o_first_bar T, List.forall_mem_cons.mpr ⟨o_bead_count T, List.forall_mem_cons.mpr ⟨o_degrees_of T, List.forall_mem_cons.mpr ⟨o_is_integer T, List.forall_mem_cons.mpr ⟨o_is_between T, List.forall_mem_cons.mpr ⟨o_is_ascending T, List.forall_mem_cons.mpr ⟨o_are_integers T, List.forall_mem_cons.mpr ⟨o_is_bead_tuple T, List.forall_mem_cons.mpr ⟨o_is_bag T, List.forall_mem_cons.mpr ⟨o_are_bags T, List.forall_mem_cons.mpr ⟨o_makes_family T, List.forall_mem_cons.mpr ⟨o_check_bags T, List.forall_mem_cons.mpr ⟨o_check_family T, List.forall_mem_cons.mpr ⟨o_check_number T, List.forall_mem_cons.mpr ⟨o_is_family T, List.forall_mem_cons.mpr ⟨o_bar T, List.forall_mem_cons.mpr ⟨o_beads T, List.forall_mem_cons.mpr ⟨o_degrees T, List.forall_mem_cons.mpr ⟨o_sizes T, List.forall_mem_cons.mpr ⟨o_one_bag T, List.forall_mem_cons.mpr ⟨o_rank T, List.forall_mem_cons.mpr ⟨o_law_taken T, List.forall_mem_cons.mpr ⟨o_law_pick T, List.forall_mem_cons.mpr ⟨o_law_alike T, List.forall_mem_cons.mpr ⟨o_law_mixed T, List.forall_mem_cons.mpr ⟨o_law_named T, List.forall_mem_cons.mpr ⟨o_law_family T, List.forall_mem_cons.mpr ⟨o_law_size T, List.forall_mem_cons.mpr ⟨o_law T, fun _ z => nomatch z⟩⟩⟩⟩⟩⟩⟩⟩⟩⟩⟩⟩⟩⟩⟩⟩⟩⟩⟩⟩⟩⟩⟩⟩⟩⟩⟩⟩⟩⟩⟩⟩⟩⟩⟩⟩⟩
theorem rows_nd : (rows.map PV.Df.x).Nodup := by decide +kernel
theorem o_ks (T : Txt K mg base) : ∀ p ∈ ks, ∃ u, mg p.1 = some u ∧ RelV (.int p.2) u := List.forall_mem_cons.mpr ⟨(let ⟨tk, h⟩ := He.int_ok T.kin T.ns (T.facts (.int "MOST_BEADS" 60) (Txt.inF 0 rfl)); ⟨_, h, ⟨tk, rfl⟩⟩), fun _ z => nomatch z⟩
theorem o_er (T : Txt K mg base) : ∀ p ∈ ex.er, ∃ C, PV.ErOk (gOf P w K mg base a ns) p.1 C := fun _ z => nomatch z
theorem o_lw (T : Txt K mg base) : ∀ q ∈ ex.lw, PV.LwOk (gOf P w K mg base a ns) ex.er q := fun _ z => nomatch z
theorem bn_all : PV.bnms.all (fun x => fr.contains x) = true := by decide +kernel
theorem o_tx (T : Txt K mg base) : PV.TxOk (gOf P w K mg base a ns) 40 rows ks ex := ⟨o_all T, fun r hr => PV.lookup_map (fun r => PV.cdOf 40 rows ks ex r) rows_nd hr, o_ks T, fun x hx => T.n (List.all_eq_true.mp bn_all x hx), o_er T, o_lw T⟩
end
theorem law_mem : r_law ∈ rows := by
  unfold rows
  repeat (first | exact List.mem_cons_self | apply List.mem_cons_of_mem)
theorem lawAt {w : World} {K : PySem.W.Frag} {h : Heap} {mg : Str → Option Value} {fa0 : Addr} (X : K.In h) (G : h.Ns mainGlobals mg) (hfa : mg ("law" : Str) = some (.ref fa0)) (c : He.SaysX fa fn [] tf exK w h K) :
    LamX.LawAtS theRow w K C8.CX0 60 63 "script" mg fa0 h := by
  have hd : ∀ (i : Nat) (d : He.DefD), fn[i]? = some d → ∃ fd, FunD K d.name d.qual d.params d.body d.scope (d.dvs K) (d.kws K) (He.fAd K d.at_) fd := fun i d hi => c.t.d.defs (List.mem_of_getElem? hi)
  obtain ⟨fd, F⟩ := hd f_law _ rfl
  have F : FunD K "law" "law" r_law.params r_law.body r_law.scope [] [] (He.ga K "law") fd := F
  obtain ⟨d0, hd0, e0⟩ := List.mem_map.mp (List.contains_iff_mem.mp (show (fn.map (·.name)).contains ("law" : Str) = true by decide +kernel))
  have e := hfa.symm.trans (He.glo_ok X G (c.t.d.facts (f := .glo "law") (List.mem_append_left _ (List.mem_map.mpr ⟨d0, hd0, by rw [e0]⟩))))
  cases e
  refine ⟨fd, tf.map (He.cT K), PV.spLw K (tabs K) (lts K) (fun ns => ns.length ≤ 63 ∧ ∀ z ∈ ns, Builtin.Int.intBits z ≤ 1048576), ?_, ?_, ?_, ?_, ?_, ?_⟩
  · intro p hp
    obtain ⟨q, hq, rfl⟩ := List.mem_map.mp hp
    exact c.empty q hq
  · intro p hp
    obtain ⟨q, hq, rfl⟩ := List.mem_map.mp hp
    exact c.out q hq
  · intro p hp
    obtain ⟨q, hq, rfl⟩ := List.mem_map.mp hp
    exact PySem.W.codeHd_of_K X (c.hd q hq)
  · intro s u
    have b := FunD.bindsA (ps := ["script"]) F fun _ _ _ _ _ _ us hl => match us, hl with | [_], _ => rfl
    exact b s [u] rfl
  · intro H a ns hl hb hcs hS
    refine ⟨a, ns, rfl, ⟨hl, hb⟩, hS, fun P hP => ?_, fun P hP => ?_, fun _ => rfl⟩
    · obtain ⟨q, hq, rfl⟩ := List.mem_map.mp hP
      exact ⟨#[], hcs _ (List.mem_map.mpr ⟨q, tg_sub q hq, rfl⟩), trivial⟩
    · obtain ⟨q, hq, rfl⟩ := List.mem_map.mp hP
      exact LamX.TabS.nil (hcs _ (List.mem_map.mpr ⟨q, tl_sub q hq, rfl⟩))
  · intro base hK hN hT
    have T : Txt K mg base := ⟨hK, hN, hd, fun f hf => c.t.d.facts hf, fun p hp => let t := hT _ (List.mem_map.mpr ⟨p, hp, rfl⟩); ⟨t.code, t.bm, t.gP⟩, fun p hp => let t := hT _ (List.mem_map.mpr ⟨p, hp, rfl⟩); ⟨t.code, t.bm, t.gP⟩⟩
    exact PV.ok_lw (r := r_law) (ks := ks) (hsep c.more) (fun a ns => o_tx T) law_mem rfl F fun ns hns => by
      rw [md_eq]
      exact PV.holds_k00 ns hns.1 hns.2
end K00
open PySem PySem.W PySem.Calls PyProof.Rows
theorem PySem.Challenge.cw_sharebags_k00_whole_families_holds : PySem.Challenge.rw_sharebags_k00_whole_families.Holds := by
  w_on; o_law
  refine HandSHeadRun.head_any (r := OpenLaw.row PySem.Challenge.rw_sharebags_k00_whole_families) (q := view (OpenLaw.row PySem.Challenge.rw_sharebags_k00_whole_families).prog [49]) (H := K00.hk) (ob := K00.ob) (M := 6000) (loose := K00.loose) (d := HandSHeadRun.topDef (OpenLaw.row PySem.Challenge.rw_sharebags_k00_whole_families).prog 49) (kwd := []) K00.ob_eq
    (by kernel_rfl) (fun s => by kernel_rfl) K00.run (by kernel_rfl) (by kernel_rfl) (by kernel_rfl) (by rfl) (by first | assumption | decide +kernel) (by decide +kernel) ⟨rfl, rfl, rfl, rfl, rfl, by decide +kernel⟩ ?hw ?hc
  case hw => w_witness2
  case hc =>
    refine LamX.walk_ofTsE (l := PySem.Challenge.rw_sharebags_k00_whole_families) (n := 63) (k := 60) (x := "script") (CX := fun _ => C8.CX0) rfl (by decide) (by kernel_rfl) ⟨rfl, by decide, by decide⟩ ?F (fun _ _ _ _ _ z => z)
    intro w mg fa h Y G hmg0
    obtain ⟨K, KX, c⟩ := Y
    have hmg : mg ("law" : PySem.Str) = some (.ref fa) := by
      have e : (HandSHeadRun.topDef (OpenLaw.row PySem.Challenge.rw_sharebags_k00_whole_families).prog 49).name = ("law" : PySem.Str) := by kernel_rfl
      rw [← e]
      exact hmg0
    exact ⟨K, KX, K00.lawAt KX G hmg c⟩
