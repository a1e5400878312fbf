import PyProof.Rows.All
import Wide.All
import OpenK.AllK
import Wide.FinOn
import HandS.ForMost
import HandS.ForExc
import HandS.Walk
import HandS.Gcd
import HandS.IsInst
import HandS.FStr
import HandS.ClsMeth
import HandS.Property
import HandS.Defaults
import HandS.MakeKw
import HandS.OwnEq
import HandS.Wide
import HandS.Flow
import HandS.Style
import HandS.Zip0
import HandS.Ends
import PyProof.EqAt
import PyProof.MeetsIn
import HandS.NoneIn
import HandS.List
import HandS.Iter
import HandS.Zip
import HandS.TupMul
import HandS.Text
import PySem.Challenge.RW_hingerows_k13_whole_eights
set_option Elab.async false
set_option linter.all false
set_option maxRecDepth 100000
namespace Hw
open PySem L2
/-- the one or the other, by a truth -/
structure Cif (c : Bool) (X Y : Prop) : Prop where
  t : c = true → X
  f : c = false → Y
theorem Cif.yes {X Y : Prop} (x : X) : Cif true X Y := ⟨fun _ => x, fun h => Bool.noConfusion h⟩
theorem Cif.no {X Y : Prop} (y : Y) : Cif false X Y := ⟨fun h => Bool.noConfusion h, fun _ => y⟩
theorem Cif.mono {c : Bool} {X Y X' Y' : Prop} (h : Cif c X Y) (hx : X → X') (hy : Y → Y') : Cif c X' Y' := ⟨fun e => hx (h.t e), fun e => hy (h.f e)⟩

/-! ### data without addresses -/
/-- what a Python value is, as a tree; rat: a Ratio; ins: any other own instance that never changes, its fields in their order -/
inductive D where
  | non | bl (b : Bool) | int (i : Int) | str (x : Str) | rat (q : Rat)
  | tup (l : List D) | lst (l : List D) | ins (c : Nat) (l : List D) | dic | cls (c : Nat) | ty (n : String)

/-- a value: a tree, or a thing of its own that may change -/
inductive W where
  | t (d : D) | loc (n : Nat)

/-- what may change: a list, an instance in the making -/
inductive AO where
  | lst (l : List D) | ins (c : Nat) (l : List (Str × D))
inductive Cell where
  | live (o : AO) | lock (o : AO) | dead
abbrev AH := List Cell

/-- the text's classes: where they stand, their fields' names -/
structure Tb where
  at_ : Nat → Addr
  flds : Nat → List Str

/-- the address is nobody's that may change -/
def Fr (m : List Addr) (A : AH) (a : Addr) : Prop := ∀ i : Nat, m[i]? = some a → A[i]? = some .dead

section
variable (K : PySem.W.Frag) (T : Tb) (m : List Addr) (A : AH) (H : Hp)
def TupAt (a : Addr) (vs : List V) : Prop := SqT K H a vs ∧ (Rd H a (.tup vs) → Fr m A a)
def LstAt (a : Addr) (vs : List V) : Prop := SqL K H a vs ∧ (Rd H a (.lst vs) → Fr m A a)
def ratF (q : Rat) : List (Str × V) := [("_top", .int q.num), ("_bottom", .int q.den)]
mutual
def Rep : D → V → Prop
  | .non, v => v = .non
  | .bl b, v => v = .bl b
  | .int i, v => v = .int i
  | .str x, v => v = .str x
  | .rat q, v => ∃ a dx, v = .ref a ∧ H a = some (.ins (T.at_ 0) dx (ratF q)) ∧ Fr m A a
  | .tup l, v => ∃ a vs, v = .ref a ∧ ((Rd H a (.tup vs) ∧ Fr m A a) ∨ (∀ H', SqT K H' a vs)) ∧ Reps l vs
  | .lst l, v => ∃ a vs, v = .ref a ∧ ((Rd H a (.lst vs) ∧ Fr m A a) ∨ (∀ H', SqL K H' a vs)) ∧ Reps l vs
  | .ins c l, v => ∃ a dx vs, v = .ref a ∧ H a = some (.ins (T.at_ c) dx ((T.flds c).zip vs)) ∧ (T.flds c).length = vs.length ∧ Fr m A a ∧ Reps l vs
  | .dic, v => ∃ a, v = .ref a ∧ H a = some (.dK []) ∧ Fr m A a
  | .cls c, v => v = .ref (T.at_ c)
  | .ty n, v => v = .ty n
def Reps : List D → List V → Prop
  | [], vs => vs = []
  | d :: l, vs => ∃ v r, vs = v :: r ∧ Rep d v ∧ Reps l r
end
def RepW : W → V → Prop
  | .t d, v => Rep K T m A H d v
  | .loc n, v => ∃ a, v = .ref a ∧ m[n]? = some a
def RepWs : List W → List V → Prop
  | [], vs => vs = []
  | d :: l, vs => ∃ v r, vs = v :: r ∧ RepW K T m A H d v ∧ RepWs l r
def RepFs : List (Str × D) → List (Str × V) → Prop
  | [], vs => vs = []
  | d :: l, vs => ∃ v r, vs = (d.1, v) :: r ∧ Rep K T m A H d.2 v ∧ RepFs l r
def RepO (a : Addr) : AO → Prop
  | .lst l => ∃ vs, H a = some (.lst vs) ∧ Reps K T m A H l vs
  | .ins c l => ∃ dx fs, H a = some (.ins (T.at_ c) dx fs) ∧ RepFs K T m A H l fs
def RepC (a : Addr) : Cell → Prop
  | .live o => RepO K T m A H a o
  | .lock o => RepO K T m A H a o
  | .dead => True
/-- the abstract state is held -/
structure HR : Prop where
  len : m.length = A.length
  nd : m.Nodup
  dom : ∀ a ∈ m, ∃ o, H a = some o
  cell : ∀ (i : Nat) a c, m[i]? = some a → A[i]? = some c → RepC K T m A H a c
end

def isLive : Option Cell → Prop
  | some (.live _) => True
  | _ => False
/-- from one state to a later one -/
structure Lt (m : List Addr) (A : AH) (H : Hp) (m' : List Addr) (A' : AH) (H' : Hp) : Prop where
  pre : ∃ m2, m' = m ++ m2 ∧ ∀ p ∈ m2, H p = none
  alen : A.length ≤ A'.length
  dead : ∀ i : Nat, A[i]? = some .dead → A'[i]? = some .dead
  lock : ∀ (i : Nat) o, A[i]? = some (.lock o) → A'[i]? = some (.lock o)
  live : ∀ (i : Nat) o, A[i]? = some (.live o) → (∃ o', A'[i]? = some (.live o')) ∨ A'[i]? = some .dead
  keep : ∀ b o, H b = some o → (∀ i : Nat, m[i]? = some b → ¬ isLive A[i]?) → H' b = some o
  some_ : ∀ b o, H b = some o → ∃ o', H' b = some o'

section
variable {K : PySem.W.Frag} {T : Tb} {m m' m'' : List Addr} {A A' A'' : AH} {H H' H'' : Hp}
theorem Fr.notLive {a : Addr} (f : Fr m A a) (i : Nat) (h : m[i]? = some a) : ¬ isLive A[i]? := by
  rw [f i h]; exact fun z => z
theorem Lt.refl : Lt m A H m A H := by
  refine ⟨⟨[], by simp, by simp⟩, Nat.le_refl _, fun _ h => h, fun _ _ h => h, fun _ o h => .inl ⟨o, h⟩, fun _ _ h _ => h, fun _ o h => ⟨o, h⟩⟩
theorem Lt.mget (l : Lt m A H m' A' H') {i : Nat} {a : Addr} (h : m[i]? = some a) : m'[i]? = some a := by
  obtain ⟨m2, rfl, _⟩ := l.pre
  have hl : i < m.length := (List.getElem?_eq_some_iff.mp h).1
  rw [List.getElem?_append_left hl]; exact h
theorem Lt.fr (l : Lt m A H m' A' H') (hl : m.length = A.length) {a : Addr} {o : HO} (e : H a = some o) (f : Fr m A a) : Fr m' A' a := by
  intro i hi
  obtain ⟨m2, rfl, hm2⟩ := l.pre
  by_cases hlt : i < m.length
  · rw [List.getElem?_append_left hlt] at hi
    exact l.dead i (f i hi)
  · rw [List.getElem?_append_right (by omega)] at hi
    have := hm2 a (List.mem_of_getElem? hi)
    rw [e] at this; cases this
theorem Lt.trans (l : Lt m A H m' A' H') (hl : m.length = A.length) (k : Lt m' A' H' m'' A'' H'') : Lt m A H m'' A'' H'' := by
  obtain ⟨m2, e2, h2⟩ := l.pre
  obtain ⟨m3, e3, h3⟩ := k.pre
  refine ⟨⟨m2 ++ m3, by rw [e3, e2, List.append_assoc], fun p hp => ?_⟩, Nat.le_trans l.alen k.alen, fun i h => k.dead i (l.dead i h), fun i o h => k.lock i o (l.lock i o h), fun i o h => ?_, fun b o e n => ?_, fun b o e => ?_⟩
  · rcases (List.mem_append (s := m2)).1 hp with hp | hp
    · exact h2 p hp
    · cases q : H p with
      | none => rfl
      | some o =>
        obtain ⟨o', e'⟩ := l.some_ p o q
        rw [h3 p hp] at e'; cases e'
  · rcases l.live i o h with ⟨o', h'⟩ | h'
    · exact k.live i o' h'
    · exact .inr (k.dead i h')
  · refine k.keep b o (l.keep b o e n) fun i hi hlv => ?_
    rw [e2] at hi
    by_cases hlt : i < m.length
    · rw [List.getElem?_append_left hlt] at hi
      refine n i hi ?_
      have hA : i < A.length := by omega
      cases q : A[i] with
      | live o => rw [List.getElem?_eq_getElem hA, q]; exact True.intro
      | lock o =>
        have := l.lock i o (by rw [List.getElem?_eq_getElem hA, q])
        rw [this] at hlv; exact (show False from hlv).elim
      | dead =>
        have := l.dead i (by rw [List.getElem?_eq_getElem hA, q])
        rw [this] at hlv; exact (show False from hlv).elim
    · rw [List.getElem?_append_right (by omega)] at hi
      have := h2 b (List.mem_of_getElem? hi)
      rw [e] at this; cases this
  · obtain ⟨o1, e1⟩ := l.some_ b o e
    exact k.some_ b o1 e1

theorem Lt.rd (l : Lt m A H m' A' H') {a : Addr} {u : HO} (h : Rd H a u) (f : Fr m A a) : Rd H' a u := by
  rcases h with h | ⟨o, h⟩
  · exact .inl (l.keep a _ h fun i hi => f.notLive i hi)
  · exact .inr ⟨o, l.keep a _ h fun i hi => f.notLive i hi⟩
theorem Lt.frR (l : Lt m A H m' A' H') (hl : m.length = A.length) {a : Addr} {u : HO} (h : Rd H a u) (f : Fr m A a) : Fr m' A' a := by
  rcases h with h | ⟨o, h⟩
  · exact l.fr hl h f
  · exact l.fr hl h f

mutual
theorem Rep.lt (l : Lt m A H m' A' H') (hl : m.length = A.length) : ∀ (d : D) (v : V), Rep K T m A H d v → Rep K T m' A' H' d v
  | .non, v, h => by simpa only [Rep] using h
  | .bl b, v, h => by simpa only [Rep] using h
  | .int i, v, h => by simpa only [Rep] using h
  | .str x, v, h => by simpa only [Rep] using h
  | .cls c, v, h => by simpa only [Rep] using h
  | .ty n, v, h => by simpa only [Rep] using h
  | .rat q, v, h => by
    simp only [Rep] at h ⊢
    obtain ⟨a, dx, e, h, f⟩ := h
    exact ⟨a, dx, e, l.keep _ _ h fun i hi => f.notLive i hi, l.fr hl h f⟩
  | .dic, v, h => by
    simp only [Rep] at h ⊢
    obtain ⟨a, e, h, f⟩ := h
    exact ⟨a, e, l.keep _ _ h fun i hi => f.notLive i hi, l.fr hl h f⟩
  | .tup ds, v, h => by
    simp only [Rep] at h ⊢
    obtain ⟨a, vs, e, h, r⟩ := h
    refine ⟨a, vs, e, ?_, Reps.lt l hl ds vs r⟩
    rcases h with ⟨h, f⟩ | h
    · exact .inl ⟨l.rd h f, l.frR hl h f⟩
    · exact .inr h
  | .lst ds, v, h => by
    simp only [Rep] at h ⊢
    obtain ⟨a, vs, e, h, r⟩ := h
    refine ⟨a, vs, e, ?_, Reps.lt l hl ds vs r⟩
    rcases h with ⟨h, f⟩ | h
    · exact .inl ⟨l.rd h f, l.frR hl h f⟩
    · exact .inr h
  | .ins c ds, v, h => by
    simp only [Rep] at h ⊢
    obtain ⟨a, dx, vs, e, h, hz, f, r⟩ := h
    exact ⟨a, dx, vs, e, l.keep _ _ h fun i hi => f.notLive i hi, hz, l.fr hl h f, Reps.lt l hl ds vs r⟩
theorem Reps.lt (l : Lt m A H m' A' H') (hl : m.length = A.length) : ∀ (ds : List D) (vs : List V), Reps K T m A H ds vs → Reps K T m' A' H' ds vs
  | [], vs, h => by simpa only [Reps] using h
  | d :: ds, vs, h => by
    simp only [Reps] at h ⊢
    obtain ⟨v, r, e, h1, h2⟩ := h
    exact ⟨v, r, e, Rep.lt l hl d v h1, Reps.lt l hl ds r h2⟩
end
theorem RepW.lt (l : Lt m A H m' A' H') (hl : m.length = A.length) : ∀ (d : W) (v : V), RepW K T m A H d v → RepW K T m' A' H' d v
  | .t d, v, h => Rep.lt l hl d v h
  | .loc n, v, h => by
    obtain ⟨a, e, h⟩ := h
    exact ⟨a, e, l.mget h⟩
theorem RepWs.lt (l : Lt m A H m' A' H') (hl : m.length = A.length) : ∀ (ds : List W) (vs : List V), RepWs K T m A H ds vs → RepWs K T m' A' H' ds vs
  | [], vs, h => h
  | d :: ds, vs, h => by
    obtain ⟨v, r, e, h1, h2⟩ := h
    exact ⟨v, r, e, RepW.lt l hl d v h1, RepWs.lt l hl ds r h2⟩
theorem RepFs.lt (l : Lt m A H m' A' H') (hl : m.length = A.length) : ∀ (ds : List (Str × D)) (vs : List (Str × V)), RepFs K T m A H ds vs → RepFs K T m' A' H' ds vs
  | [], vs, h => h
  | d :: ds, vs, h => by
    obtain ⟨v, r, e, h1, h2⟩ := h
    exact ⟨v, r, e, Rep.lt l hl _ v h1, RepFs.lt l hl ds r h2⟩
/-- a cell's thing, its address's object being the same -/
theorem RepO.lt (l : Lt m A H m' A' H') (hl : m.length = A.length) {a : Addr} (e : H' a = H a) : ∀ (o : AO), RepO K T m A H a o → RepO K T m' A' H' a o
  | .lst ds, h => by
    obtain ⟨vs, h1, h2⟩ := h
    exact ⟨vs, e.trans h1, Reps.lt l hl _ _ h2⟩
  | .ins c ds, h => by
    obtain ⟨dx, fs, h1, h2⟩ := h
    exact ⟨dx, fs, e.trans h1, RepFs.lt l hl _ _ h2⟩
theorem RepC.lt (l : Lt m A H m' A' H') (hl : m.length = A.length) {a : Addr} (e : H' a = H a) : ∀ (c : Cell), RepC K T m A H a c → RepC K T m' A' H' a c
  | .live o, h => RepO.lt l hl e o h
  | .lock o, h => RepO.lt l hl e o h
  | .dead, _ => True.intro
end

/-! ### the names -/
abbrev Env := List (Option W)
def EnvR (K : PySem.W.Frag) (T : Tb) (m : List Addr) (A : AH) (H : Hp) (env : Env) (σ : St) : Prop :=
  env.length = σ.length ∧ ∀ (i : Nat) w, env[i]? = some (some w) → ∃ v, σ[i]? = some (some v) ∧ RepW K T m A H w v
section
variable {K : PySem.W.Frag} {T : Tb} {m m' m'' : List Addr} {A A' A'' : AH} {H H' H'' : Hp} {env : Env} {σ : St}
theorem EnvR.lt (e : EnvR K T m A H env σ) (l : Lt m A H m' A' H') (hl : m.length = A.length) : EnvR K T m' A' H' env σ :=
  ⟨e.1, fun i w h => let ⟨v, h1, h2⟩ := e.2 i w h; ⟨v, h1, RepW.lt l hl w v h2⟩⟩
theorem EnvR.set (e : EnvR K T m A H env σ) {i : Nat} {w : W} {v : V} (r : RepW K T m A H w v) : EnvR K T m A H (env.set i (some w)) (σ.set i (some v)) := by
  refine ⟨by rw [List.length_set, List.length_set, e.1], fun j w' h => ?_⟩
  by_cases hj : i = j
  · subst hj
    have hi : i < env.length := by
      have := (List.getElem?_eq_some_iff.mp h).1
      rwa [List.length_set] at this
    rw [List.getElem?_set_self hi] at h
    cases h
    exact ⟨v, List.getElem?_set_self (by rw [← e.1]; exact hi), r⟩
  · rw [List.getElem?_set_ne hj] at h ⊢
    exact e.2 j w' h
end

/-! ### readings -/
abbrev WK := W → AH → Prop
abbrev Den := Env → AH → WK → Prop
abbrev DenT := Env → AH → (Bool → AH → Prop) → Prop
abbrev DenA := Env → AH → (List W → AH → Prop) → Prop
/-- a statement's ends -/
structure Ed where
  nx : Env → AH → Prop
  rt : WK
  bk : Env → AH → Prop := fun _ _ => False
  ct : Env → AH → Prop := fun _ _ => False
abbrev DenS := Ed → Env → AH → Prop

def MonE (f : Den) : Prop := ∀ env A Q Q', (∀ w B, Q w B → Q' w B) → f env A Q → f env A Q'
def MonT (f : DenT) : Prop := ∀ env A Q Q', (∀ w B, Q w B → Q' w B) → f env A Q → f env A Q'
def MonA (f : DenA) : Prop := ∀ env A Q Q', (∀ w B, Q w B → Q' w B) → f env A Q → f env A Q'
structure EdLe (D D' : Ed) : Prop where
  nx : ∀ e A, D.nx e A → D'.nx e A
  rt : ∀ w A, D.rt w A → D'.rt w A
  bk : ∀ e A, D.bk e A → D'.bk e A
  ct : ∀ e A, D.ct e A → D'.ct e A
def MonS (f : DenS) : Prop := ∀ D D' env A, EdLe D D' → f D env A → f D' env A

/-- the text's own facts that never change -/
structure Gc where
  P : Program
  w : World
  K : PySem.W.Frag
  mg : Str → Option Value
  base : Heap
  T : Tb
  gd : Bool
structure Gc.Has (G : Gc) (k : Nat) (X : Cx) : Prop where
  P : X.prog = G.P
  w : X.w = G.w
  K : X.K = G.K
  mg : X.mg = G.mg
  base : X.base = G.base
  calm : X.calm = true
  room : Room k X.A
  nox : X.xe = fun _ _ => False
  grd : G.gd = true → X.A.guards = some []
theorem Gc.Has.mono {G : Gc} {k j : Nat} {X : Cx} (h : G.Has k X) (hj : j ≤ k) : G.Has j X := ⟨h.P, h.w, h.K, h.mg, h.base, h.calm, h.room.mono hj, h.nox, h.grd⟩
/-- where a def's body stands: its names, its scope, how many calls there is room for -/
structure Ctx where
  g : Gc
  N : List Str
  sc : Scope
  lev : Nat
  top : Bool
structure Ctx.Has (C : Ctx) (X : Cx) : Prop where
  g : C.g.Has C.lev X
  N : X.N = C.N
  sc : X.env.scope = C.sc
  nd : X.N.Nodup
  fn : C.top = true → ∀ x, X.fn x = true

def tE (K : PySem.W.Frag) (T : Tb) (f : Den) : TE := fun σ H Q => ∃ env m A, EnvR K T m A H env σ ∧ HR K T m A H ∧
  f env A fun w A' => ∀ v m' H', Lt m A H m' A' H' → HR K T m' A' H' → RepW K T m' A' H' w v → Q v H'
def tT (K : PySem.W.Frag) (T : Tb) (f : DenT) : TT := fun σ H Q => ∃ env m A, EnvR K T m A H env σ ∧ HR K T m A H ∧
  f env A fun b A' => ∀ m' H', Lt m A H m' A' H' → HR K T m' A' H' → Q b H'
def tA (K : PySem.W.Frag) (T : Tb) (f : DenA) : TA := fun σ H Q => ∃ env m A, EnvR K T m A H env σ ∧ HR K T m A H ∧
  f env A fun ws A' => ∀ vs m' H', Lt m A H m' A' H' → HR K T m' A' H' → RepWs K T m' A' H' ws vs → Q vs H'
def tS (K : PySem.W.Frag) (T : Tb) (f : DenS) : TS := fun D σ H => ∃ env m A, EnvR K T m A H env σ ∧ HR K T m A H ∧
  f { nx := fun env' A' => ∀ σ' m' H', Lt m A H m' A' H' → HR K T m' A' H' → EnvR K T m' A' H' env' σ' → D.nx σ' H'
      rt := fun w A' => ∀ v m' H', Lt m A H m' A' H' → HR K T m' A' H' → RepW K T m' A' H' w v → D.rt v H'
      bk := fun env' A' => ∀ σ' m' H', Lt m A H m' A' H' → HR K T m' A' H' → EnvR K T m' A' H' env' σ' → D.bk σ' H'
      ct := fun env' A' => ∀ σ' m' H', Lt m A H m' A' H' → HR K T m' A' H' → EnvR K T m' A' H' env' σ' → D.ct σ' H' } env A

structure SE (C : Ctx) (e : Expr) (f : Den) : Prop where
  mono : MonE f
  run : ∀ X, C.Has X → PE X e (tE C.g.K C.g.T f)
structure ST (C : Ctx) (e : Expr) (f : DenT) : Prop where
  mono : MonT f
  run : ∀ X, C.Has X → PT X e (tT C.g.K C.g.T f)
structure SA (C : Ctx) (es : List Expr) (f : DenA) : Prop where
  mono : MonA f
  run : ∀ X, C.Has X → PA X es (tA C.g.K C.g.T f)
structure SS (C : Ctx) (st : Stmt) (f : DenS) : Prop where
  mono : MonS f
  run : ∀ X, C.Has X → PS X st (tS C.g.K C.g.T f)
structure SSs (C : Ctx) (st : List Stmt) (f : DenS) : Prop where
  mono : MonS f
  run : ∀ X, C.Has X → PSs X st (tS C.g.K C.g.T f)

theorem PE.weak {X : Cx} {e : Expr} {t t' : TE} (h : PE X e t) (k : ∀ σ H Q, t' σ H Q → t σ H Q) : PE X e t' := ⟨fun p s σ H Q I z => h.run p s σ H Q I (k σ H Q z)⟩
theorem PT.weak {X : Cx} {e : Expr} {t t' : TT} (h : PT X e t) (k : ∀ σ H Q, t' σ H Q → t σ H Q) : PT X e t' := ⟨fun p s σ H Q I z => h.run p s σ H Q I (k σ H Q z)⟩
theorem PW.weak {X : Cx} {e : Expr} {t t' : TT} (h : PW X e t) (k : ∀ σ H Q, t' σ H Q → t σ H Q) : PW X e t' := ⟨fun wh p s σ H Q I z => h.run wh p s σ H Q I (k σ H Q z)⟩
theorem PA.weak {X : Cx} {e : List Expr} {t t' : TA} (h : PA X e t) (k : ∀ σ H Q, t' σ H Q → t σ H Q) : PA X e t' := ⟨fun q p s σ H Q I z => h.run q p s σ H Q I (k σ H Q z)⟩
theorem PS.weak {X : Cx} {e : Stmt} {t t' : TS} (h : PS X e t) (k : ∀ D σ H, t' D σ H → t D σ H) : PS X e t' := ⟨fun p s σ H D I z => h.run p s σ H D I (k D σ H z)⟩
theorem PSs.weak {X : Cx} {e : List Stmt} {t t' : TS} (h : PSs X e t) (k : ∀ D σ H, t' D σ H → t D σ H) : PSs X e t' := ⟨fun p s σ H D I z => h.run p s σ H D I (k D σ H z)⟩
end Hw
namespace Hw
open PySem L2

section
variable {C : Ctx} {k : Nat} {e a b c : Expr} {f g : Den} {pos : Pos}
/-- the common end: the value, the state as it is -/
theorem fin {K : PySem.W.Frag} {T : Tb} {m : List Addr} {A : AH} {H : Hp} {w : W} {v : V} {Q : VK} (hr : HR K T m A H) (r : RepW K T m A H w v)
    (h : ∀ v m' H', Lt m A H m' A H' → HR K T m' A H' → RepW K T m' A H' w v → Q v H') : Q v H := h v m H Lt.refl hr r

/-! ### names, constants -/
def vName (i : Nat) : Den := fun env A Q => match env[i]? with
  | some (some w) => Q w A
  | _ => False
theorem se_name {x : Str} (i : Nat) (hN : C.N[i]? = some x) (hv : Vis C.sc x) (hd : (x == ("__debug__" : Str)) = false) (hcd : (x == ("__classdict__" : Str)) = false) : SE C (.Name x pos) (vName i) := by
  refine ⟨fun env A Q Q' k h => ?_, fun X hX => ?_⟩
  · unfold vName at h ⊢
    split at h
    · exact k _ _ h
    · exact h.elim
  · refine PE.weak (pe_var (i := i) (by rw [hX.N]; exact hN) (by rw [hX.sc]; exact hv) hd hcd) fun σ H Q z => ?_
    obtain ⟨env, m, A, er, hr, h⟩ := z
    unfold vName at h
    split at h
    · rename_i w hw
      obtain ⟨v, e1, r⟩ := er.2 i w hw
      exact ⟨v, e1, fin hr r h⟩
    · exact h.elim
def vC (d : D) : Den := fun _ A Q => Q (.t d) A
theorem monC {d : D} : MonE (vC d) := fun _ _ _ _ k h => k _ _ h
theorem se_int {i : Int} {j : Nat} : SE C (.Constant (.int i) j pos) (vC (.int i)) := ⟨monC, fun X hX => PE.weak pe_int fun σ H Q z => by
  obtain ⟨env, m, A, er, hr, h⟩ := z
  exact fin (w := .t (.int i)) hr (by simp only [RepW, Rep]) h⟩
theorem se_bl {i : Bool} {j : Nat} : SE C (.Constant (.bool i) j pos) (vC (.bl i)) := ⟨monC, fun X hX => PE.weak pe_bl fun σ H Q z => by
  obtain ⟨env, m, A, er, hr, h⟩ := z
  exact fin (w := .t (.bl i)) hr (by simp only [RepW, Rep]) h⟩
theorem se_str {i : Str} {j : Nat} : SE C (.Constant (.str i) j pos) (vC (.str i)) := ⟨monC, fun X hX => PE.weak pe_str fun σ H Q z => by
  obtain ⟨env, m, A, er, hr, h⟩ := z
  exact fin (w := .t (.str i)) hr (by simp only [RepW, Rep]) h⟩
theorem se_non {j : Nat} : SE C (.Constant .none j pos) (vC .non) := ⟨monC, fun X hX => PE.weak pe_non fun σ H Q z => by
  obtain ⟨env, m, A, er, hr, h⟩ := z
  exact fin (w := .t .non) hr (by simp only [RepW, Rep]) h⟩
/-- a class's name as a value -/
theorem se_cls {x : Str} {n : Nat} (hg : C.sc.names.lookup x = some .globalImplicit) (hm : C.g.mg x = some (.ref (C.g.T.at_ n))) (hd : (x == ("__debug__" : Str)) = false) : SE C (.Name x pos) (vC (.cls n)) := ⟨monC, fun X hX => PE.weak (pe_glob (v := .ref (C.g.T.at_ n)) (u := .ref (C.g.T.at_ n)) (by show X.env.scope.names.lookup x = _; rw [hX.sc]; exact hg) (by rw [hX.g.mg]; exact hm) rfl hd) fun σ H Q z => by
  obtain ⟨env, m, A, er, hr, h⟩ := z
  exact fin (w := .t (.cls n)) hr (by simp only [RepW, Rep]) h⟩

/-! ### operators by values -/
abbrev O2 := W → W → AH → WK → Prop
abbrev O1 := W → AH → WK → Prop
abbrev OL := List W → AH → WK → Prop
def Mon2 (r : O2) : Prop := ∀ x y A Q Q', (∀ w B, Q w B → Q' w B) → r x y A Q → r x y A Q'
def Mon1 (r : O1) : Prop := ∀ x A Q Q', (∀ w B, Q w B → Q' w B) → r x A Q → r x A Q'
def MonL (r : OL) : Prop := ∀ xs A Q Q', (∀ w B, Q w B → Q' w B) → r xs A Q → r xs A Q'
def tR2 (K : PySem.W.Frag) (T : Tb) (r : O2) : R2 := fun x y H Q => ∃ m A w1 w2, HR K T m A H ∧ RepW K T m A H w1 x ∧ RepW K T m A H w2 y ∧ r w1 w2 A fun w A' => ∀ v m' H', Lt m A H m' A' H' → HR K T m' A' H' → RepW K T m' A' H' w v → Q v H'
def tR1 (K : PySem.W.Frag) (T : Tb) (r : O1) : V → Hp → VK → Prop := fun x H Q => ∃ m A w1, HR K T m A H ∧ RepW K T m A H w1 x ∧ r w1 A fun w A' => ∀ v m' H', Lt m A H m' A' H' → HR K T m' A' H' → RepW K T m' A' H' w v → Q v H'
def tRL (K : PySem.W.Frag) (T : Tb) (r : OL) : List V → Hp → VK → Prop := fun xs H Q => ∃ m A ws, HR K T m A H ∧ RepWs K T m A H ws xs ∧ r ws A fun w A' => ∀ v m' H', Lt m A H m' A' H' → HR K T m' A' H' → RepW K T m' A' H' w v → Q v H'
structure SO2 (G : Gc) (k : Nat) (f : Value → Value → Sem Value) (r : O2) : Prop where
  mono : Mon2 r
  run : ∀ X, G.Has k X → OpR X f (tR2 G.K G.T r)
structure SO1 (G : Gc) (k : Nat) (f : Value → Sem Value) (r : O1) : Prop where
  mono : Mon1 r
  run : ∀ X, G.Has k X → UnR X f (tR1 G.K G.T r)
structure SOL (G : Gc) (k : Nat) (f : Value) (r : OL) : Prop where
  mono : MonL r
  run : ∀ X, G.Has k X → CallR X f (tRL G.K G.T r)

def vBin (r : O2) (f g : Den) : Den := fun env A Q => f env A fun x B => g env B fun y B2 => r x y B2 Q
def vUn (r : O1) (f : Den) : Den := fun env A Q => f env A fun x B => r x B Q
theorem monBin {r : O2} (hr : Mon2 r) (hf : MonE f) (hg : MonE g) : MonE (vBin r f g) := fun env A Q Q' k h => hf _ _ _ _ (fun x B z => hg _ _ _ _ (fun y B2 z2 => hr _ _ _ _ _ k z2) z) h
theorem monUn {r : O1} (hr : Mon1 r) (hf : MonE f) : MonE (vUn r f) := fun env A Q Q' k h => hf _ _ _ _ (fun x B z => hr _ _ _ _ k z) h
/-- two expressions, then what is by values -/
theorem two {K : PySem.W.Frag} {T : Tb} {r : O2} (hg : MonE g) (hf : MonE f) (hm : Mon2 r) {σ : St} {H : Hp} {Q : VK} (z : tE K T (vBin r f g) σ H Q) :
    tE K T f σ H fun x H1 => tE K T g σ H1 fun y H2 => tR2 K T r x y H2 Q := by
  obtain ⟨env, m, A, er, hr, h⟩ := z
  refine ⟨env, m, A, er, hr, hf _ _ _ _ (fun w1 A1 z1 v1 m1 H1 l1 hr1 r1 => ?_) h⟩
  refine ⟨env, m1, A1, er.lt l1 hr.len, hr1, hg _ _ _ _ (fun w2 A2 z2 v2 m2 H2 l2 hr2 r2 => ?_) z1⟩
  refine ⟨m2, A2, w1, w2, hr2, RepW.lt l2 hr1.len _ _ r1, r2, hm _ _ _ _ _ (fun w3 A3 z3 v3 m3 H3 l3 hr3 r3 => ?_) z2⟩
  exact z3 v3 m3 H3 (l1.trans hr.len (l2.trans hr1.len l3)) hr3 r3
theorem se_bin {op : Operator} {r : O2} (ho : SO2 C.g k (binaryOp op) r) (hk : k ≤ C.lev) (ha : SE C a f) (hb : SE C b g) : SE C (.BinOp a op b pos) (vBin r f g) :=
  ⟨monBin ho.mono ha.mono hb.mono, fun X hX => PE.weak (pe_op (ho.run X (hX.g.mono hk)) (ha.run X hX) (hb.run X hX)) fun σ H Q z => two hb.mono ha.mono ho.mono z⟩
theorem se_cmp {op : CmpOp} {r : O2} (ho : SO2 C.g k (compareOp op) r) (hk : k ≤ C.lev) (ha : SE C a f) (hb : SE C b g) (hm : behindInMarks op b = false) : SE C (.Compare a [op] [b] pos) (vBin r f g) :=
  ⟨monBin ho.mono ha.mono hb.mono, fun X hX => PE.weak (pe_cmpR (ho.run X (hX.g.mono hk)) (ha.run X hX) (hb.run X hX) hm) fun σ H Q z => two hb.mono ha.mono ho.mono z⟩
theorem se_un {op : UnaryOp} {r : O1} (ho : SO1 C.g k (unaryOp op) r) (hk : k ≤ C.lev) (ha : SE C a f) : SE C (.UnaryOp op a pos) (vUn r f) :=
  ⟨monUn ho.mono ha.mono, fun X hX => PE.weak (pe_un (ho.run X (hX.g.mono hk)) (ha.run X hX)) fun σ H Q z => by
    obtain ⟨env, m, A, er, hr, h⟩ := z
    refine ⟨env, m, A, er, hr, ha.mono _ _ _ _ (fun w1 A1 z1 v1 m1 H1 l1 hr1 r1 => ?_) h⟩
    exact ⟨m1, A1, w1, hr1, r1, ho.mono _ _ _ _ (fun w3 A3 z3 v3 m3 H3 l3 hr3 r3 => z3 v3 m3 H3 (l1.trans hr.len l3) hr3 r3) z1⟩⟩

/-! ### tests -/
def bW (Q : Bool → AH → Prop) : WK := fun w B => match w with
  | .t (.bl k) => Q k B
  | _ => False
theorem bW_mono {Q Q' : Bool → AH → Prop} (k : ∀ b B, Q b B → Q' b B) : ∀ w B, bW Q w B → bW Q' w B := fun w B h => by
  unfold bW at h ⊢
  split at h
  · exact k _ _ h
  · exact h.elim
/-- a comparison as a test -/
def vCmpT (r : O2) (f g : Den) : DenT := fun env A Q => vBin r f g env A (bW Q)
theorem st_cmp {op : CmpOp} {r : O2} (ho : SO2 C.g k (compareOp op) r) (hk : k ≤ C.lev) (ha : SE C a f) (hb : SE C b g) (hm : behindInMarks op b = false) : ST C (.Compare a [op] [b] pos) (vCmpT r f g) := by
  have hm1 := monBin ho.mono ha.mono hb.mono
  refine ⟨fun env A Q Q' k h => hm1 _ _ _ _ (bW_mono k) h, fun X hX => PT.weak (pt_cmpR (ho.run X (hX.g.mono hk)) (ha.run X hX) (hb.run X hX) hm) fun σ H Q z => ?_⟩
  obtain ⟨env, m, A, er, hr, h⟩ := z
  refine two hb.mono ha.mono ho.mono ⟨env, m, A, er, hr, hm1 _ _ _ _ (fun w B z v m' H' l h' r => ?_) h⟩
  unfold bW at z
  split at z
  · rename_i k
    simp only [RepW, Rep] at r
    exact ⟨k, r, z m' H' l h'⟩
  · exact z.elim
/-- a value's truth -/
def truW (w : W) (A : AH) (Q : Bool → AH → Prop) : Prop := match w with
  | .t .non => Q false A
  | .t (.bl k) => Q k A
  | .t (.int i) => Q (i != 0) A
  | .t (.str x) => x.length ≤ sizeLine ∧ Q ((x.length : Int) != 0) A
  | .t (.tup l) => Q (!l.isEmpty) A
  | .t (.lst l) => Q (!l.isEmpty) A
  | .loc n => match A[n]? with
    | some (.live (.lst l)) => Q (!l.isEmpty) A
    | some (.lock (.lst l)) => Q (!l.isEmpty) A
    | _ => False
  | _ => False
def vTruth (f : Den) : DenT := fun env A Q => f env A fun w B => truW w B Q
theorem truW_mono {w : W} {A : AH} {Q Q' : Bool → AH → Prop} (k : ∀ b B, Q b B → Q' b B) (h : truW w A Q) : truW w A Q' := by
  unfold truW at h ⊢
  split at h <;> first | exact k _ _ h | exact ⟨h.1, k _ _ h.2⟩ | exact h.elim | skip
  split at h <;> first | exact k _ _ h | exact h.elim
theorem Reps.isEmpty {K : PySem.W.Frag} {T : Tb} {m : List Addr} {A : AH} {H : Hp} {l : List D} {vs : List V} (r : Reps K T m A H l vs) : l.isEmpty = vs.isEmpty := by
  cases l with
  | nil => simp only [Reps] at r; rw [r]; rfl
  | cons d l => simp only [Reps] at r; obtain ⟨v, q, e, _⟩ := r; rw [e]; rfl
theorem Reps.length {K : PySem.W.Frag} {T : Tb} {m : List Addr} {A : AH} {H : Hp} : ∀ {l : List D} {vs : List V}, Reps K T m A H l vs → l.length = vs.length
  | [], vs, r => by simp only [Reps] at r; rw [r]; rfl
  | d :: l, vs, r => by
    simp only [Reps] at r
    obtain ⟨v, q, e, _, r2⟩ := r
    rw [e, List.length_cons, List.length_cons, Reps.length r2]
theorem st_truth (ha : SE C a f) (he : ∀ (env : PySem.Env) whole, isTrue a env whole = (do let v ← whole; standAt a.pos; holding [v] (truthy v))) : ST C a (vTruth f) := by
  refine ⟨fun env A Q Q' k h => ha.mono _ _ _ _ (fun w B z => truW_mono k z) h, fun X hX => PT.weak (pt_truth (ha.run X hX) (he X.env)) fun σ H Q z => ?_⟩
  obtain ⟨env, m, A, er, hr, h⟩ := z
  refine ⟨env, m, A, er, hr, ha.mono _ _ _ _ (fun w B z v m' H' l h' r => ?_) h⟩
  unfold truW at z
  split at z
  · simp only [RepW, Rep] at r; subst r; exact ⟨false, rfl, z m' H' l h'⟩
  · simp only [RepW, Rep] at r; subst r; exact ⟨_, rfl, z m' H' l h'⟩
  · simp only [RepW, Rep] at r; subst r; exact ⟨_, rfl, z m' H' l h'⟩
  · simp only [RepW, Rep] at r; subst r; exact ⟨_, ⟨z.1, rfl⟩, z.2 m' H' l h'⟩
  · simp only [RepW, Rep] at r
    obtain ⟨p, vs, rfl, h1, r⟩ := r
    refine ⟨_, .inr (.inl ⟨vs, ?_, rfl⟩), by rw [← r.isEmpty]; exact z m' H' l h'⟩
    rw [hX.g.K]
    rcases h1 with ⟨h1, _⟩ | h1
    · exact .inl h1
    · exact h1 H'
  · simp only [RepW, Rep] at r
    obtain ⟨p, vs, rfl, h1, r⟩ := r
    refine ⟨_, .inl ⟨vs, ?_, rfl⟩, by rw [← r.isEmpty]; exact z m' H' l h'⟩
    rw [hX.g.K]
    rcases h1 with ⟨h1, _⟩ | h1
    · exact .inl h1
    · exact h1 H'
  · rename_i n
    obtain ⟨p, rfl, hp⟩ := r
    split at z
    · rename_i l1 hc
      obtain ⟨vs, h1, r⟩ := h'.cell n p _ hp hc
      exact ⟨_, .inl ⟨vs, SqL.of h1, rfl⟩, by rw [← r.isEmpty]; exact z m' H' l h'⟩
    · rename_i l1 hc
      obtain ⟨vs, h1, r⟩ := h'.cell n p _ hp hc
      exact ⟨_, .inl ⟨vs, SqL.of h1, rfl⟩, by rw [← r.isEmpty]; exact z m' H' l h'⟩
    · exact z.elim
  · exact z.elim
structure SW (C : Ctx) (e : Expr) (f : DenT) : Prop where
  mono : MonT f
  run : ∀ X, C.Has X → PW X e (tT C.g.K C.g.T f)
theorem SW.st {f : DenT} (h : SW C e f) : ST C e f := ⟨h.mono, fun X hX => (h.run X hX).pt⟩
section
variable {ft gt : DenT} {rest : List Expr}
def vAndT (f g : DenT) : DenT := fun env A Q => f env A fun c B => Cif c (g env B Q) (Q false B)
def vOrT (f g : DenT) : DenT := fun env A Q => f env A fun c B => Cif c (Q true B) (g env B Q)
def vNotT (f : DenT) : DenT := fun env A Q => f env A fun c B => Q (!c) B
theorem sw_and1 (ha : ST C a ft) : SW C (.BoolOp .And [a] pos) ft := ⟨ha.mono, fun X hX => pw_and1 (ha.run X hX)⟩
theorem sw_or1 (ha : ST C a ft) : SW C (.BoolOp .Or [a] pos) ft := ⟨ha.mono, fun X hX => pw_or1 (ha.run X hX)⟩
theorem sw_and (ha : ST C a ft) (hb : SW C (.BoolOp .And (b :: rest) pos) gt) : SW C (.BoolOp .And (a :: b :: rest) pos) (vAndT ft gt) := by
  refine ⟨fun env A Q Q' k h => ha.mono _ _ _ _ (fun c B z => ?_) h, fun X hX => PW.weak (pw_and (ha.run X hX) (hb.run X hX)) fun σ H Q z => ?_⟩
  · cases c with
    | true => exact (Cif.yes (hb.mono _ _ _ _ k (z.t rfl)))
    | false => exact (Cif.no (k _ _ (z.f rfl)))
  · obtain ⟨env, m, A, er, hr, h⟩ := z
    refine ⟨env, m, A, er, hr, ha.mono _ _ _ _ (fun c B z m1 H1 l1 hr1 => ?_) h⟩
    cases c with
    | true => exact ⟨env, m1, B, er.lt l1 hr.len, hr1, hb.mono _ _ _ _ (fun c2 B2 z2 m2 H2 l2 hr2 => z2 m2 H2 (l1.trans hr.len l2) hr2) (z.t rfl)⟩
    | false => exact (z.f rfl) m1 H1 l1 hr1
theorem sw_or (ha : ST C a ft) (hb : SW C (.BoolOp .Or (b :: rest) pos) gt) : SW C (.BoolOp .Or (a :: b :: rest) pos) (vOrT ft gt) := by
  refine ⟨fun env A Q Q' k h => ha.mono _ _ _ _ (fun c B z => ?_) h, fun X hX => PW.weak (pw_or (ha.run X hX) (hb.run X hX)) fun σ H Q z => ?_⟩
  · cases c with
    | false => exact (Cif.no (hb.mono _ _ _ _ k (z.f rfl)))
    | true => exact (Cif.yes (k _ _ (z.t rfl)))
  · obtain ⟨env, m, A, er, hr, h⟩ := z
    refine ⟨env, m, A, er, hr, ha.mono _ _ _ _ (fun c B z m1 H1 l1 hr1 => ?_) h⟩
    cases c with
    | false => exact ⟨env, m1, B, er.lt l1 hr.len, hr1, hb.mono _ _ _ _ (fun c2 B2 z2 m2 H2 l2 hr2 => z2 m2 H2 (l1.trans hr.len l2) hr2) (z.f rfl)⟩
    | true => exact (z.t rfl) m1 H1 l1 hr1
theorem st_not (ha : ST C a ft) : ST C (.UnaryOp .Not a pos) (vNotT ft) := by
  refine ⟨fun env A Q Q' k h => ha.mono _ _ _ _ (fun c B z => k _ _ z) h, fun X hX => PT.weak (pt_not (ha.run X hX)) fun σ H Q z => ?_⟩
  obtain ⟨env, m, A, er, hr, h⟩ := z
  exact ⟨env, m, A, er, hr, h⟩

/-! ### and, or, not, if-else as values -/
def vAnd (f g : Den) : Den := fun env A Q => f env A fun x B => match x with
  | .t (.bl c) => Cif c (g env B Q) (Q (.t (.bl false)) B)
  | _ => False
def vOr (f g : Den) : Den := fun env A Q => f env A fun x B => match x with
  | .t (.bl c) => Cif c (Q (.t (.bl true)) B) (g env B Q)
  | _ => False
def vNot (f : Den) : Den := fun env A Q => f env A fun x B => match x with
  | .t (.bl c) => Q (.t (.bl (!c))) B
  | _ => False
def vIf (t : DenT) (f g : Den) : Den := fun env A Q => t env A fun c B => Cif c (f env B Q) (g env B Q)
theorem se_one {op : BoolOp} (h : SE C a f) : SE C (.BoolOp op [a] pos) f := ⟨h.mono, fun X hX => pe_one (h.run X hX)⟩
theorem se_and (ha : SE C a f) (hb : SE C (.BoolOp .And (b :: rest) pos) g) : SE C (.BoolOp .And (a :: b :: rest) pos) (vAnd f g) := by
  refine ⟨fun env A Q Q' k h => ha.mono _ _ _ _ (fun x B z => ?_) h, fun X hX => PE.weak (pe_and (ha.run X hX) (hb.run X hX)) fun σ H Q z => ?_⟩
  · split at z
    · rename_i c
      cases c with
      | true => exact (Cif.yes (hb.mono _ _ _ _ k (z.t rfl)))
      | false => exact (Cif.no (k _ _ (z.f rfl)))
    · exact z.elim
  · obtain ⟨env, m, A, er, hr, h⟩ := z
    refine ⟨env, m, A, er, hr, ha.mono _ _ _ _ (fun x B z v m1 H1 l1 hr1 r1 => ?_) h⟩
    split at z
    · rename_i c
      simp only [RepW, Rep] at r1
      refine ⟨c, r1, ?_⟩
      cases c with
      | true => exact ⟨env, m1, B, er.lt l1 hr.len, hr1, hb.mono _ _ _ _ (fun c2 B2 z2 v2 m2 H2 l2 hr2 r2 => z2 v2 m2 H2 (l1.trans hr.len l2) hr2 r2) (z.t rfl)⟩
      | false => exact (z.f rfl) _ m1 H1 l1 hr1 (by simp only [RepW, Rep])
    · exact z.elim
theorem se_or (ha : SE C a f) (hb : SE C (.BoolOp .Or (b :: rest) pos) g) : SE C (.BoolOp .Or (a :: b :: rest) pos) (vOr f g) := by
  refine ⟨fun env A Q Q' k h => ha.mono _ _ _ _ (fun x B z => ?_) h, fun X hX => PE.weak (pe_or (ha.run X hX) (hb.run X hX)) fun σ H Q z => ?_⟩
  · split at z
    · rename_i c
      cases c with
      | false => exact (Cif.no (hb.mono _ _ _ _ k (z.f rfl)))
      | true => exact (Cif.yes (k _ _ (z.t rfl)))
    · exact z.elim
  · obtain ⟨env, m, A, er, hr, h⟩ := z
    refine ⟨env, m, A, er, hr, ha.mono _ _ _ _ (fun x B z v m1 H1 l1 hr1 r1 => ?_) h⟩
    split at z
    · rename_i c
      simp only [RepW, Rep] at r1
      refine ⟨c, r1, ?_⟩
      cases c with
      | false => exact ⟨env, m1, B, er.lt l1 hr.len, hr1, hb.mono _ _ _ _ (fun c2 B2 z2 v2 m2 H2 l2 hr2 r2 => z2 v2 m2 H2 (l1.trans hr.len l2) hr2 r2) (z.f rfl)⟩
      | true => exact (z.t rfl) _ m1 H1 l1 hr1 (by simp only [RepW, Rep])
    · exact z.elim
theorem se_not (ha : SE C a f) : SE C (.UnaryOp .Not a pos) (vNot f) := by
  refine ⟨fun env A Q Q' k h => ha.mono _ _ _ _ (fun x B z => ?_) h, fun X hX => PE.weak (pe_not (ha.run X hX)) fun σ H Q z => ?_⟩
  · split at z
    · exact k _ _ z
    · exact z.elim
  · obtain ⟨env, m, A, er, hr, h⟩ := z
    refine ⟨env, m, A, er, hr, ha.mono _ _ _ _ (fun x B z v m1 H1 l1 hr1 r1 => ?_) h⟩
    split at z
    · rename_i c
      simp only [RepW, Rep] at r1
      exact ⟨c, r1, z _ m1 H1 l1 hr1 (by simp only [RepW, Rep])⟩
    · exact z.elim
theorem se_if (hc : ST C c ft) (ha : SE C a f) (hb : SE C b g) : SE C (.IfExp c a b pos) (vIf ft f g) := by
  refine ⟨fun env A Q Q' k h => hc.mono _ _ _ _ (fun x B z => ?_) h, fun X hX => PE.weak (pe_ifExp (hc.run X hX) (ha.run X hX) (hb.run X hX)) fun σ H Q z => ?_⟩
  · cases x with
    | true => exact (Cif.yes (ha.mono _ _ _ _ k (z.t rfl)))
    | false => exact (Cif.no (hb.mono _ _ _ _ k (z.f rfl)))
  · obtain ⟨env, m, A, er, hr, h⟩ := z
    refine ⟨env, m, A, er, hr, hc.mono _ _ _ _ (fun x B z m1 H1 l1 hr1 => ?_) h⟩
    cases x with
    | true => exact ⟨env, m1, B, er.lt l1 hr.len, hr1, ha.mono _ _ _ _ (fun c2 B2 z2 v2 m2 H2 l2 hr2 r2 => z2 v2 m2 H2 (l1.trans hr.len l2) hr2 r2) (z.t rfl)⟩
    | false => exact ⟨env, m1, B, er.lt l1 hr.len, hr1, hb.mono _ _ _ _ (fun c2 B2 z2 v2 m2 H2 l2 hr2 r2 => z2 v2 m2 H2 (l1.trans hr.len l2) hr2 r2) (z.f rfl)⟩
end

/-! ### argument lists, displays -/
def vNil : DenA := fun _ A Q => Q [] A
def vCons (f : Den) (g : DenA) : DenA := fun env A Q => f env A fun x B => g env B fun xs B2 => Q (x :: xs) B2
theorem sa_nil : SA C [] vNil := ⟨fun _ _ _ _ k h => k _ _ h, fun X hX => PA.weak pa_nil fun σ H Q z => by
  obtain ⟨env, m, A, er, hr, h⟩ := z
  exact h [] m H Lt.refl hr rfl⟩
theorem sa_cons {es : List Expr} {g : DenA} (ha : SE C a f) (hb : SA C es g) (hs : ∀ env : PySem.Env, starEach (a :: es) env = (false, eval a env) :: starEach es env) : SA C (a :: es) (vCons f g) := by
  refine ⟨fun env A Q Q' k h => ha.mono _ _ _ _ (fun x B z => hb.mono _ _ _ _ (fun xs B2 z2 => k _ _ z2) z) h, fun X hX => PA.weak (pa_cons (ha.run X hX) (hb.run X hX) (hs X.env)) fun σ H Q z => ?_⟩
  obtain ⟨env, m, A, er, hr, h⟩ := z
  refine ⟨env, m, A, er, hr, ha.mono _ _ _ _ (fun w1 A1 z1 v1 m1 H1 l1 hr1 r1 => ?_) h⟩
  refine ⟨env, m1, A1, er.lt l1 hr.len, hr1, hb.mono _ _ _ _ (fun w2 A2 z2 v2 m2 H2 l2 hr2 r2 => ?_) z1⟩
  exact z2 (v1 :: v2) m2 H2 (l1.trans hr.len l2) hr2 ⟨v1, v2, rfl, RepW.lt l2 hr1.len _ _ r1, r2⟩
/-- trees alone -/
def allT : List W → Option (List D)
  | [] => some []
  | .t d :: ws => (allT ws).map (d :: ·)
  | .loc _ :: _ => none
theorem allT_reps {K : PySem.W.Frag} {T : Tb} {m : List Addr} {A : AH} {H : Hp} : ∀ {ws : List W} {l : List D} {vs : List V}, allT ws = some l → RepWs K T m A H ws vs → Reps K T m A H l vs
  | [], l, vs, e, r => by
    simp only [allT] at e
    cases e
    simp only [Reps]
    exact r
  | .t d :: ws, l, vs, e, r => by
    simp only [allT] at e
    cases q : allT ws with
    | none => simp only [q] at e; cases e
    | some l' =>
      rw [q] at e
      cases e
      obtain ⟨v, r', e1, r1, r2⟩ := r
      simp only [Reps]
      exact ⟨v, r', e1, r1, allT_reps q r2⟩
  | .loc _ :: _, l, vs, e, r => by simp only [allT] at e; cases e
def vTup (g : DenA) : Den := fun env A Q => g env A fun ws B => match allT ws with
  | some l => l.length ≤ 400 ∧ Q (.t (.tup l)) B
  | none => False
def vLst (g : DenA) : Den := fun env A Q => g env A fun ws B => match allT ws with
  | some l => l.length ≤ 400 ∧ Q (.t (.lst l)) B
  | none => False
/-- a list that may change: a new cell -/
def vLstL (g : DenA) : Den := fun env A Q => g env A fun ws B => match allT ws with
  | some l => l.length ≤ 400 ∧ Q (.loc B.length) (B ++ [.live (.lst l)])
  | none => False
/-- a new object that nobody else has -/
theorem Lt.new {m : List Addr} {A : AH} {H : Hp} {p : Addr} {o : HO} (hp : H p = none) : Lt m A H m A (upd H p o) := by
  refine ⟨⟨[], by simp, by simp⟩, Nat.le_refl _, fun _ h => h, fun _ _ h => h, fun _ o h => .inl ⟨o, h⟩, fun b u e _ => ?_, fun b u e => ⟨u, ?_⟩⟩
  · rw [upd_ne (ne_of_none e hp)]; exact e
  · rw [upd_ne (ne_of_none e hp)]; exact e
theorem HR.notin {K : PySem.W.Frag} {T : Tb} {m : List Addr} {A : AH} {H : Hp} (hr : HR K T m A H) {p : Addr} (hp : H p = none) : p ∉ m := fun h => by
  obtain ⟨o, e⟩ := hr.dom p h
  rw [hp] at e; cases e
theorem Fr.of_notin {m : List Addr} {A : AH} {p : Addr} (h : p ∉ m) : Fr m A p := fun i hi => absurd (List.mem_of_getElem? hi) h
theorem HR.new {K : PySem.W.Frag} {T : Tb} {m : List Addr} {A : AH} {H : Hp} (hr : HR K T m A H) {p : Addr} {o : HO} (hp : H p = none) : HR K T m A (upd H p o) := by
  refine ⟨hr.len, hr.nd, fun a ha => ?_, fun i a c h1 h2 => ?_⟩
  · obtain ⟨u, e⟩ := hr.dom a ha
    exact ⟨u, by rw [upd_ne (ne_of_none e hp)]; exact e⟩
  · obtain ⟨u, e⟩ := hr.dom a (List.mem_of_getElem? h1)
    exact RepC.lt (Lt.new hp) hr.len (by rw [upd_ne (ne_of_none e hp)]) c (hr.cell i a c h1 h2)
theorem len400 {n : Nat} (h : n ≤ 400) : n ≤ sizeLine := Nat.le_trans h (by rw [sizeLine_eq]; decide)
theorem se_tup {es : List Expr} {k : Nat} {g : DenA} (ha : SA C es g) : SE C (.Tuple es k pos) (vTup g) := by
  refine ⟨fun env A Q Q' k h => ha.mono _ _ _ _ (fun ws B z => ?_) h, fun X hX => PE.weak (pe_tup (ha.run X hX)) fun σ H Q z => ?_⟩
  · split at z
    · exact ⟨z.1, k _ _ z.2⟩
    · exact z.elim
  · obtain ⟨env, m, A, er, hr, h⟩ := z
    refine ⟨env, m, A, er, hr, ha.mono _ _ _ _ (fun ws B z vs m1 H1 l1 hr1 r1 => ?_) h⟩
    split at z
    · rename_i l hl
      have r2 := allT_reps hl r1
      refine ⟨by rw [← r2.length]; exact len400 z.1, fun p hp => ?_⟩
      refine z.2 (.ref p) m1 (upd H1 p (.tup vs)) (l1.trans hr.len (Lt.new hp)) (hr1.new hp) ?_
      simp only [RepW, Rep]
      exact ⟨p, vs, rfl, .inl ⟨.inl upd_same, Fr.of_notin (hr1.notin hp)⟩, Reps.lt (Lt.new hp) hr1.len _ _ r2⟩
    · exact z.elim
theorem se_lst {es : List Expr} {g : DenA} (ha : SA C es g) : SE C (.List es pos) (vLst g) := by
  refine ⟨fun env A Q Q' k h => ha.mono _ _ _ _ (fun ws B z => ?_) h, fun X hX => PE.weak (pe_lst (ha.run X hX)) fun σ H Q z => ?_⟩
  · split at z
    · exact ⟨z.1, k _ _ z.2⟩
    · exact z.elim
  · obtain ⟨env, m, A, er, hr, h⟩ := z
    refine ⟨env, m, A, er, hr, ha.mono _ _ _ _ (fun ws B z vs m1 H1 l1 hr1 r1 => ?_) h⟩
    split at z
    · rename_i l hl
      have r2 := allT_reps hl r1
      refine ⟨by rw [← r2.length]; exact len400 z.1, fun p hp => ?_⟩
      refine z.2 (.ref p) m1 (upd H1 p (.lst vs)) (l1.trans hr.len (Lt.new hp)) (hr1.new hp) ?_
      simp only [RepW, Rep]
      exact ⟨p, vs, rfl, .inl ⟨.inl upd_same, Fr.of_notin (hr1.notin hp)⟩, Reps.lt (Lt.new hp) hr1.len _ _ r2⟩
    · exact z.elim
/-- a new cell -/
theorem Lt.cell {m : List Addr} {A : AH} {H : Hp} {p : Addr} {u : HO} (o : AO) (hl : m.length = A.length) (hp : H p = none) : Lt m A H (m ++ [p]) (A ++ [.live o]) (upd H p u) := by
  have hA : ∀ (i : Nat) c, A[i]? = some c → (A ++ [Cell.live o])[i]? = some c := fun i c h => by
    rw [List.getElem?_append_left (List.getElem?_eq_some_iff.mp h).1]; exact h
  refine ⟨⟨[p], rfl, fun q hq => by rw [List.mem_singleton.mp hq]; exact hp⟩, by simp, fun i h => hA i _ h, fun i _ h => hA i _ h, fun i o h => .inl ⟨o, hA i _ h⟩, fun b u e _ => ?_, fun b u e => ⟨u, ?_⟩⟩
  · rw [upd_ne (ne_of_none e hp)]; exact e
  · rw [upd_ne (ne_of_none e hp)]; exact e
theorem HR.newCell {K : PySem.W.Frag} {T : Tb} {m : List Addr} {A : AH} {H : Hp} (hr : HR K T m A H) {p : Addr} {u : HO} {o : AO} (hp : H p = none) (ro : RepO K T (m ++ [p]) (A ++ [.live o]) (upd H p u) p o) : HR K T (m ++ [p]) (A ++ [.live o]) (upd H p u) := by
  refine ⟨by simp [hr.len], ?_, fun a ha => ?_, fun i a c h1 h2 => ?_⟩
  · rw [List.nodup_append]
    refine ⟨hr.nd, by simp, fun x hx y hy e => ?_⟩
    rw [List.mem_singleton.mp hy] at e
    exact hr.notin hp (e ▸ hx)
  · rcases (List.mem_append (s := m)).1 ha with ha | ha
    · obtain ⟨w, e⟩ := hr.dom a ha
      exact ⟨w, by rw [upd_ne (ne_of_none e hp)]; exact e⟩
    · rw [List.mem_singleton.mp ha]; exact ⟨u, upd_same⟩
  · by_cases hi : i < m.length
    · rw [List.getElem?_append_left hi] at h1
      rw [List.getElem?_append_left (by rw [← hr.len]; exact hi)] at h2
      obtain ⟨w, e⟩ := hr.dom a (List.mem_of_getElem? h1)
      exact RepC.lt (Lt.cell o hr.len hp) hr.len (by rw [upd_ne (ne_of_none e hp)]) c (hr.cell i a c h1 h2)
    · rw [List.getElem?_append_right (by omega)] at h1
      rw [List.getElem?_append_right (by rw [← hr.len]; omega), ← hr.len] at h2
      have hi0 : i - m.length = 0 := by
        have := (List.getElem?_eq_some_iff.mp h1).1
        simp at this; omega
      rw [hi0] at h1 h2
      simp at h1 h2
      subst h1 h2
      exact ro
theorem se_lstL {es : List Expr} {g : DenA} (ha : SA C es g) : SE C (.List es pos) (vLstL g) := by
  refine ⟨fun env A Q Q' k h => ha.mono _ _ _ _ (fun ws B z => ?_) h, fun X hX => PE.weak (pe_lst (ha.run X hX)) fun σ H Q z => ?_⟩
  · split at z
    · exact ⟨z.1, k _ _ z.2⟩
    · exact z.elim
  · obtain ⟨env, m, A, er, hr, h⟩ := z
    refine ⟨env, m, A, er, hr, ha.mono _ _ _ _ (fun ws B z vs m1 H1 l1 hr1 r1 => ?_) h⟩
    split at z
    · rename_i l hl
      have r2 := allT_reps hl r1
      refine ⟨by rw [← r2.length]; exact len400 z.1, fun p hp => ?_⟩
      have lt := Lt.cell (u := .lst vs) (.lst l) hr1.len hp
      refine z.2 (.ref p) (m1 ++ [p]) (upd H1 p (.lst vs)) (l1.trans hr.len lt) (hr1.newCell hp ⟨vs, upd_same, Reps.lt lt hr1.len _ _ r2⟩) ⟨p, rfl, ?_⟩
      rw [← hr1.len]; simp
    · exact z.elim
end
end Hw
namespace Hw
open PySem L2

section
variable {C : Ctx} {k : Nat} {e a b c : Expr} {f g : Den} {ft : DenT} {pos : Pos} {st : Stmt} {rest : List Stmt} {s t : DenS}

/-! ### statements -/
/-- what follows, told from an earlier state -/
def edOf (K : PySem.W.Frag) (T : Tb) (D : Ends) (m : List Addr) (A : AH) (H : Hp) : Ed where
  nx := fun env' A' => ∀ σ' m' H', Lt m A H m' A' H' → HR K T m' A' H' → EnvR K T m' A' H' env' σ' → D.nx σ' H'
  rt := fun w A' => ∀ v m' H', Lt m A H m' A' H' → HR K T m' A' H' → RepW K T m' A' H' w v → D.rt v H'
  bk := fun env' A' => ∀ σ' m' H', Lt m A H m' A' H' → HR K T m' A' H' → EnvR K T m' A' H' env' σ' → D.bk σ' H'
  ct := fun env' A' => ∀ σ' m' H', Lt m A H m' A' H' → HR K T m' A' H' → EnvR K T m' A' H' env' σ' → D.ct σ' H'
theorem edOf_le {K : PySem.W.Frag} {T : Tb} {D : Ends} {m m' : List Addr} {A A' : AH} {H H' : Hp} (l : Lt m A H m' A' H') (hl : m.length = A.length) : EdLe (edOf K T D m A H) (edOf K T D m' A' H') :=
  ⟨fun e B h σ' m2 H2 l2 hr er => h σ' m2 H2 (l.trans hl l2) hr er, fun e B h σ' m2 H2 l2 hr er => h σ' m2 H2 (l.trans hl l2) hr er, fun e B h σ' m2 H2 l2 hr er => h σ' m2 H2 (l.trans hl l2) hr er, fun e B h σ' m2 H2 l2 hr er => h σ' m2 H2 (l.trans hl l2) hr er⟩
theorem tS_def {K : PySem.W.Frag} {T : Tb} {f : DenS} {D : Ends} {σ : St} {H : Hp} : tS K T f D σ H ↔ ∃ env m A, EnvR K T m A H env σ ∧ HR K T m A H ∧ f (edOf K T D m A H) env A := Iff.rfl
theorem EdLe.refl {D : Ed} : EdLe D D := ⟨fun _ _ h => h, fun _ _ h => h, fun _ _ h => h, fun _ _ h => h⟩

def vNext : DenS := fun D env A => D.nx env A
def vSeq (s t : DenS) : DenS := fun D env A => s { D with nx := fun e B => t D e B } env A
theorem sss_nil : SSs C [] vNext := ⟨fun _ _ _ _ k h => k.nx _ _ h, fun X hX => PSs.weak pss_nil fun D σ H z => by
  obtain ⟨env, m, A, er, hr, h⟩ := z
  exact h σ m H Lt.refl hr er⟩
theorem monSeq (h1 : MonS s) (h2 : MonS t) : MonS (vSeq s t) := fun D D' env A k h => h1 { D with nx := fun e B => t D e B } { D' with nx := fun e B => t D' e B } env A ⟨fun e B z => h2 _ _ _ _ k z, k.rt, k.bk, k.ct⟩ h
theorem sss_cons (h1 : SS C st s) (h2 : SSs C rest t) : SSs C (st :: rest) (vSeq s t) := by
  refine ⟨monSeq h1.mono h2.mono, fun X hX => PSs.weak (pss_cons (h1.run X hX) (h2.run X hX)) fun D σ H z => ?_⟩
  obtain ⟨env, m, A, er, hr, h⟩ := z
  refine ⟨env, m, A, er, hr, h1.mono { edOf C.g.K C.g.T D m A H with nx := fun e B => t (edOf C.g.K C.g.T D m A H) e B } _ _ _ ⟨fun e B z σ' m' H' l h' r => ?_, fun w B z => z, fun e B z => z, fun e B z => z⟩ h⟩
  exact ⟨e, m', B, r, h', h2.mono _ _ _ _ (edOf_le l hr.len) z⟩
theorem sss_one (h1 : SS C st s) : SSs C [st] s := ⟨h1.mono, fun X hX => pss_one (h1.run X hX)⟩
theorem ss_pass : SS C (.Pass pos) vNext := ⟨fun _ _ _ _ k h => k.nx _ _ h, fun X hX => PS.weak ps_pass fun D σ H z => by
  obtain ⟨env, m, A, er, hr, h⟩ := z
  exact h σ m H Lt.refl hr er⟩
def vDrop (f : Den) : DenS := fun D env A => f env A fun _ B => D.nx env B
theorem ss_expr (he : SE C e f) (hs : ∀ env : PySem.Env, swapsWith e none pos.line env = pure false) : SS C (.Expr e pos) (vDrop f) := by
  refine ⟨fun D D' env A k h => he.mono _ _ _ _ (fun w B z => k.nx _ _ z) h, fun X hX => PS.weak (ps_expr (he.run X hX) (hs X.env)) fun D σ H z => ?_⟩
  obtain ⟨env, m, A, er, hr, h⟩ := z
  exact ⟨env, m, A, er, hr, he.mono _ _ _ _ (fun w B z v m' H' l h' r => z σ m' H' l h' (er.lt l hr.len)) h⟩
def vRet (f : Den) : DenS := fun D env A => f env A D.rt
theorem ss_ret (he : SE C e f) : SS C (.Return (some e) pos) (vRet f) := by
  refine ⟨fun D D' env A k h => he.mono _ _ _ _ (fun w B z => k.rt _ _ z) h, fun X hX => PS.weak (ps_ret (he.run X hX)) fun D σ H z => ?_⟩
  obtain ⟨env, m, A, er, hr, h⟩ := z
  exact ⟨env, m, A, er, hr, he.mono _ _ _ _ (fun w B z v m' H' l h' r => z v m' H' l h' r) h⟩
def vIfS (c : DenT) (s t : DenS) : DenS := fun D env A => c env A fun b B => Cif b (s D env B) (t D env B)
theorem ss_if {xs ys : List Stmt} (hc : ST C c ft) (ha : SSs C xs s) (hb : SSs C ys t) : SS C (.If c xs ys pos) (vIfS ft s t) := by
  refine ⟨fun D D' env A k h => hc.mono _ _ _ _ (fun w B z => ?_) h, fun X hX => PS.weak (ps_if (hc.run X hX) (ha.run X hX) (hb.run X hX)) fun D σ H z => ?_⟩
  · cases w with
    | true => exact (Cif.yes (ha.mono _ _ _ _ k (z.t rfl)))
    | false => exact (Cif.no (hb.mono _ _ _ _ k (z.f rfl)))
  · obtain ⟨env, m, A, er, hr, h⟩ := z
    refine ⟨env, m, A, er, hr, hc.mono _ _ _ _ (fun w B z m' H' l h' => ?_) h⟩
    cases w with
    | true => exact ⟨env, m', B, er.lt l hr.len, h', ha.mono _ _ _ _ (edOf_le l hr.len) (z.t rfl)⟩
    | false => exact ⟨env, m', B, er.lt l hr.len, h', hb.mono _ _ _ _ (edOf_le l hr.len) (z.f rfl)⟩
/-- code that is never reached -/
def vNever : DenS := fun _ _ _ => False
theorem ss_never : SS C st vNever := ⟨fun _ _ _ _ _ h => h, fun X hX => PS.weak ps_never fun D σ H z => by
  obtain ⟨_, _, _, _, _, h⟩ := z
  exact h⟩
theorem sss_never {sts : List Stmt} : SSs C sts vNever := ⟨fun _ _ _ _ _ h => h, fun X hX => PSs.weak pss_never fun D σ H z => by
  obtain ⟨_, _, _, _, _, h⟩ := z
  exact h⟩

/-! ### targets -/
abbrev DenG := W → Env → AH → (Env → AH → Prop) → Prop
abbrev DenGs := List W → Env → AH → (Env → AH → Prop) → Prop
def MonG (g : DenG) : Prop := ∀ w env A Q Q', (∀ e B, Q e B → Q' e B) → g w env A Q → g w env A Q'
def MonGs (g : DenGs) : Prop := ∀ w env A Q Q', (∀ e B, Q e B → Q' e B) → g w env A Q → g w env A Q'
/-- the slots at sl may have changed -/
def Ch (sl : List Nat) (σ σ' : St) : Prop := σ'.length = σ.length ∧ ∀ j : Nat, j ∉ sl → σ'[j]? = σ[j]?
def tG (K : PySem.W.Frag) (T : Tb) (sl : List Nat) (g : DenG) : TG := fun v σ H Q => ∃ env m A w, EnvR K T m A H env σ ∧ HR K T m A H ∧ RepW K T m A H w v ∧
  g w env A fun env' A' => ∀ σ' m' H', Lt m A H m' A' H' → HR K T m' A' H' → EnvR K T m' A' H' env' σ' → Ch sl σ σ' → Q σ' H'
def tGs (K : PySem.W.Frag) (T : Tb) (sl : List Nat) (g : DenGs) : TGs := fun v σ H Q => ∃ env m A w, EnvR K T m A H env σ ∧ HR K T m A H ∧ RepWs K T m A H w v ∧
  g w env A fun env' A' => ∀ σ' m' H', Lt m A H m' A' H' → HR K T m' A' H' → EnvR K T m' A' H' env' σ' → Ch sl σ σ' → Q σ' H'
structure SG (C : Ctx) (e : Expr) (sl : List Nat) (g : DenG) : Prop where
  mono : MonG g
  run : ∀ X, C.Has X → PG X e (tG C.g.K C.g.T sl g)
structure SGs (C : Ctx) (e : List Expr) (sl : List Nat) (g : DenGs) : Prop where
  mono : MonGs g
  run : ∀ X, C.Has X → PGs X e (tGs C.g.K C.g.T sl g)
theorem PG.weak {X : Cx} {e : Expr} {t t' : TG} (h : PG X e t) (k : ∀ v σ H Q, t' v σ H Q → t v σ H Q) : PG X e t' := ⟨fun p s σ H v u Q I r z => h.run p s σ H v u Q I r (k v σ H Q z)⟩
theorem PGs.weak {X : Cx} {e : List Expr} {t t' : TGs} (h : PGs X e t) (k : ∀ v σ H Q, t' v σ H Q → t v σ H Q) : PGs X e t' := ⟨fun p s σ H v u Q I r z => h.run p s σ H v u Q I r (k v σ H Q z)⟩
def dName (i : Nat) : DenG := fun w env A Q => Q (env.set i (some w)) A
theorem sg_name {x : Str} (i : Nat) (hi : C.N[i]? = some x) (hx : Loc C.sc x) (hf : C.top = true ∨ C.sc.names.lookup x = some .local) : SG C (.Name x pos) [i] (dName i) := by
  refine ⟨fun _ _ _ _ _ k h => k _ _ h, fun X hX => PG.weak (pg_name (i := i) hX.nd (by rw [hX.N]; exact hi) (by rw [hX.sc]; exact hx) ?_) fun v σ H Q z => ?_⟩
  · rcases hf with hf | hf
    · exact .inl (hX.fn hf x)
    · exact .inr (by rw [hX.sc]; exact hf)
  · obtain ⟨env, m, A, w, er, hr, r, h⟩ := z
    refine h _ m H Lt.refl hr (er.set r) ⟨by simp, fun j hj => List.getElem?_set_ne (fun q => hj (by simp [q]))⟩
def dNil : DenGs := fun ws env A Q => ws = [] ∧ Q env A
def dCons (g : DenG) (h : DenGs) : DenGs := fun ws env A Q => match ws with
  | w :: r => g w env A fun e B => h r e B Q
  | [] => False
theorem sgs_nil : SGs C [] [] dNil := ⟨fun _ _ _ _ _ k h => ⟨h.1, k _ _ h.2⟩, fun X hX => PGs.weak pgs_nil fun v σ H Q z => by
  obtain ⟨env, m, A, w, er, hr, r, h⟩ := z
  obtain ⟨rfl, h⟩ := h
  exact ⟨r, h σ m H Lt.refl hr er ⟨rfl, fun _ _ => rfl⟩⟩⟩
theorem sgs_cons {es : List Expr} {sl sl' : List Nat} {g : DenG} {h : DenGs} (h1 : SG C a sl g) (h2 : SGs C es sl' h)
    (hs : ∀ env : PySem.Env, (assignEach (a :: es) env).map (·.2) = assign a env :: (assignEach es env).map (·.2)) : SGs C (a :: es) (sl ++ sl') (dCons g h) := by
  refine ⟨fun ws env A Q Q' k z => ?_, fun X hX => PGs.weak (pgs_cons (h1.run X hX) (h2.run X hX) (hs X.env)) fun v σ H Q z => ?_⟩
  · cases ws with
    | nil => exact z
    | cons w r => exact h1.mono _ _ _ _ _ (fun e B z => h2.mono _ _ _ _ _ k z) z
  · obtain ⟨env, m, A, ws, er, hr, r, z⟩ := z
    cases ws with
    | nil => exact z.elim
    | cons w ws =>
      obtain ⟨v1, vr, rfl, r1, r2⟩ := r
      refine ⟨v1, vr, rfl, env, m, A, w, er, hr, r1, h1.mono _ _ _ _ _ (fun e B z σ1 m1 H1 l1 hr1 er1 c1 => ?_) z⟩
      refine ⟨e, m1, B, ws, er1, hr1, RepWs.lt l1 hr.len _ _ r2, h2.mono _ _ _ _ _ (fun e2 B2 z2 σ2 m2 H2 l2 hr2 er2 c2 => ?_) z⟩
      refine z2 σ2 m2 H2 (l1.trans hr.len l2) hr2 er2 ⟨c2.1.trans c1.1, fun j hj => ?_⟩
      rw [List.mem_append] at hj
      exact (c2.2 j fun q => hj (.inr q)).trans (c1.2 j fun q => hj (.inl q))
def dTup (n : Nat) (h : DenGs) : DenG := fun w env A Q => match w with
  | .t (.tup l) => l.length = n ∧ h (l.map .t) env A Q
  | _ => False
theorem reps_ws {K : PySem.W.Frag} {T : Tb} {m : List Addr} {A : AH} {H : Hp} : ∀ {l : List D} {vs : List V}, Reps K T m A H l vs → RepWs K T m A H (l.map .t) vs
  | [], vs, r => by simp only [Reps] at r; exact r
  | d :: l, vs, r => by
    simp only [Reps] at r
    obtain ⟨v, q, e, r1, r2⟩ := r
    exact ⟨v, q, e, r1, reps_ws r2⟩
theorem tup_sq {K : PySem.W.Frag} {m : List Addr} {A : AH} {H : Hp} {a : Addr} {vs : List V} (h : (Rd H a (.tup vs) ∧ Fr m A a) ∨ (∀ H', SqT K H' a vs)) : SqT K H a vs := by
  rcases h with h | h
  · exact .inl h.1
  · exact h H
theorem lst_sq {K : PySem.W.Frag} {m : List Addr} {A : AH} {H : Hp} {a : Addr} {vs : List V} (h : (Rd H a (.lst vs) ∧ Fr m A a) ∨ (∀ H', SqL K H' a vs)) : SqL K H a vs := by
  rcases h with h | h
  · exact .inl h.1
  · exact h H
theorem sg_tup {es : List Expr} {q n : Nat} {sl : List Nat} {h : DenGs} (h1 : SGs C es sl h) (hn : ∀ env : PySem.Env, (assignEach es env).length = n) (hst : ∀ env : PySem.Env, (assignEach es env).findIdx? (·.1) = none) : SG C (.Tuple es q pos) sl (dTup n h) := by
  refine ⟨fun w env A Q Q' k z => ?_, fun X hX => PG.weak (pg_tup hX.g.calm (h1.run X hX) (hn X.env) (hst X.env)) fun v σ H Q z => ?_⟩
  · unfold dTup at z ⊢
    split at z
    · exact ⟨z.1, h1.mono _ _ _ _ _ k z.2⟩
    · exact z.elim
  · obtain ⟨env, m, A, w, er, hr, r, z⟩ := z
    unfold dTup at z
    split at z
    · simp only [RepW, Rep] at r
      obtain ⟨p, vs, rfl, hq, r⟩ := r
      refine ⟨p, vs, rfl, by rw [hX.g.K]; exact tup_sq hq, by rw [← r.length]; exact z.1, env, m, A, _, er, hr, reps_ws r, z.2⟩
    · exact z.elim
def vAsg (f : Den) (g : DenG) : DenS := fun D env A => f env A fun w B => g w env B D.nx
theorem ss_asg {tg : Expr} {sl : List Nat} {g : DenG} (he : SE C e f) (hg : SG C tg sl g) (hs : ∀ env : PySem.Env, swapsWithSole [tg] e pos.line env = pure false) (hw : ∀ env : PySem.Env, swappedStores [tg] e env = pure none)
    (h1 : ∀ env : PySem.Env, (assignEach [tg] env).map (·.2) = [assign tg env]) : SS C (.Assign [tg] e pos) (vAsg f g) := by
  refine ⟨fun D D' env A k h => he.mono _ _ _ _ (fun w B z => hg.mono _ _ _ _ _ k.nx z) h, fun X hX => PS.weak (ps_asg (he.run X hX) (hg.run X hX) (hs X.env) (hw X.env) (h1 X.env)) fun D σ H z => ?_⟩
  obtain ⟨env, m, A, er, hr, h⟩ := z
  refine ⟨env, m, A, er, hr, he.mono _ _ _ _ (fun w B z v m' H' l h' r => ?_) h⟩
  exact ⟨env, m', B, w, er.lt l hr.len, h', r, hg.mono _ _ _ _ _ (fun e2 B2 z2 σ2 m2 H2 l2 hr2 er2 _ => z2 σ2 m2 H2 (l.trans hr.len l2) hr2 er2) z⟩
def vSet (i : Nat) (f : Den) : DenS := fun D env A => f env A fun w B => D.nx (env.set i (some w)) B
theorem ss_set {x : Str} {pos' : Pos} (i : Nat) (hi : C.N[i]? = some x) (hx : Loc C.sc x) (hf : C.top = true ∨ C.sc.names.lookup x = some .local) (he : SE C e f) (hs : ∀ env : PySem.Env, swapsWith e (some (.Name x pos')) pos.line env = pure false) : SS C (.Assign [.Name x pos'] e pos) (vSet i f) := by
  refine ⟨fun D D' env A k h => he.mono _ _ _ _ (fun w B z => k.nx _ _ z) h, fun X hX => PS.weak (ps_set (i := i) hX.nd (by rw [hX.N]; exact hi) (by rw [hX.sc]; exact hx) (he.run X hX) (hs X.env) ?_) fun D σ H z => ?_⟩
  · rcases hf with hf | hf
    · exact .inl (hX.fn hf x)
    · exact .inr (by rw [hX.sc]; exact hf)
  · obtain ⟨env, m, A, er, hr, h⟩ := z
    exact ⟨env, m, A, er, hr, he.mono _ _ _ _ (fun w B z v m' H' l h' r => z _ m' H' l h' ((er.lt l hr.len).set r)) h⟩

/-! ### a, b = e, f with plain local names -/
def vPar (i j : Nat) (g : DenA) : DenS := fun D env A => g env A fun ws B => match ws with
  | [v, w] => D.nx ((env.set i (some v)).set j (some w)) B
  | _ => False
theorem ss_par {x y : Str} {px py pt pt2 : Pos} {kt k2 : Nat} {g : DenA} (i j : Nat) (hi : C.N[i]? = some x) (hj : C.N[j]? = some y) (hij : i ≠ j) (hx : C.sc.names.lookup x = some .local) (hy : C.sc.names.lookup y = some .local) (ha : SA C [a, b] g)
    (hw : ∀ env : PySem.Env, env.scope = C.sc → swappedStores [.Tuple [.Name x px, .Name y py] kt pt] (.Tuple [a, b] k2 pt2) env = pure (some [x, y])) (hs : ∀ env : PySem.Env, swapsWithSole [.Tuple [.Name x px, .Name y py] kt pt] (.Tuple [a, b] k2 pt2) pos.line env = pure false) :
    SS C (.Assign [.Tuple [.Name x px, .Name y py] kt pt] (.Tuple [a, b] k2 pt2) pos) (vPar i j g) := by
  refine ⟨fun D D' env A k h => ha.mono _ _ _ _ (fun w B z => ?_) h, fun X hX => PS.weak (ps_par (i := i) (j := j) hX.g.calm hX.nd (by rw [hX.N]; exact hi) (by rw [hX.N]; exact hj) hij (by rw [hX.sc]; exact hx) (by rw [hX.sc]; exact hy) (ha.run X hX) (hw X.env hX.sc) (hs X.env)) fun D σ H z => ?_⟩
  · split at z
    · exact k.nx _ _ z
    · exact z.elim
  · obtain ⟨env, m, A, er, hr, h⟩ := z
    refine ⟨env, m, A, er, hr, ha.mono _ _ _ _ (fun ws B z vs m' H' l h' r => ?_) h⟩
    split at z
    · obtain ⟨v1, r1, rfl, q1, v2, r2, rfl, q2, e3⟩ := r
      obtain rfl : r2 = [] := e3
      exact ⟨v1, v2, rfl, z _ m' H' l h' (((er.lt l hr.len).set q1).set q2)⟩
    · exact z.elim

/-! ### while -/
def whD (D : Ed) (I : Nat → Env → AH → Prop) (k : Nat) : Ed := { nx := fun e B' => ∃ j, j < k ∧ I j e B', ct := fun e B' => ∃ j, j < k ∧ I j e B', bk := D.nx, rt := D.rt }
def vWhile (c : DenT) (t : DenS) : DenS := fun D env A => ∃ I : Nat → Env → AH → Prop, (∃ k, I k env A) ∧ ∀ k env A, I k env A →
  c env A fun b B => Cif b (t (whD D I k) env B) (D.nx env B)
theorem ss_while {xs : List Stmt} (hc : ST C c ft) (ht : SSs C xs t) : SS C (.While c xs [] pos) (vWhile ft t) := by
  refine ⟨fun D D' env A k h => ?_, fun X hX => PS.weak (ps_while (by rw [hX.g.nox]; exact PassesOwn.never) (hc.run X hX) (ht.run X hX)) fun D σ H z => ?_⟩
  · obtain ⟨I, h0, turn⟩ := h
    refine ⟨I, h0, fun j e B i => hc.mono _ _ _ _ (fun b B2 z => ?_) (turn j e B i)⟩
    cases b with
    | true => exact (Cif.yes (ht.mono (whD D I j) (whD D' I j) _ _ ⟨fun _ _ z => z, k.rt, k.nx, fun _ _ z => z⟩ (z.t rfl)))
    | false => exact (Cif.no (k.nx _ _ (z.f rfl)))
  · obtain ⟨env, m, A, er, hr, I, ⟨k0, i0⟩, turn⟩ := z
    refine ⟨fun n σ' H' => ∃ env' m' A', Lt m A H m' A' H' ∧ EnvR C.g.K C.g.T m' A' H' env' σ' ∧ HR C.g.K C.g.T m' A' H' ∧ I n env' A', ⟨k0, env, m, A, Lt.refl, er, hr, i0⟩, ?_⟩
    rintro n σ' H' ⟨env', m', A', l, er', hr', i'⟩
    refine ⟨env', m', A', er', hr', hc.mono _ _ _ _ (fun b B z m2 H2 l2 hr2 => ?_) (turn n env' A' i')⟩
    cases b with
    | true =>
      refine ⟨fun σ3 H3 => ∃ j, j < n ∧ ∃ env' m' A', Lt m A H m' A' H3 ∧ EnvR C.g.K C.g.T m' A' H3 env' σ3 ∧ HR C.g.K C.g.T m' A' H3 ∧ I j env' A', fun σ3 H3 q => q, ?_⟩
      refine ⟨env', m2, B, er'.lt l2 hr'.len, hr2, ht.mono (whD (edOf C.g.K C.g.T D m A H) I n) _ _ _ ⟨fun e B3 z σ3 m3 H3 l3 hr3 er3 => ?_, fun e B3 z σ3 m3 H3 l3 hr3 er3 => ?_, fun e B3 z σ3 m3 H3 l3 hr3 er3 => ?_, fun e B3 z σ3 m3 H3 l3 hr3 er3 => ?_⟩ (z.t rfl)⟩
      · obtain ⟨j, hj, ij⟩ := z
        exact ⟨j, hj, e, m3, B3, l.trans hr.len (l2.trans hr'.len l3), er3, hr3, ij⟩
      · exact z _ m3 H3 (l.trans hr.len (l2.trans hr'.len l3)) hr3 er3
      · exact z _ m3 H3 (l.trans hr.len (l2.trans hr'.len l3)) hr3 er3
      · obtain ⟨j, hj, ij⟩ := z
        exact ⟨j, hj, e, m3, B3, l.trans hr.len (l2.trans hr'.len l3), er3, hr3, ij⟩
    | false => exact (z.f rfl) _ m2 H2 (l.trans hr.len l2) hr2 (er'.lt l2 hr'.len)
end
end Hw
namespace Hw
open PySem L2

/-- a name of the module or a built-in, read in the body -/
def CGl (C : Ctx) (x : Str) : Prop := C.sc.names.lookup x = some .globalImplicit
section
variable {C : Ctx} {k : Nat} {e a b c tg iter elt : Expr} {f g : Den} {ft : DenT} {pos : Pos} {st : Stmt} {rest : List Stmt} {s t : DenS}
/-! ### what is walked -/
abbrev DenI := Env → AH → (List W → AH → Prop) → Prop
def MonI (f : DenI) : Prop := ∀ env A Q Q', (∀ ws B, Q ws B → Q' ws B) → f env A Q → f env A Q'
/-- J gives the items, one after another, whatever has happened since -/
structure Wk (K : PySem.W.Frag) (T : Tb) (J : It) (m : List Addr) (A : AH) (H : Hp) (ws : List W) : Prop where
  go : ∀ i m' A' H', Lt m A H m' A' H' → HR K T m' A' H' → i < ws.length → J.go i H'
  stop : ∀ m' A' H', Lt m A H m' A' H' → HR K T m' A' H' → J.stop ws.length H'
  yld : ∀ i m' A' H' x H'' w, Lt m A H m' A' H' → HR K T m' A' H' → ws[i]? = some w → J.yld i H' x H'' → Lt m' A' H' m' A' H'' ∧ HR K T m' A' H'' ∧ RepW K T m' A' H'' w x
def tI (K : PySem.W.Frag) (T : Tb) (fi : DenI) : TI := fun σ H R => ∃ env m A, EnvR K T m A H env σ ∧ HR K T m A H ∧
  fi env A fun ws A' => ∀ J m' H', Lt m A H m' A' H' → HR K T m' A' H' → Wk K T J m' A' H' ws → R J H'
structure SI (C : Ctx) (tg iter : Expr) (fi : DenI) : Prop where
  mono : MonI fi
  run : ∀ X, C.Has X → PI X tg iter (tI C.g.K C.g.T fi)
theorem PI.weak {X : Cx} {tg e : Expr} {t t' : TI} (h : PI X tg e t) (k : ∀ σ H R, t' σ H R → t σ H R) : PI X tg e t' := ⟨fun p s σ H R I z => h.run p s σ H R I (k σ H R z)⟩

/-- a list or a tuple: which one is told by the value -/
def vItems (f : Den) : DenI := fun env A Q => f env A fun w B => match w with
  | .t (.lst l) => Q (l.map .t) B
  | _ => False
def vItemsT (f : Den) : DenI := fun env A Q => f env A fun w B => match w with
  | .t (.tup l) => Q (l.map .t) B
  | _ => False
theorem reps_get {K : PySem.W.Frag} {T : Tb} {m : List Addr} {A : AH} {H : Hp} : ∀ {l : List D} {vs : List V} {i : Nat} {d : D}, Reps K T m A H l vs → l[i]? = some d → ∃ v, vs[i]? = some v ∧ Rep K T m A H d v
  | [], vs, i, d, r, e => by simp at e
  | x :: l, vs, 0, d, r, e => by
    simp only [Reps] at r
    obtain ⟨v, q, rfl, r1, _⟩ := r
    simp at e; subst e
    exact ⟨v, rfl, r1⟩
  | x :: l, vs, i + 1, d, r, e => by
    simp only [Reps] at r
    obtain ⟨v, q, rfl, _, r2⟩ := r
    obtain ⟨v', h1, h2⟩ := reps_get (i := i) r2 (by simpa using e)
    exact ⟨v', by simpa using h1, h2⟩
theorem sq_lt {K : PySem.W.Frag} {m m' : List Addr} {A A' : AH} {H H' : Hp} {a : Addr} {vs : List V} (l : Lt m A H m' A' H') (h : (Rd H a (.lst vs) ∧ Fr m A a) ∨ (∀ H', SqL K H' a vs)) : SqL K H' a vs := by
  rcases h with h | h
  · exact .inl (l.rd h.1 h.2)
  · exact h _
theorem sqT_lt {K : PySem.W.Frag} {m m' : List Addr} {A A' : AH} {H H' : Hp} {a : Addr} {vs : List V} (l : Lt m A H m' A' H') (h : (Rd H a (.tup vs) ∧ Fr m A a) ∨ (∀ H', SqT K H' a vs)) : SqT K H' a vs := by
  rcases h with h | h
  · exact .inl (l.rd h.1 h.2)
  · exact h _
theorem map_get {l : List D} {i : Nat} {w : W} (e : (l.map W.t)[i]? = some w) : ∃ d, l[i]? = some d ∧ w = .t d := by
  rw [List.getElem?_map] at e
  cases q : l[i]? with
  | none => simp only [q] at e; cases e
  | some d => rw [q] at e; exact ⟨d, rfl, (Option.some.inj e).symm⟩
theorem wk_list {K : PySem.W.Frag} {T : Tb} {m : List Addr} {A : AH} {H : Hp} {p : Addr} {vs : List V} {l : List D} (hl : m.length = A.length) (hq : (Rd H p (.lst vs) ∧ Fr m A p) ∨ (∀ H', SqL K H' p vs)) (r : Reps K T m A H l vs) : Wk K T (Itl K p) m A H (l.map .t) := by
  have hz := r.length
  refine ⟨fun i m' A' H' lt _ hi => ?_, fun m' A' H' lt _ => ?_, fun i m' A' H' x H'' w lt hr e y => ?_⟩
  · rw [List.length_map] at hi
    exact (walk_list (K := K) (a := p) (xs := vs)).goes i H' (by omega) (sq_lt lt hq)
  · rw [List.length_map, hz]
    exact (walk_list (K := K) (a := p) (xs := vs)).stops H' (sq_lt lt hq)
  · obtain ⟨d, e1, rfl⟩ := map_get e
    obtain ⟨v, h1, h2⟩ := reps_get r e1
    have hi : i < vs.length := (List.getElem?_eq_some_iff.mp h1).1
    obtain ⟨rfl, hx⟩ := (walk_list (K := K) (a := p) (xs := vs)).yields i H' x H'' hi (sq_lt lt hq) y
    rw [h1] at hx; cases hx
    exact ⟨Lt.refl, hr, Rep.lt lt hl _ _ h2⟩
theorem wk_tup {K : PySem.W.Frag} {T : Tb} {m : List Addr} {A : AH} {H : Hp} {p : Addr} {vs : List V} {l : List D} (hl : m.length = A.length) (hq : (Rd H p (.tup vs) ∧ Fr m A p) ∨ (∀ H', SqT K H' p vs)) (r : Reps K T m A H l vs) : Wk K T (Itt K p) m A H (l.map .t) := by
  have hz := r.length
  refine ⟨fun i m' A' H' lt _ hi => ?_, fun m' A' H' lt _ => ?_, fun i m' A' H' x H'' w lt hr e y => ?_⟩
  · rw [List.length_map] at hi
    exact (walk_tup (K := K) (a := p) (xs := vs)).goes i H' (by omega) (sqT_lt lt hq)
  · rw [List.length_map, hz]
    exact (walk_tup (K := K) (a := p) (xs := vs)).stops H' (sqT_lt lt hq)
  · obtain ⟨d, e1, rfl⟩ := map_get e
    obtain ⟨v, h1, h2⟩ := reps_get r e1
    have hi : i < vs.length := (List.getElem?_eq_some_iff.mp h1).1
    obtain ⟨rfl, hx⟩ := (walk_tup (K := K) (a := p) (xs := vs)).yields i H' x H'' hi (sqT_lt lt hq) y
    rw [h1] at hx; cases hx
    exact ⟨Lt.refl, hr, Rep.lt lt hl _ _ h2⟩
/-- over a list or a tuple, by the value: the reading of both -/
def vIt (f : Den) : DenI := fun env A Q => f env A fun w B => match w with
  | .t (.lst l) => Q (l.map .t) B
  | .t (.tup l) => Q (l.map .t) B
  | _ => False
theorem pi_any {X : Cx} {l : Expr} {tl : TE} (hl : PE X l tl) : PI X tg l (fun σ H R => tl σ H fun x H1 => ∃ p, x = .ref p ∧ (((∃ xs, SqL X.K H1 p xs) ∧ R (Itl X.K p) H1) ∨ ((∃ xs, SqT X.K H1 p xs) ∧ R (Itt X.K p) H1))) := by
  constructor
  intro q0 s0 σ H R I h
  refine thn (hl.run q0 s0 σ H _ I h) fun v s1 z => ?_
  obtain ⟨x, H1, I1, r1, p, rfl, z⟩ := z
  have hv : v = Value.ref p := r1
  subst hv
  rcases z with ⟨z1, z2⟩ | ⟨z1, z2⟩
  · obtain ⟨xs, hq⟩ := z1
    obtain ⟨its, rv, pl, hz⟩ := I1.list hq
    have fr0 : H1 s1.heap.objs.size = none := I1.hok.fresh (Nat.le_refl _)
    refine wpAny_pyIter_list pl.isList ⟨s1.heap.objs.size, [s1.heap.objs.size], _, _, H1, rfl, I1.kept (t' := s1.toks) (fun b o e => Heap.get?_push_of_some _ e), turn_list p _, ⟨_, Heap.get?_push_size _ rfl, rfl, rfl⟩, ?_, z2⟩
    intro b hb
    obtain rfl := List.mem_singleton.mp hb
    exact I1.fpOk (Nat.le_refl _) fr0
  · obtain ⟨xs, hq⟩ := z1
    obtain ⟨its, rv, pl, hz⟩ := I1.tuple hq
    have fr0 : H1 s1.heap.objs.size = none := I1.hok.fresh (Nat.le_refl _)
    refine wpAny_pyIter_tuple (show s1.heap.IsTuple p its.toArray from pl) ⟨s1.heap.objs.size, [s1.heap.objs.size], _, _, H1, rfl, I1.kept (t' := s1.toks) (fun b o e => Heap.get?_push_of_some _ e), turn_tuple p _, ⟨_, Heap.get?_push_size _ rfl, rfl, rfl⟩, ?_, z2⟩
    intro b hb
    obtain rfl := List.mem_singleton.mp hb
    exact I1.fpOk (Nat.le_refl _) fr0
theorem si_any (he : SE C e f) : SI C tg e (vIt f) := by
  refine ⟨fun env A Q Q' k h => he.mono _ _ _ _ (fun w B z => ?_) h, fun X hX => PI.weak (pi_any (he.run X hX)) fun σ H R z => ?_⟩
  · split at z
    · exact k _ _ z
    · exact k _ _ z
    · exact z.elim
  · obtain ⟨env, m, A, er, hr, h⟩ := z
    refine ⟨env, m, A, er, hr, he.mono _ _ _ _ (fun w B z v m' H' l h' r => ?_) h⟩
    split at z
    · simp only [RepW, Rep] at r
      obtain ⟨p, vs, rfl, hq, r⟩ := r
      rw [hX.g.K]
      exact ⟨p, rfl, .inl ⟨⟨vs, lst_sq hq⟩, z _ m' H' l h' (wk_list h'.len hq r)⟩⟩
    · simp only [RepW, Rep] at r
      obtain ⟨p, vs, rfl, hq, r⟩ := r
      rw [hX.g.K]
      exact ⟨p, rfl, .inr ⟨⟨vs, tup_sq hq⟩, z _ m' H' l h' (wk_tup h'.len hq r)⟩⟩
    · exact z.elim
/-- the ints from lo on, n of them -/
def ups (lo : Int) (n : Nat) : List W := (List.range n).map fun (i : Nat) => W.t (.int (lo + (i : Int)))
theorem ups_len {lo : Int} {n : Nat} : (ups lo n).length = n := by simp [ups]
theorem wk_range {K : PySem.W.Frag} {T : Tb} {m : List Addr} {A : AH} {H : Hp} {lo : Int} {n : Nat} : Wk K T (Itr lo n) m A H (ups lo n) := by
  refine ⟨fun i m' A' H' lt _ hi => ?_, fun m' A' H' lt _ => ?_, fun i m' A' H' x H'' w lt hr e y => ?_⟩
  · exact (walk_range (lo := lo) (n := n)).goes i H' (by rw [← ups_len (lo := lo) (n := n)]; exact hi) True.intro
  · rw [ups_len]; exact (walk_range (lo := lo) (n := n)).stops H' True.intro
  · have hi : i < n := by
      have := (List.getElem?_eq_some_iff.mp e).1
      rwa [ups_len] at this
    obtain ⟨rfl, rfl⟩ := (walk_range (lo := lo) (n := n)).yields i H' x H'' hi True.intro y
    refine ⟨Lt.refl, hr, ?_⟩
    have : w = .t (.int (lo + (i : Int))) := by
      unfold ups at e
      rw [List.getElem?_map, List.getElem?_range hi] at e
      exact (Option.some.inj e).symm
    subst this
    simp only [RepW, Rep]
def vRange1 (g : DenA) : DenI := fun env A Q => g env A fun ws B => match ws with
  | [.t (.int j)] => -(2 ^ 62) ≤ j ∧ j < 2 ^ 62 ∧ Q (ups 0 j.toNat) B
  | _ => False
theorem si_range1 {p : Pos} {g : DenA} (hg : CGl C "range") (hm : C.g.mg "range" = none) (ha : SA C [a] g) (hs : ∀ env : PySem.Env, starEach [a] env = [(false, eval a env)]) : SI C tg (.Call (.Name "range" p) [a] [] pos) (vRange1 g) := by
  refine ⟨fun env A Q Q' k h => ha.mono _ _ _ _ (fun w B z => ?_) h, fun X hX => PI.weak (pi_range1 (by show X.env.scope.names.lookup _ = _; rw [hX.sc]; exact hg) (by rw [hX.g.mg]; exact hm) (ha.run X hX) (hs X.env)) fun σ H R z => ?_⟩
  · split at z
    · exact ⟨z.1, z.2.1, k _ _ z.2.2⟩
    · exact z.elim
  · obtain ⟨env, m, A, er, hr, h⟩ := z
    refine ⟨env, m, A, er, hr, ha.mono _ _ _ _ (fun w B z v m' H' l h' r => ?_) h⟩
    split at z
    · obtain ⟨v1, r', rfl, q1, e2⟩ := r
      obtain rfl : r' = [] := e2
      simp only [RepW, Rep] at q1
      subst q1
      exact ⟨_, rfl, z.1, z.2.1, z.2.2 _ m' H' l h' wk_range⟩
    · exact z.elim
def vRange2 (g : DenA) : DenI := fun env A Q => g env A fun ws B => match ws with
  | [.t (.int i), .t (.int j)] => (-(2 ^ 62) ≤ i ∧ i < 2 ^ 62 ∧ -(2 ^ 62) ≤ j ∧ j < 2 ^ 62) ∧ Q (ups i (j - i).toNat) B
  | _ => False
theorem si_range2 {p : Pos} {g : DenA} (hg : CGl C "range") (hm : C.g.mg "range" = none) (ha : SA C [a, b] g) (hs : ∀ env : PySem.Env, starEach [a, b] env = [(false, eval a env), (false, eval b env)]) (hs2 : ∀ env : PySem.Env, starEach [b] env = [(false, eval b env)]) : SI C tg (.Call (.Name "range" p) [a, b] [] pos) (vRange2 g) := by
  refine ⟨fun env A Q Q' k h => ha.mono _ _ _ _ (fun w B z => ?_) h, fun X hX => PI.weak (pi_range2 (by show X.env.scope.names.lookup _ = _; rw [hX.sc]; exact hg) (by rw [hX.g.mg]; exact hm) (ha.run X hX) (hs X.env) (hs2 X.env)) fun σ H R z => ?_⟩
  · split at z
    · exact ⟨z.1, k _ _ z.2⟩
    · exact z.elim
  · obtain ⟨env, m, A, er, hr, h⟩ := z
    refine ⟨env, m, A, er, hr, ha.mono _ _ _ _ (fun w B z v m' H' l h' r => ?_) h⟩
    split at z
    · obtain ⟨v1, r', rfl, q1, v2, r2, rfl, q2, e2⟩ := r
      obtain rfl : r2 = [] := e2
      simp only [RepW, Rep] at q1 q2
      subst q1 q2
      exact ⟨_, _, rfl, z.1, z.2 _ m' H' l h' wk_range⟩
    · exact z.elim

/-! ### for -/
/-- what follows a turn -/
def forD (D : Ed) (N : Env → AH → Prop) : Ed := { nx := N, ct := N, bk := D.nx, rt := D.rt }
def forW (g : DenG) (t : DenS) (D : Ed) : List W → Env → AH → Prop
  | [], env, A => D.nx env A
  | w :: ws, env, A => g w env A fun e B => t (forD D (forW g t D ws)) e B
def vFor (fi : DenI) (g : DenG) (t : DenS) : DenS := fun D env A => fi env A fun ws B => forW g t D ws env B
theorem forW_mono {g : DenG} {t : DenS} (hg : MonG g) (ht : MonS t) {D D' : Ed} (k : EdLe D D') : ∀ (ws : List W) (env : Env) (A : AH), forW g t D ws env A → forW g t D' ws env A
  | [], env, A, h => k.nx _ _ h
  | w :: ws, env, A, h => hg _ _ _ _ _ (fun e B z => ht (forD D (forW g t D ws)) (forD D' (forW g t D' ws)) _ _ ⟨fun e B z => forW_mono hg ht k ws e B z, k.rt, k.nx, fun e B z => forW_mono hg ht k ws e B z⟩ z) h
theorem ss_for {xs : List Stmt} {sl : List Nat} {fi : DenI} {g : DenG} (hi : SI C tg iter fi) (hg : SG C tg sl g) (ht : SSs C xs t) (hs : ∀ (env : PySem.Env) x, foldedSetIterable iter env x = pure x) : SS C (.For tg iter xs [] pos) (vFor fi g t) := by
  refine ⟨fun D D' env A k h => hi.mono _ _ _ _ (fun ws B z => forW_mono hg.mono ht.mono k ws env B z) h, fun X hX => PS.weak (ps_for (by rw [hX.g.nox]; exact PassesOwn.never) hX.g.calm (hi.run X hX) (hg.run X hX) (ht.run X hX) (hs X.env)) fun D σ H z => ?_⟩
  obtain ⟨env, m, A, er, hr, h⟩ := z
  refine ⟨env, m, A, er, hr, hi.mono _ _ _ _ (fun ws B z J m1 H1 l1 hr1 wk => ?_) h⟩
  refine ⟨fun i n σ' H' => n = ws.length - i ∧ i ≤ ws.length ∧ ∃ env' m' A', Lt m1 B H1 m' A' H' ∧ EnvR C.g.K C.g.T m' A' H' env' σ' ∧ HR C.g.K C.g.T m' A' H' ∧ forW g t (edOf C.g.K C.g.T D m A H) (ws.drop i) env' A',
    ⟨ws.length, by simp, Nat.zero_le _, env, m1, B, Lt.refl, er.lt l1 hr.len, hr1, by rw [List.drop_zero]; exact z⟩, ?_⟩
  rintro i n σ' H' ⟨rfl, hi', env', m', A', l2, er2, hr2, w2⟩
  by_cases hlt : i < ws.length
  · rw [List.drop_eq_getElem_cons hlt] at w2
    refine .inr ⟨wk.go i m' A' H' l2 hr2 hlt, fun σ3 H3 => ∃ env' m' A', Lt m1 B H1 m' A' H3 ∧ EnvR C.g.K C.g.T m' A' H3 env' σ3 ∧ HR C.g.K C.g.T m' A' H3 ∧ forW g t (edOf C.g.K C.g.T D m A H) (ws.drop (i + 1)) env' A',
      fun σ3 H3 q => ⟨ws.length - (i + 1), by omega, rfl, hlt, q⟩, fun x H3 y => ?_⟩
    obtain ⟨l3, hr3, r3⟩ := wk.yld i m' A' H' x H3 ws[i] l2 hr2 (List.getElem?_eq_getElem hlt) y
    refine ⟨env', m', A', ws[i], er2.lt l3 hr2.len, hr3, r3, hg.mono _ _ _ _ _ (fun e4 B4 z4 σ4 m4 H4 l4 hr4 er4 _ => ?_) w2⟩
    have L4 := l2.trans hr1.len (l3.trans hr2.len l4)
    refine ⟨e4, m4, B4, er4, hr4, ht.mono (forD (edOf C.g.K C.g.T D m A H) (forW g t (edOf C.g.K C.g.T D m A H) (ws.drop (i + 1)))) _ _ _ ⟨fun e5 B5 z5 σ5 m5 H5 l5 hr5 er5 => ?_, fun e5 B5 z5 σ5 m5 H5 l5 hr5 er5 => ?_, fun e5 B5 z5 σ5 m5 H5 l5 hr5 er5 => ?_, fun e5 B5 z5 σ5 m5 H5 l5 hr5 er5 => ?_⟩ z4⟩
    · exact ⟨e5, m5, B5, L4.trans hr1.len l5, er5, hr5, z5⟩
    · exact z5 _ m5 H5 (l1.trans hr.len (L4.trans hr1.len l5)) hr5 er5
    · exact z5 _ m5 H5 (l1.trans hr.len (L4.trans hr1.len l5)) hr5 er5
    · exact ⟨e5, m5, B5, L4.trans hr1.len l5, er5, hr5, z5⟩
  · have e : i = ws.length := by omega
    subst e
    rw [List.drop_length] at w2
    exact .inl ⟨wk.stop m' A' H' l2 hr2, w2 σ' m' H' (l1.trans hr.len l2) hr2 er2⟩
end
end Hw
namespace Hw
open PySem L2

/-! ### cells forgotten -/
section
variable {K : PySem.W.Frag} {T : Tb} {m m2 : List Addr} {A : AH} {H : Hp}
theorem Fr.cut {a : Addr} (f : Fr (m ++ m2) A a) : Fr m (A.take m.length) a := by
  intro i hi
  have hl : i < m.length := (List.getElem?_eq_some_iff.mp hi).1
  rw [List.getElem?_take_of_lt hl]
  exact f i (by rw [List.getElem?_append_left hl]; exact hi)
mutual
theorem Rep.cut : ∀ (d : D) (v : V), Rep K T (m ++ m2) A H d v → Rep K T m (A.take m.length) H d v
  | .non, v, h => by simpa only [Rep] using h
  | .bl b, v, h => by simpa only [Rep] using h
  | .int i, v, h => by simpa only [Rep] using h
  | .str x, v, h => by simpa only [Rep] using h
  | .cls c, v, h => by simpa only [Rep] using h
  | .ty n, v, h => by simpa only [Rep] using h
  | .rat q, v, h => by
    simp only [Rep] at h ⊢
    obtain ⟨a, dx, e, h, f⟩ := h
    exact ⟨a, dx, e, h, f.cut⟩
  | .dic, v, h => by
    simp only [Rep] at h ⊢
    obtain ⟨a, e, h, f⟩ := h
    exact ⟨a, e, h, f.cut⟩
  | .tup ds, v, h => by
    simp only [Rep] at h ⊢
    obtain ⟨a, vs, e, h, r⟩ := h
    refine ⟨a, vs, e, ?_, Reps.cut ds vs r⟩
    rcases h with ⟨h, f⟩ | h
    · exact .inl ⟨h, f.cut⟩
    · exact .inr h
  | .lst ds, v, h => by
    simp only [Rep] at h ⊢
    obtain ⟨a, vs, e, h, r⟩ := h
    refine ⟨a, vs, e, ?_, Reps.cut ds vs r⟩
    rcases h with ⟨h, f⟩ | h
    · exact .inl ⟨h, f.cut⟩
    · exact .inr h
  | .ins c ds, v, h => by
    simp only [Rep] at h ⊢
    obtain ⟨a, dx, vs, e, h, hz, f, r⟩ := h
    exact ⟨a, dx, vs, e, h, hz, f.cut, Reps.cut ds vs r⟩
theorem Reps.cut : ∀ (ds : List D) (vs : List V), Reps K T (m ++ m2) A H ds vs → Reps K T m (A.take m.length) H ds vs
  | [], vs, h => by simpa only [Reps] using h
  | d :: ds, vs, h => by
    simp only [Reps] at h ⊢
    obtain ⟨v, r, e, h1, h2⟩ := h
    exact ⟨v, r, e, Rep.cut d v h1, Reps.cut ds r h2⟩
end
theorem RepFs.cut : ∀ (ds : List (Str × D)) (vs : List (Str × V)), RepFs K T (m ++ m2) A H ds vs → RepFs K T m (A.take m.length) H ds vs
  | [], vs, h => h
  | d :: ds, vs, h => by
    obtain ⟨v, r, e, h1, h2⟩ := h
    exact ⟨v, r, e, Rep.cut _ v h1, RepFs.cut ds r h2⟩
theorem RepO.cut {a : Addr} : ∀ (o : AO), RepO K T (m ++ m2) A H a o → RepO K T m (A.take m.length) H a o
  | .lst ds, ⟨vs, h1, h2⟩ => ⟨vs, h1, Reps.cut _ _ h2⟩
  | .ins c ds, ⟨dx, fs, h1, h2⟩ => ⟨dx, fs, h1, RepFs.cut _ _ h2⟩
theorem HR.cut (hr : HR K T (m ++ m2) A H) : HR K T m (A.take m.length) H := by
  have hl := hr.len
  rw [List.length_append] at hl
  refine ⟨by rw [List.length_take]; omega, (List.nodup_append.mp hr.nd).1, fun a ha => hr.dom a (List.mem_append_left _ ha), fun i a c h1 h2 => ?_⟩
  have hi : i < m.length := (List.getElem?_eq_some_iff.mp h1).1
  rw [List.getElem?_take_of_lt hi] at h2
  have := hr.cell i a c (by rw [List.getElem?_append_left hi]; exact h1) h2
  cases c with
  | live o => exact RepO.cut o this
  | lock o => exact RepO.cut o this
  | dead => exact True.intro
theorem Lt.cut {m0 m' : List Addr} {A0 A' : AH} {H0 H' : Hp} (l : Lt m0 A0 H0 m' A' H') (hl : m0.length = A0.length) : Lt m0 A0 H0 m0 (A'.take m0.length) H' := by
  have tk : ∀ (i : Nat) c, A0[i]? = some c → (A'.take m0.length)[i]? = A'[i]? := fun i c h => List.getElem?_take_of_lt (by rw [hl]; exact (List.getElem?_eq_some_iff.mp h).1)
  refine ⟨⟨[], by simp, by simp⟩, ?_, fun i h => by rw [tk i _ h]; exact l.dead i h, fun i o h => by rw [tk i _ h]; exact l.lock i o h, fun i o h => by rw [tk i _ h]; exact l.live i o h, l.keep, l.some_⟩
  rw [List.length_take]
  have := l.alen
  omega
end

/-! ### comprehensions -/
section
variable {C : Ctx} {k : Nat} {e a b c tg iter elt : Expr} {f g : Den} {ft : DenT} {pos : Pos}
structure STs (C : Ctx) (es : List Expr) (f : DenT) : Prop where
  mono : MonT f
  run : ∀ X, C.Has X → PTs X es (tT C.g.K C.g.T f)
theorem PTs.weak {X : Cx} {e : List Expr} {t t' : TT} (h : PTs X e t) (k : ∀ σ H Q, t' σ H Q → t σ H Q) : PTs X e t' := ⟨fun p s σ H Q I z => h.run p s σ H Q I (k σ H Q z)⟩
def vYes : DenT := fun _ A Q => Q true A
theorem sts_nil : STs C [] vYes := ⟨fun _ _ _ _ k h => k _ _ h, fun X hX => PTs.weak pts_nil fun σ H Q z => by
  obtain ⟨env, m, A, er, hr, h⟩ := z
  exact h m H Lt.refl hr⟩
theorem sts_one (h : ST C c ft) : STs C [c] ft := ⟨h.mono, fun X hX => pts_one (h.run X hX)⟩
/-- the comprehension's own names forgotten -/
def wipeE (env : Env) : List Nat → Env
  | [] => env
  | v :: vs => (wipeE env vs).set v none
theorem EnvR.wipe {K : PySem.W.Frag} {T : Tb} {m : List Addr} {A : AH} {H : Hp} {env : Env} {σ : St} (e : EnvR K T m A H env σ) : ∀ vs : List Nat, EnvR K T m A H (wipeE env vs) (L2.wipe σ vs)
  | [] => e
  | v :: vs => by
    have ih := EnvR.wipe e vs
    refine ⟨by unfold wipeE L2.wipe; rw [List.length_set, List.length_set]; exact ih.1, fun i w h => ?_⟩
    unfold wipeE at h
    unfold L2.wipe
    by_cases hj : v = i
    · subst hj
      have hi := (List.getElem?_eq_some_iff.mp h).1
      rw [List.length_set] at hi
      rw [List.getElem?_set_self hi] at h
      cases h
    · rw [List.getElem?_set_ne hj] at h ⊢
      exact ih.2 i w h
theorem wipe_get {σ : St} {j : Nat} : ∀ {vs : List Nat}, j ∉ vs → (L2.wipe σ vs)[j]? = σ[j]?
  | [], _ => rfl
  | v :: vs, h => by
    unfold L2.wipe
    have hh := not_or.mp (fun z => h (List.mem_cons.2 z))
    rw [List.getElem?_set_ne (Ne.symm hh.1)]
    exact wipe_get hh.2
theorem wipe_in {σ : St} {j : Nat} (hj : j < σ.length) : ∀ {vs : List Nat}, j ∈ vs → (L2.wipe σ vs)[j]? = some none
  | v :: vs, h => by
    unfold L2.wipe
    by_cases e : v = j
    · subst e
      exact List.getElem?_set_self (by rw [wipe_length]; exact hj)
    · rw [List.getElem?_set_ne e]
      rcases List.mem_cons.mp h with h | h
      · exact absurd h.symm e
      · exact wipe_in hj h
theorem wipe_ch {σ σ2 : St} {vs sl : List Nat} (hs : ∀ j ∈ sl, j ∈ vs) (ch : Ch sl (L2.wipe σ vs) σ2) : L2.wipe σ2 vs = L2.wipe σ vs := by
  have hl : σ2.length = σ.length := by rw [ch.1, wipe_length]
  apply List.ext_getElem?; intro j
  by_cases hj : j ∈ vs
  · by_cases hlt : j < σ.length
    · rw [wipe_in (by rw [hl]; exact hlt) hj, wipe_in hlt hj]
    · rw [List.getElem?_eq_none (by rw [wipe_length]; omega), List.getElem?_eq_none (by rw [wipe_length]; omega)]
  · rw [wipe_get hj, ch.2 j fun q => hj (hs j q)]
def lcPut (n0 : Nat) (y : W) (A : AH) (Kn : AH → Prop) : Prop := match y, A[n0]? with
  | .t d, some (.live (.lst acc)) => acc.length < 400 ∧ Kn (A.set n0 (.live (.lst (acc ++ [d]))))
  | _, _ => False
def lcW (n0 : Nat) (g : DenG) (t : DenT) (el : Den) (env : Env) : List W → AH → (AH → Prop) → Prop
  | [], A, Kn => Kn A
  | w :: ws, A, Kn => g w env A fun e1 A1 => t e1 A1 fun b A2 => Cif b (el e1 A2 fun y A3 => lcPut n0 y A3 fun A4 => lcW n0 g t el env ws A4 Kn) (lcW n0 g t el env ws A2 Kn)
def lcEnd (n0 : Nat) (Q : WK) (B : AH) : Prop := match B[n0]? with
  | some (.live (.lst l)) => Q (.t (.lst l)) (B.take n0)
  | _ => False
def vLc (fi : DenI) (g : DenG) (t : DenT) (el : Den) (vs : List Nat) : Den := fun env A Q => fi env A fun ws B => lcW B.length g t el (wipeE env vs) ws (B ++ [.live (.lst [])]) (lcEnd B.length Q)
theorem lcPut_mono {n0 : Nat} {y : W} {A : AH} {Kn Kn' : AH → Prop} (k : ∀ B, Kn B → Kn' B) (h : lcPut n0 y A Kn) : lcPut n0 y A Kn' := by
  unfold lcPut at h ⊢
  split at h
  · exact ⟨h.1, k _ h.2⟩
  · exact h.elim
theorem lcW_mono {n0 : Nat} {g : DenG} {t : DenT} {el : Den} {env : Env} (hg : MonG g) (ht : MonT t) (he : MonE el) {Kn Kn' : AH → Prop} (k : ∀ B, Kn B → Kn' B) : ∀ (ws : List W) (A : AH), lcW n0 g t el env ws A Kn → lcW n0 g t el env ws A Kn'
  | [], A, h => k _ h
  | w :: ws, A, h => hg _ _ _ _ _ (fun e1 A1 z => ht _ _ _ _ (fun b A2 z => by
    cases b with
    | true => exact Cif.yes (he _ _ _ _ (fun y A3 z => lcPut_mono (fun B z => lcW_mono hg ht he k ws B z) z) (z.t rfl))
    | false => exact Cif.no (lcW_mono hg ht he k ws A2 (z.f rfl))) z) h
theorem lcEnd_mono {n0 : Nat} {Q Q' : WK} (k : ∀ w B, Q w B → Q' w B) (B : AH) (h : lcEnd n0 Q B) : lcEnd n0 Q' B := by
  unfold lcEnd at h ⊢
  split at h
  · exact k _ _ h
  · exact h.elim
/-- the block's place -/
@[reducible] def Ctx.blk (C : Ctx) (scope : Scope) : Ctx := { C with sc := relS scope C.sc, top := false }
theorem blk_has {X : Cx} (hX : C.Has X) {scope : Scope} (s : Shared) (H : Hp) (Cc : Addr) (cl : List (Str × Addr)) (fp : List Addr) (hk : C.sc.kind = .function) : (C.blk scope).Has (X.blk s H scope (compEnvC scope cl Cc X.env) fp) := by
  refine ⟨⟨hX.g.P, hX.g.w, hX.g.K, hX.g.mg, hX.g.base, hX.g.calm, hX.g.room, rfl, hX.g.grd⟩, hX.N, ?_, hX.nd, fun h => nomatch h⟩
  show relabel scope X.env = relS scope C.sc
  unfold relabel relS
  rw [← hX.sc]
  rfl
theorem lt_app {K : PySem.W.Frag} {T : Tb} {m m' : List Addr} {A A' : AH} {H H' : Hp} {i : Nat} {p : Addr} (l : Lt m A H m' A' H') (hm : m[i]? = some p) : m'[i]? = some p := l.mget hm
/-- a live cell's object is written -/
theorem Lt.put {m : List Addr} {A : AH} {H : Hp} {i : Nat} {p : Addr} {o o' : AO} {u : HO} (nd : m.Nodup) (hm : m[i]? = some p) (hA : A[i]? = some (.live o)) : Lt m A H m (A.set i (.live o')) (upd H p u) := by
  have hi := (List.getElem?_eq_some_iff.mp hA).1
  have ne : ∀ (j : Nat) c, A[j]? = some c → (∀ o, c ≠ .live o) → (A.set i (.live o'))[j]? = some c := fun j c h hn => by
    by_cases e : i = j
    · subst e; rw [hA] at h; cases h; exact absurd rfl (hn o)
    · rw [List.getElem?_set_ne e]; exact h
  refine ⟨⟨[], by simp, by simp⟩, by simp, fun j h => ne j _ h (fun o z => nomatch z), fun j o h => ne j _ h (fun o z => nomatch z), fun j o2 h => ?_, fun b w e n => ?_, fun b w e => ?_⟩
  · by_cases e : i = j
    · subst e; exact .inl ⟨o', List.getElem?_set_self hi⟩
    · rw [List.getElem?_set_ne e]; exact .inl ⟨o2, h⟩
  · have : b ≠ p := fun q => by subst q; exact n i hm (by rw [hA]; exact True.intro)
    rw [upd_ne this]; exact e
  · by_cases q : b = p
    · subst q; exact ⟨u, upd_same⟩
    · exact ⟨w, by rw [upd_ne q]; exact e⟩
theorem HR.put {K : PySem.W.Frag} {T : Tb} {m : List Addr} {A : AH} {H : Hp} {i : Nat} {p : Addr} {o o' : AO} {u : HO} (hr : HR K T m A H) (hm : m[i]? = some p) (hA : A[i]? = some (.live o)) (ro : RepO K T m (A.set i (.live o')) (upd H p u) p o') : HR K T m (A.set i (.live o')) (upd H p u) := by
  have hi := (List.getElem?_eq_some_iff.mp hA).1
  refine ⟨by rw [List.length_set]; exact hr.len, hr.nd, fun a ha => ?_, fun j a c h1 h2 => ?_⟩
  · obtain ⟨w, e⟩ := hr.dom a ha
    by_cases q : a = p
    · subst q; exact ⟨u, upd_same⟩
    · exact ⟨w, by rw [upd_ne q]; exact e⟩
  · by_cases e : i = j
    · subst e
      rw [List.getElem?_set_self hi] at h2
      rw [hm] at h1
      cases h1; cases h2
      exact ro
    · rw [List.getElem?_set_ne e] at h2
      have nap : a ≠ p := fun q => e (by
        subst q
        obtain ⟨h3, e3⟩ := List.getElem?_eq_some_iff.mp h1
        obtain ⟨h4, e4⟩ := List.getElem?_eq_some_iff.mp hm
        exact (List.getElem_inj hr.nd).mp (e4.trans e3.symm))
      exact RepC.lt (Lt.put hr.nd hm hA) hr.len (upd_ne nap) c (hr.cell j a c h1 h2)
theorem lc_common {K : PySem.W.Frag} {T : Tb} {fi : DenI} {gd : DenG} {el : Den} {vs sl : List Nat} {X : Cx} (hmi : MonI fi) (hmg : MonG gd) (hmt : MonT ft) (hme : MonE el) (hs : ∀ j ∈ sl, j ∈ vs) {σ : St} {H : Hp} {Q : VK} (z : tE K T (vLc fi gd ft el vs) σ H Q) :
    tLc (tI K T fi) (tG K T sl gd) (tT K T ft) (tE K T el) vs σ H Q := by
  obtain ⟨env, m, A, er, hr, h⟩ := z
  refine ⟨env, m, A, er, hr, hmi _ _ _ _ (fun ws B z J m1 H1 l1 hr1 wk Dp hD => ?_) h⟩
  -- the new list is a cell of its own
  have lD := Lt.cell (u := .lst []) (.lst []) hr1.len hD
  have hrD : HR K T (m1 ++ [Dp]) (B ++ [.live (.lst [])]) (upd H1 Dp (.lst [])) := hr1.newCell hD ⟨[], upd_same, by simp only [Reps]⟩
  have erD : EnvR K T (m1 ++ [Dp]) (B ++ [.live (.lst [])]) (upd H1 Dp (.lst [])) (wipeE env vs) (L2.wipe σ vs) := ((er.lt l1 hr.len).lt lD hr1.len).wipe vs
  have hDm : (m1 ++ [Dp])[B.length]? = some Dp := by rw [← hr1.len]; simp
  generalize hm0 : m1 ++ [Dp] = m0 at *
  generalize hA0 : B ++ [Cell.live (.lst [])] = A0 at *
  generalize hH0 : upd H1 Dp (.lst []) = H0 at *
  refine ⟨fun i n H' => n = ws.length - i ∧ i ≤ ws.length ∧ ∃ m' A', Lt m0 A0 H0 m' A' H' ∧ HR K T m' A' H' ∧ lcW B.length gd ft el (wipeE env vs) (ws.drop i) A' (lcEnd B.length fun w A' => ∀ v m' H', Lt m A H m' A' H' → HR K T m' A' H' → RepW K T m' A' H' w v → Q v H'),
    ⟨ws.length, by simp, Nat.zero_le _, m0, A0, Lt.refl, hrD, by rw [List.drop_zero]; exact z⟩, ?_⟩
  rintro i n H' ⟨rfl, hi', m', A', l2, hr2, w2⟩
  have l12 : Lt m1 B H1 m' A' H' := lD.trans hr1.len l2
  by_cases hlt : i < ws.length
  · rw [List.drop_eq_getElem_cons hlt] at w2
    refine .inr ⟨wk.go i m' A' H' l12 hr2 hlt, fun H3 => ∃ m' A', Lt m0 A0 H0 m' A' H3 ∧ HR K T m' A' H3 ∧ lcW B.length gd ft el (wipeE env vs) (ws.drop (i + 1)) A' (lcEnd B.length fun w A' => ∀ v m' H', Lt m A H m' A' H' → HR K T m' A' H' → RepW K T m' A' H' w v → Q v H'),
      fun H3 q => ⟨ws.length - (i + 1), by omega, rfl, hlt, q⟩, fun x H3 y => ?_⟩
    obtain ⟨l3, hr3, r3⟩ := wk.yld i m' A' H' x H3 ws[i] l12 hr2 (List.getElem?_eq_getElem hlt) y
    refine ⟨wipeE env vs, m', A', ws[i], (erD.lt l2 hrD.len).lt l3 hr2.len, hr3, r3, hmg _ _ _ _ _ (fun e4 B4 z4 σ4 m4 H4 l4 hr4 er4 ch4 => ?_) w2⟩
    refine ⟨wipe_ch hs ch4, e4, m4, B4, er4, hr4, hmt _ _ _ _ (fun bb B5 z5 m5 H5 l5 hr5 => ?_) z4⟩
    have L5 := l2.trans hrD.len (l3.trans hr2.len (l4.trans hr3.len l5))
    cases bb with
    | false => exact ⟨m5, B5, L5, hr5, z5.f rfl⟩
    | true =>
      refine ⟨e4, m5, B5, er4.lt l5 hr4.len, hr5, hme _ _ _ _ (fun yw B6 z6 v6 m6 H6 l6 hr6 r6 => ?_) (z5.t rfl)⟩
      have L6 := L5.trans hrD.len l6
      have hp6 : m6[B.length]? = some Dp := L6.mget hDm
      unfold lcPut at z6
      split at z6
      · rename_i d acc hc
        obtain ⟨vs6, hv6, rp6⟩ := hr6.cell _ _ _ hp6 hc
        have hz : acc.length < 400 := z6.1
        refine ⟨vs6, hv6, by rw [← rp6.length]; exact Nat.lt_of_lt_of_le hz (len400 (Nat.le_refl _)), ?_⟩
        have l7 : Lt m6 B6 H6 m6 (B6.set B.length (.live (.lst (acc ++ [d])))) (upd H6 Dp (.lst (vs6 ++ [v6]))) := Lt.put hr6.nd hp6 hc
        refine ⟨m6, _, L6.trans hrD.len l7, hr6.put hp6 hc ⟨vs6 ++ [v6], upd_same, ?_⟩, z6.2⟩
        have ra : ∀ {l1 : List D} {v1 : List V}, Reps K T m6 (B6.set B.length (.live (.lst (acc ++ [d])))) (upd H6 Dp (.lst (vs6 ++ [v6]))) l1 v1 → Rep K T m6 (B6.set B.length (.live (.lst (acc ++ [d])))) (upd H6 Dp (.lst (vs6 ++ [v6]))) d v6 → Reps K T m6 (B6.set B.length (.live (.lst (acc ++ [d])))) (upd H6 Dp (.lst (vs6 ++ [v6]))) (l1 ++ [d]) (v1 ++ [v6]) := by
          intro l1
          induction l1 with
          | nil => intro v1 h1 h2; simp only [Reps] at h1; subst h1; simp only [List.nil_append, Reps]; exact ⟨v6, [], rfl, h2, rfl⟩
          | cons x l1 ih => intro v1 h1 h2; simp only [Reps] at h1; obtain ⟨v, q, rfl, h3, h4⟩ := h1; simp only [List.cons_append, Reps]; exact ⟨v, q ++ [v6], rfl, h3, ih h4 h2⟩
        exact ra (Reps.lt l7 hr6.len _ _ rp6) (RepW.lt l7 hr6.len (.t d) _ r6)
      · exact z6.elim
  · have e : i = ws.length := by omega
    subst e
    rw [List.drop_length] at w2
    refine .inl ⟨wk.stop m' A' H' l12 hr2, ?_⟩
    have w2 : lcEnd B.length _ A' := w2
    unfold lcEnd at w2
    split at w2
    · rename_i l hc
      have hp : m'[B.length]? = some Dp := l2.mget hDm
      obtain ⟨m2, e2, _⟩ := l12.pre
      subst e2
      obtain ⟨vs2, hv2, rp2⟩ := hr2.cell _ _ _ hp hc
      have hc1 := hr2.cut
      rw [← hr1.len] at w2
      refine w2 (.ref Dp) m1 H' (l1.trans hr.len (l12.cut hr1.len)) hc1 ?_
      simp only [RepW, Rep]
      exact ⟨Dp, vs2, rfl, .inl ⟨.inl hv2, Fr.of_notin (hr1.notin hD)⟩, Reps.cut _ _ rp2⟩
    · exact w2.elim
theorem se_lc {ifs : List Expr} {scope : Scope} {own : List (Str × Nat)} {fi : DenI} {gd : DenG} {el : Den} {sl : List Nat} (hk : C.sc.kind = .function) (ok : blkC C.N C.sc scope own = true) (hi : SI C tg iter fi) (hg : SG (C.blk scope) tg sl gd) (ht : STs (C.blk scope) ifs ft) (he : SE (C.blk scope) elt el)
    (hs : ∀ j ∈ sl, j ∈ own.map (·.2)) (hf : ∀ (env : PySem.Env) x, foldedSetIterable iter env x = pure x) : SE C (.ListComp elt [⟨tg, iter, ifs, 0⟩] scope pos) (vLc fi gd ft el (own.map (·.2))) := by
  refine ⟨fun env A Q Q' k h => hi.mono _ _ _ _ (fun ws B z => lcW_mono hg.mono ht.mono he.mono (lcEnd_mono k) ws _ z) h, fun X hX => PE.weak (pe_lc (own := own) hX.g.calm hX.nd (hi.run X hX) (blkOk_by (by rw [hX.N, hX.sc]; exact ok)) (fun s H Cc cl fp => hg.run _ (blk_has hX s H Cc cl fp hk)) (fun s H Cc cl fp => ht.run _ (blk_has hX s H Cc cl fp hk)) (fun s H Cc cl fp => he.run _ (blk_has hX s H Cc cl fp hk)) (hf X.env)) fun σ H Q z => ?_⟩
  exact lc_common (X := X) hi.mono hg.mono ht.mono he.mono hs z
theorem ss_setLc {y : Str} {py spos : Pos} {ifs : List Expr} {scope : Scope} {own : List (Str × Nat)} {fi : DenI} {gd : DenG} {el : Den} {sl : List Nat} (i : Nat) (hy : C.N[i]? = some y) (hyl : C.sc.names.lookup y = some .local) (hk : C.sc.kind = .function) (ok : blkC C.N C.sc scope own = true) (hi : SI C tg iter fi) (hg : SG (C.blk scope) tg sl gd) (ht : STs (C.blk scope) ifs ft) (he : SE (C.blk scope) elt el)
    (hs : ∀ j ∈ sl, j ∈ own.map (·.2)) (hf : ∀ (env : PySem.Env) x, foldedSetIterable iter env x = pure x) (hl : (py.line == pos.line) = true) (hn : (scope.names.any fun (n, k) => n == y && (k == .local || k == .cell)) = false) : SS C (.Assign [.Name y py] (.ListComp elt [⟨tg, iter, ifs, 0⟩] scope pos) spos) (vSet i (vLc fi gd ft el (own.map (·.2)))) := by
  refine ⟨fun D D' env A k h => hi.mono _ _ _ _ (fun ws B z => lcW_mono hg.mono ht.mono he.mono (lcEnd_mono fun w B z => k.nx _ _ z) ws _ z) h, fun X hX => PS.weak (ps_setLc (i := i) (own := own) hX.g.calm hX.nd (by rw [hX.N]; exact hy) (by rw [hX.sc]; exact hyl) (sw_true (by rw [hX.sc]; exact hk) (by rw [hX.sc]; exact hyl) hl hn) (hi.run X hX) (blkOk_by (by rw [hX.N, hX.sc]; exact ok)) (fun s H Cc cl fp => hg.run _ (blk_has hX s H Cc cl fp hk)) (fun s H Cc cl fp => ht.run _ (blk_has hX s H Cc cl fp hk)) (fun s H Cc cl fp => he.run _ (blk_has hX s H Cc cl fp hk)) (hf X.env)) fun D σ H z => ?_⟩
  obtain ⟨env, m, A, er, hr, h⟩ := z
  refine lc_common (X := X) hi.mono hg.mono ht.mono he.mono hs ⟨env, m, A, er, hr, ?_⟩
  refine hi.mono _ _ _ _ (fun ws B z => lcW_mono hg.mono ht.mono he.mono (lcEnd_mono fun w B2 z2 v m2 H2 l2 hr2 r2 => ?_) ws _ z) h
  exact z2 (σ.set i (some v)) m2 H2 l2 hr2 ((er.lt l2 hr.len).set r2)
end
end Hw
namespace Hw
open PySem L2 PyProof.Rows

/-! ### defs: their promises -/
/-- the def at f, called, does what S says -/
def Run (G : Gc) (k : Nat) (f : Addr) (fd : FuncData) (ps : List Str) (S : OL) : Prop :=
  ∀ (Ar : Around) (outer : List PySem.Env) (s : Shared) (H : Hp) (args : Args) (us : List Value) (vs : List V) (Q : VK), Room k Ar → (G.gd = true → Ar.guards = some []) → Env0 G.P G.w G.K G.mg G.base Ar outer s H → BindsTo s fd args (ps.zip us) → Vals vs us →
    vs.length = ps.length → tRL G.K G.T S vs H Q → codeAny (model G.P G.w) Ar (.call (.ref f) args) (fun r s' => match r with
      | .ok (.ret u) => CE outer G.P G.w H s Q u s'
      | _ => False) s
structure Fn (G : Gc) (k : Nat) (f : Addr) (fd : FuncData) (ps : List Str) (S : OL) : Prop where
  mono : MonL S
  ok : Run G k f fd ps S
  kp : PySem.W.keepIn G.K (.ref f) = true
theorem Fn.weak {G : Gc} {k : Nat} {f : Addr} {fd : FuncData} {ps : List Str} {S S' : OL} (F : Fn G k f fd ps S) (hm : MonL S') (h : ∀ ws A Q, S' ws A Q → S ws A Q) : Fn G k f fd ps S' :=
  ⟨hm, fun Ar outer s H args us vs Q h1 hg h2 h3 h4 h5 z => F.ok Ar outer s H args us vs Q h1 hg h2 h3 h4 h5 (by obtain ⟨m, A, ws, a, b, c⟩ := z; exact ⟨m, A, ws, a, b, h _ _ _ c⟩), F.kp⟩
theorem Fn.up {G : Gc} {k j : Nat} {f : Addr} {fd : FuncData} {ps : List Str} {S : OL} (F : Fn G k f fd ps S) (h : k ≤ j) : Fn G j f fd ps S := ⟨F.mono, fun Ar outer s H args us vs Q h1 => F.ok Ar outer s H args us vs Q (h1.mono h), F.kp⟩

def startE (N : List Str) (ws : List W) : Env := ws.map some ++ List.replicate (N.length - ws.length) none
/-- a value handed back: what was made on the way is forgotten, a new list is a tree from now on -/
def retW (n : Nat) (Q : WK) (w : W) (B : AH) : Prop := match w with
  | .t d => Q (.t d) (B.take n)
  | .loc j => if j < n then Q (.loc j) (B.take n) else match B[j]? with
    | some (.live (.lst l)) => Q (.t (.lst l)) (B.take n)
    | _ => False
def retD0 (n : Nat) (Q : WK) : Ed := { nx := fun _ B => Q (.t .non) (B.take n), rt := retW n Q }
/-- .. kept: a new cell goes on -/
def retK0 (Q : WK) : Ed := { nx := fun _ B => Q (.t .non) B, rt := Q }

theorem RepWs.length {K : PySem.W.Frag} {T : Tb} {m : List Addr} {A : AH} {H : Hp} : ∀ {l : List W} {vs : List V}, RepWs K T m A H l vs → l.length = vs.length
  | [], vs, r => by
    have e : vs = [] := r
    rw [e]; rfl
  | d :: l, vs, r => by
    obtain ⟨v, q, e, _, r2⟩ := r
    rw [e, List.length_cons, List.length_cons, RepWs.length r2]
theorem RepWs.get {K : PySem.W.Frag} {T : Tb} {m : List Addr} {A : AH} {H : Hp} : ∀ {l : List W} {vs : List V} {i : Nat} {w : W}, RepWs K T m A H l vs → l[i]? = some w → ∃ v, vs[i]? = some v ∧ RepW K T m A H w v
  | [], vs, i, w, r, e => by simp at e
  | x :: l, vs, 0, w, r, e => by
    obtain ⟨v, q, rfl, r1, _⟩ := r
    simp at e; subst e
    exact ⟨v, rfl, r1⟩
  | x :: l, vs, i + 1, w, r, e => by
    obtain ⟨v, q, rfl, _, r2⟩ := r
    obtain ⟨v', h1, h2⟩ := RepWs.get (i := i) r2 (by simpa using e)
    exact ⟨v', by simpa using h1, h2⟩
theorem envR_start {K : PySem.W.Frag} {T : Tb} {m : List Addr} {A : AH} {H : Hp} {N : List Str} {ws : List W} {vs : List V} (r : RepWs K T m A H ws vs) : EnvR K T m A H (startE N ws) (L2.start N vs) := by
  have hz := r.length
  refine ⟨by unfold startE L2.start; simp [hz], fun i w h => ?_⟩
  unfold startE at h
  unfold L2.start
  by_cases hi : i < ws.length
  · rw [List.getElem?_append_left (by simpa using hi), List.getElem?_map] at h
    rw [List.getElem?_append_left (by simpa [← hz] using hi), List.getElem?_map]
    cases q : ws[i]? with
    | none => rw [q] at h; cases h
    | some w' =>
      rw [q] at h
      cases h
      obtain ⟨v, h1, h2⟩ := RepWs.get r q
      exact ⟨v, by rw [h1]; rfl, h2⟩
  · rw [List.getElem?_append_right (by simpa using hi), List.getElem?_replicate] at h
    split at h <;> cases h
/-- a def runs its body -/
theorem fn_run {G : Gc} {x qual : Str} {params : Arguments} {body : List Stmt} {scope : Scope} {dvs : List V} {f : Addr} {fd : FuncData} {N ps : List Str} {k : Nat} {S : OL} (F : FunD G.K x qual params body scope dvs [] f fd) (sc : FnScope N ps scope)
    (hb : ∀ (cdv : Value) (Ar : Around) (outer : List PySem.Env) (s : Shared) (H : Hp) (vs : List V) (Q : VK), Room k (Ar.deeper (envOfC qual scope s.heap.objs.size f cdv)) → (G.gd = true → Ar.guards = some []) → vs.length = ps.length → tRL G.K G.T S vs H Q →
      ∃ t, PSs (cxOf CX0 G.P G.w G.K G.mg G.base N qual scope f cdv Ar outer s H E0).nox body t ∧ t { nx := fun _ H' => Q .non H', rt := Q } (L2.start N vs) H) : Run G (k + 1) f fd ps S := by
  obtain ⟨oc, od, dV, kV, doc, pm, an, cdv, ct, osl, rfl, look, code, _, _⟩ := F.ex
  intro Ar outer s H args us vs Q room hgd at0 bind rv hl hS
  have inK : G.K.In s.heap := at0.mod.kin.keeps fun b o e => (at0.bs b o e).1
  have nl : s.heap.NoLimit := at0.mod.nolimit.keeps fun b o e => (at0.bs b o e).1
  have kinds : ∀ y ∈ ps.zip us, scope.names.lookup y.1 = some .local ∨ (scope.names.lookup y.1 = some .cell ∧ ((cellsFrom (s.heap.objs.size + 1) scope.names []).lookup y.1).isSome = true) := by
    rintro ⟨n, v⟩ hy
    cases sc.par n (List.of_mem_zip hy).1 with
    | inl q => exact .inl q
    | inr q => exact .inr ⟨q, PySem.W.cellsFrom_some _ _ _ (.inl q)⟩
  refine codeAny_call_function room.depth (inK _ _ look) rfl sc.co sc.gen rfl
    (PySem.W.codeRec_of inK code) (bind _ _ _ _ (wpAny_newFunctionEnv_cells sc.kind kinds fun env he s1 ic => ?_))
  subst he
  refine ⟨nl.keeps ic.toInCall.keep, codeAny_func ?_⟩
  obtain ⟨t, run, q⟩ := hb cdv Ar outer s H vs Q (room.deeper _) hgd hl hS
  have J : Inv (cxOf CX0 G.P G.w G.K G.mg G.base N qual scope f cdv Ar outer s H E0).nox [] (L2.start N vs) H s1 :=
    (inv_start (CX := CX0) (E := E0) sc room.hd at0 hl rv ic).wish _
  refine wpAny_mono (run.run [] s1 (L2.start N vs) H _ J q) (fun fl s' hs => ?_) fun e s' hs => False.elim hs
  cases fl with
  | ret u =>
    obtain ⟨v, σ', H', J', rv', q'⟩ := hs
    exact ⟨v, H', J'.os, J'.bare, J'.base, J'.hok, rv', q'⟩
  | next =>
    obtain ⟨σ', H', J', q'⟩ := hs
    exact ⟨.non, H', J'.os, J'.bare, J'.base, J'.hok, rfl, q'⟩
  | brk => obtain ⟨_, _, _, q'⟩ := hs; exact q'.elim
  | cont => obtain ⟨_, _, _, q'⟩ := hs; exact q'.elim
/-- THE RULE for a def, by its body's reading -/
theorem fn_body {G : Gc} {x qual : Str} {params : Arguments} {body : List Stmt} {scope : Scope} {dvs : List V} {f : Addr} {fd : FuncData} {N ps : List Str} {k : Nat} {S : OL} {t : DenS} (F : FunD G.K x qual params body scope dvs [] f fd) (sc : FnScope N ps scope)
    (hm : MonL S) (hb : SSs ⟨G, N, scope, k, true⟩ body t) (h : ∀ ws A Q, ws.length = ps.length → S ws A Q → t (retD0 A.length Q) (startE N ws) A) : Fn G (k + 1) f fd ps S := by
  refine ⟨hm, fn_run F sc (fun cdv Ar outer s H vs Q hr hgd hl z => ?_), F.kp⟩
  obtain ⟨m, B, ws, hr0, rw0, hS⟩ := z
  refine ⟨_, hb.run _ ⟨⟨rfl, rfl, rfl, rfl, rfl, rfl, hr, rfl, hgd⟩, rfl, rfl, sc.nd, fun _ _ => rfl⟩, ?_⟩
  refine ⟨startE N ws, m, B, envR_start rw0, hr0, hb.mono (retD0 B.length fun w A' => ∀ v m' H', Lt m B H m' A' H' → HR G.K G.T m' A' H' → RepW G.K G.T m' A' H' w v → Q v H') _ _ _ ⟨fun e B1 z σ' m' H' l hr1 er1 => ?_, fun w B1 z v m' H' l hr1 r1 => ?_, fun _ _ z => z.elim, fun _ _ z => z.elim⟩ (h ws B _ (rw0.length.trans hl) hS)⟩
  · obtain ⟨m2, e2, _⟩ := l.pre
    subst e2
    have z : ∀ v m' H', Lt m B H m' (B1.take B.length) H' → HR G.K G.T m' (B1.take B.length) H' → RepW G.K G.T m' (B1.take B.length) H' (.t .non) v → Q v H' := z
    rw [← hr0.len] at z
    exact z .non m H' (l.cut hr0.len) hr1.cut (by simp only [RepW, Rep])
  · obtain ⟨m2, e2, _⟩ := l.pre
    subst e2
    have z : retW B.length (fun w A' => ∀ v m' H', Lt m B H m' A' H' → HR G.K G.T m' A' H' → RepW G.K G.T m' A' H' w v → Q v H') w B1 := z
    unfold retW at z
    split at z
    · rw [← hr0.len] at z
      exact z v m H' (l.cut hr0.len) hr1.cut (Rep.cut _ _ r1)
    · rename_i jj zold
      obtain ⟨a, rfl, ha⟩ := r1
      split at z
      · rename_i hj
        rw [← hr0.len] at z hj
        rw [List.getElem?_append_left hj] at ha
        exact z (.ref a) m H' (l.cut hr0.len) hr1.cut ⟨a, rfl, ha⟩
      · rename_i hj
        split at z
        · rename_i ls hc
          obtain ⟨vs1, h1, h2⟩ := hr1.cell jj a _ ha hc
          rw [← hr0.len] at z hj
          refine z (.ref a) m H' (l.cut hr0.len) hr1.cut ?_
          simp only [RepW, Rep]
          refine ⟨a, vs1, rfl, .inl ⟨.inl h1, Fr.of_notin fun hm => ?_⟩, Reps.cut _ _ h2⟩
          rw [List.getElem?_append_right (by omega)] at ha
          exact (List.nodup_append.mp hr1.nd).2.2 a hm a (List.mem_of_getElem? ha) rfl
        · exact z.elim
theorem fn_bodyK {G : Gc} {x qual : Str} {params : Arguments} {body : List Stmt} {scope : Scope} {dvs : List V} {f : Addr} {fd : FuncData} {N ps : List Str} {k : Nat} {S : OL} {t : DenS} (F : FunD G.K x qual params body scope dvs [] f fd) (sc : FnScope N ps scope)
    (hm : MonL S) (hb : SSs ⟨G, N, scope, k, true⟩ body t) (h : ∀ ws A Q, ws.length = ps.length → S ws A Q → t (retK0 Q) (startE N ws) A) : Fn G (k + 1) f fd ps S := by
  refine ⟨hm, fn_run F sc (fun cdv Ar outer s H vs Q hr hgd hl z => ?_), F.kp⟩
  obtain ⟨m, B, ws, hr0, rw0, hS⟩ := z
  refine ⟨_, hb.run _ ⟨⟨rfl, rfl, rfl, rfl, rfl, rfl, hr, rfl, hgd⟩, rfl, rfl, sc.nd, fun _ _ => rfl⟩, ?_⟩
  refine ⟨startE N ws, m, B, envR_start rw0, hr0, hb.mono (retK0 fun w A' => ∀ v m' H', Lt m B H m' A' H' → HR G.K G.T m' A' H' → RepW G.K G.T m' A' H' w v → Q v H') _ _ _ ⟨fun e B1 z σ' m' H' l hr1 er1 => ?_, fun w B1 z v m' H' l hr1 r1 => z v m' H' l hr1 r1, fun _ _ z => z.elim, fun _ _ z => z.elim⟩ (h ws B _ (rw0.length.trans hl) hS)⟩
  exact z .non m' H' l hr1 (by simp only [RepW, Rep])

/-- .. as the walk sees it -/
@[irreducible] def retD (n : Nat) (Q : WK) : Ed := retD0 n Q
@[irreducible] def retK (Q : WK) : Ed := retK0 Q
theorem retD_eq {n : Nat} {Q : WK} : retD n Q = retD0 n Q := by unfold retD; rfl
theorem retK_eq {Q : WK} : retK Q = retK0 Q := by unfold retK; rfl

/-! ### things that are called -/
abbrev OK2 := List W → List W → AH → WK → Prop
def MonK (r : OK2) : Prop := ∀ xs ys A Q Q', (∀ w B, Q w B → Q' w B) → r xs ys A Q → r xs ys A Q'
/-- a value u that is called with n values and the keywords ks -/
structure Cal (G : Gc) (k : Nat) (u : Value) (n : Nat) (ks : List Str) (S : OK2) : Prop where
  mono : MonK S
  kp : PySem.W.keepIn G.K u = true
  run : ∀ X, G.Has k X → ∀ (pins : List (Addr × Obj)) (s : Shared) (σ : L2.St) (H : Hp) (us ws : List Value) (vs zs : List V) (Q : VK) (m : List Addr) (A : AH) (xs ys : List W), Inv X pins σ H s → Vals vs us → Vals zs ws →
    HR G.K G.T m A H → RepWs G.K G.T m A H xs vs → RepWs G.K G.T m A H ys zs → xs.length = n → ys.length = ks.length →
    (S xs ys A fun w A' => ∀ v m' H', Lt m A H m' A' H' → HR G.K G.T m' A' H' → RepW G.K G.T m' A' H' w v → Q v H') → codeAny (model X.prog X.w) X.A (.call u ⟨us, ks.zip ws⟩) (fun r s' => match r with | .ok (.ret v) => EP X pins σ Q v s' | .ok _ => False | .error e => X.xe e s') s
theorem Cal.weak {G : Gc} {k n : Nat} {u : Value} {ks : List Str} {S S' : OK2} (F : Cal G k u n ks S) (hm : MonK S') (h : ∀ xs ys A Q, S' xs ys A Q → S xs ys A Q) : Cal G k u n ks S' :=
  ⟨hm, F.kp, fun X hX pins s σ H us ws vs zs Q m A xs ys I r1 r2 hr q1 q2 e1 e2 hs => F.run X hX pins s σ H us ws vs zs Q m A xs ys I r1 r2 hr q1 q2 e1 e2 (h _ _ _ _ hs)⟩

/-- where a parameter's value comes from -/
inductive Src where
  | p (i : Nat) | k (i : Nat) | d (i : Nat)
def src {α : Type} (us ws ds : List α) : Src → Option α
  | .p i => us[i]?
  | .k i => ws[i]?
  | .d i => ds[i]?
def arr {α : Type} (us ws ds : List α) (l : List Src) : List α := l.filterMap (src us ws ds)
theorem vals_get' {vs : List V} {us : List Value} (r : Vals vs us) (i : Nat) : (vs[i]? = none ∧ us[i]? = none) ∨ ∃ v u, vs[i]? = some v ∧ us[i]? = some u ∧ RelV v u := by
  cases e : vs[i]? with
  | none => exact .inl ⟨rfl, Vals.none_of r e⟩
  | some v =>
    obtain ⟨u, h1, h2⟩ := Vals.get r e
    exact .inr ⟨v, u, rfl, h1, h2⟩
theorem arr_vals {vs zs es : List V} {us ws ds : List Value} (r1 : Vals vs us) (r2 : Vals zs ws) (r3 : Vals es ds) : ∀ l : List Src, Vals (arr vs zs es l) (arr us ws ds l)
  | [] => .nil
  | c :: l => by
    have ih := arr_vals r1 r2 r3 l
    have one : (src vs zs es c = none ∧ src us ws ds c = none) ∨ ∃ v u, src vs zs es c = some v ∧ src us ws ds c = some u ∧ RelV v u := by
      cases c with
      | p i => exact vals_get' r1 i
      | k i => exact vals_get' r2 i
      | d i => exact vals_get' r3 i
    unfold arr at ih ⊢
    rcases one with ⟨e1, e2⟩ | ⟨v, u, e1, e2, r⟩
    · rw [List.filterMap_cons_none e1, List.filterMap_cons_none e2]; exact ih
    · rw [List.filterMap_cons_some e1, List.filterMap_cons_some e2]; exact .cons r ih
theorem RepWs.get' {K : PySem.W.Frag} {T : Tb} {m : List Addr} {A : AH} {H : Hp} {xs : List W} {vs : List V} (r : RepWs K T m A H xs vs) (i : Nat) : (xs[i]? = none ∧ vs[i]? = none) ∨ ∃ w v, xs[i]? = some w ∧ vs[i]? = some v ∧ RepW K T m A H w v := by
  cases e : xs[i]? with
  | none => exact .inl ⟨rfl, List.getElem?_eq_none (by rw [← r.length]; exact List.getElem?_eq_none_iff.mp e)⟩
  | some w =>
    obtain ⟨v, h1, h2⟩ := r.get e
    exact .inr ⟨w, v, rfl, h1, h2⟩
theorem arr_rep {K : PySem.W.Frag} {T : Tb} {m : List Addr} {A : AH} {H : Hp} {xs ys dd : List W} {vs zs es : List V} (r1 : RepWs K T m A H xs vs) (r2 : RepWs K T m A H ys zs) (r3 : RepWs K T m A H dd es) : ∀ l : List Src, RepWs K T m A H (arr xs ys dd l) (arr vs zs es l)
  | [] => rfl
  | c :: l => by
    have ih := arr_rep r1 r2 r3 l
    have one : (src xs ys dd c = none ∧ src vs zs es c = none) ∨ ∃ w v, src xs ys dd c = some w ∧ src vs zs es c = some v ∧ RepW K T m A H w v := by
      cases c with
      | p i => exact r1.get' i
      | k i => exact r2.get' i
      | d i => exact r3.get' i
    unfold arr at ih ⊢
    rcases one with ⟨e1, e2⟩ | ⟨w, v, e1, e2, r⟩
    · rw [List.filterMap_cons_none e1, List.filterMap_cons_none e2]; exact ih
    · rw [List.filterMap_cons_some e1, List.filterMap_cons_some e2]; exact ⟨v, _, rfl, r, ih⟩
/-- how a call binds the parameters -/
structure Bd (G : Gc) (fd : FuncData) (ps : List Str) (n : Nat) (ks : List Str) (dws : List W) (l : List Src) : Prop where
  to : ∃ dvs : List V, (∀ m A H, RepWs G.K G.T m A H dws dvs) ∧ ∀ (s : Shared) (us ws : List Value), G.K.In s.heap → us.length = n → ws.length = ks.length → ∃ ds, Vals dvs ds ∧ BindsTo s fd ⟨us, ks.zip ws⟩ (ps.zip (arr us ws ds l))
theorem bd0 {G : Gc} {x qual : Str} {params : Arguments} {body : List Stmt} {scope : Scope} {f : Addr} {fd : FuncData} {ps ks : List Str} {n : Nat} {l : List Src} (F : FunD G.K x qual params body scope [] [] f fd)
    (h : ∀ (kV doc pm : Value) (an : Option Addr) (cdv ct : Value) (us ws : List Value), us.length = n → ws.length = ks.length → bindArgs (PySem.W.fnOf x qual params body scope .none kV doc pm an cdv ct) ⟨us, ks.zip ws⟩ = pure (ps.zip (arr us ws [] l))) : Bd G fd ps n ks [] l := by
  obtain ⟨oc, od, dV, kV, doc, pm, an, cdv, ct, osl, rfl, lk, hcd, hD, _⟩ := F.ex
  refine ⟨[], fun _ _ _ => rfl, fun s us ws _ h1 h2 => ⟨[], .nil, ?_⟩⟩
  rcases hD with ⟨_, rfl⟩ | ⟨q, _⟩
  · exact .of_eq (h kV doc pm an cdv ct us ws h1 h2)
  · exact absurd rfl q
theorem bdD {G : Gc} {x qual : Str} {params : Arguments} {body : List Stmt} {scope : Scope} {dvs : List V} {dws : List W} {f : Addr} {fd : FuncData} {ps ks : List Str} {n : Nat} {l : List Src} (F : FunD G.K x qual params body scope dvs [] f fd) (hd : dvs ≠ []) (hr : ∀ m A H, RepWs G.K G.T m A H dws dvs)
    (h : ∀ (D : Addr) (kV doc pm : Value) (an : Option Addr) (cdv ct : Value) (us ws its : List Value), us.length = n → ws.length = ks.length → its.length = dvs.length → ∃ kk, bindArgs (PySem.W.fnOf x qual params body scope (.ref D) kV doc pm an cdv ct) ⟨us, ks.zip ws⟩ = seqItems? (.ref D) >>= kk ∧ kk (some its.toArray) = pure (ps.zip (arr us ws its l))) : Bd G fd ps n ks dws l := by
  obtain ⟨oc, od, dV, kV, doc, pm, an, cdv, ct, osl, rfl, lk, hcd, hD, _⟩ := F.ex
  rcases hD with ⟨e, _⟩ | ⟨_, D, o, its, nn, rfl, lT, oT, rT⟩
  · exact absurd e hd
  · refine ⟨dvs, hr, fun s us ws X h1 h2 => ⟨its, rT, ?_⟩⟩
    obtain ⟨kk, e1, e2⟩ := h D kV doc pm an cdv ct us ws its h1 h2 rT.length.symm
    exact PySem.W.binds_K X rfl lT oT e1 e2
theorem cal_fn {G : Gc} {k n : Nat} {f : Addr} {fd : FuncData} {ps ks : List Str} {S : OL} {dws : List W} {l : List Src} (F : Fn G k f fd ps S) (B : Bd G fd ps n ks dws l) (hlen : ∀ xs ys : List W, xs.length = n → ys.length = ks.length → (arr xs ys dws l).length = ps.length) :
    Cal G k (.ref f) n ks (fun xs ys A Q => S (arr xs ys dws l) A Q) := by
  refine ⟨fun xs ys A Q Q' h z => F.mono _ _ _ _ h z, F.kp, fun X hX pins s σ H us ws vs zs Q m A xs ys I r1 r2 hr q1 q2 e1 e2 hs => ?_⟩
  obtain ⟨dvs, rd, to⟩ := B.to
  obtain ⟨ds, rds, bt⟩ := to s us ws (by rw [← hX.K]; exact I.kIn) (by rw [← r1.length, ← q1.length]; exact e1) (by rw [← r2.length, ← q2.length]; exact e2)
  have ra := arr_rep q1 q2 (rd m A H) l
  have e0 := I.env0
  rw [hX.P, hX.w, hX.K, hX.mg, hX.base] at e0
  rw [hX.P, hX.w]
  refine (codeAny_mono (F.ok X.A X.stack s H ⟨us, ks.zip ws⟩ (arr us ws ds l) (arr vs zs dvs l) Q hX.room hX.grd e0 bt (arr_vals r1 r2 rds l) (by rw [← ra.length]; exact hlen xs ys e1 e2) ⟨m, A, _, hr, ra, hs⟩) fun r s' hq => ?_)
  cases r with
  | error e => cases (show False from hq)
  | ok fl =>
    cases fl with
    | ret u => exact I.after (by rw [hX.P, hX.w]; exact hq)
    | next => exact False.elim hq
    | brk => exact False.elim hq
    | cont => exact False.elim hq

/-! ### a new instance -/
/-- what stands in the new instance behind its __init__ -/
def mkEnd (c n : Nat) (conv : List (Str × D) → Option D) (Q : WK) (w : W) (B : AH) : Prop := w = .t .non ∧ B.length = n + 1 ∧ match B[n]? with
  | some (.live (.ins c0 fs)) => c0 = c ∧ match conv fs with
    | some d => Q (.t d) (B.take n)
    | none => False
  | _ => False
/-- how the fields make a tree -/
structure Conv (G : Gc) (c : Nat) (conv : List (Str × D) → Option D) : Prop where
  rep : ∀ m A H a dx fs vs d, conv fs = some d → H a = some (.ins (G.T.at_ c) dx vs) → RepFs G.K G.T m A H fs vs → a ∉ m → Rep G.K G.T m A H d (.ref a)
theorem cal_make {G : Gc} {k n : Nat} {f : Addr} {fd : FuncData} {ps ks : List Str} {S : OL} {dws : List W} {l : List Src} {c : Nat} {conv : List (Str × D) → Option D} (M : Mk G.K (G.T.at_ c) f) (F : Fn G k f fd ps S) (B : Bd G fd ps (n + 1) ks dws l) (cv : Conv G c conv)
    (hlen : ∀ xs ys : List W, xs.length = n + 1 → ys.length = ks.length → (arr xs ys dws l).length = ps.length) :
    Cal G (k + 1) (.ref (G.T.at_ c)) n ks (fun xs ys A Q => S (arr (.loc A.length :: xs) ys dws l) (A ++ [.live (.ins c [])]) (mkEnd c A.length conv Q)) := by
  refine ⟨fun xs ys A Q Q' h z => F.mono _ _ _ _ (fun w B z => ?_) z, M.kp, fun X hX pins s σ H us ws vs zs Q m A xs ys I r1 r2 hr q1 q2 e1 e2 hs => ?_⟩
  · obtain ⟨z1, z2, z3⟩ := z
    refine ⟨z1, z2, ?_⟩
    split at z3
    · obtain ⟨z0, z3⟩ := z3
      refine ⟨z0, ?_⟩
      split at z3
      · exact h _ _ z3
      · exact z3.elim
    · exact z3.elim
  obtain ⟨dvs, rd, to⟩ := B.to
  have I2 := Inv.made (C := G.T.at_ c) I
  have n1 : H (s.heap.objs.size + 1) = none := I.hok.fresh (Nat.le_succ _)
  have n2 : H s.heap.objs.size = none := I.hok.fresh (Nat.le_refl _)
  have ne : s.heap.objs.size ≠ s.heap.objs.size + 1 := by omega
  have n3 : (upd H s.heap.objs.size (.own (s.heap.objs.size + 1))) (s.heap.objs.size + 1) = none := by rw [upd_ne ne.symm]; exact n1
  have l1 : Lt m A H m A (upd H s.heap.objs.size (.own (s.heap.objs.size + 1))) := Lt.new n2
  have hr1 := hr.new (o := .own (s.heap.objs.size + 1)) n2
  have l2 := Lt.cell (u := .ins (G.T.at_ c) s.heap.objs.size []) (.ins c []) hr1.len n3
  have hr2 := hr1.newCell (u := .ins (G.T.at_ c) s.heap.objs.size []) (o := .ins c []) n3 ⟨s.heap.objs.size, [], upd_same, rfl⟩
  have l12 := l1.trans hr.len l2
  generalize hH2 : upd (upd H s.heap.objs.size (.own (s.heap.objs.size + 1))) (s.heap.objs.size + 1) (.ins (G.T.at_ c) s.heap.objs.size []) = H2 at *
  have hm2 : (m ++ [s.heap.objs.size + 1])[A.length]? = some (s.heap.objs.size + 1) := by rw [← hr.len]; simp
  have rx1 : RepWs G.K G.T (m ++ [s.heap.objs.size + 1]) (A ++ [.live (.ins c [])]) H2 (.loc A.length :: xs) (.ref (s.heap.objs.size + 1) :: vs) := ⟨_, _, rfl, ⟨_, rfl, hm2⟩, RepWs.lt l12 hr.len _ _ q1⟩
  have rx2 := RepWs.lt l12 hr.len _ _ q2
  have r1' : Vals (V.ref (s.heap.objs.size + 1) :: vs) (Value.ref (s.heap.objs.size + 1) :: us) := .cons rfl r1
  obtain ⟨ds, rds, bt⟩ := to { s with heap := (s.heap.push PySem.W.emptyDict).push (PySem.W.instObj (G.T.at_ c) s.heap.objs.size) } (Value.ref (s.heap.objs.size + 1) :: us) ws (by rw [← hX.K]; exact I2.kIn) (by rw [List.length_cons, ← r1.length, ← q1.length, e1]) (by rw [← r2.length, ← q2.length]; exact e2)
  have ra := arr_rep rx1 rx2 (rd _ _ H2) l
  have e0 := I2.env0.make (G.T.at_ c) us (ks.zip ws)
  rw [hX.P, hX.w, hX.K, hX.mg, hX.base] at e0
  have kin := I.kIn
  rw [hX.K] at kin
  rw [hX.P, hX.w]
  refine (make_map (f := f) kin M.makes M.init (beq_iff_eq.mp M.fn) (codeAny_mono (F.ok _ X.stack _ H2 ⟨Value.ref (s.heap.objs.size + 1) :: us, ks.zip ws⟩ (arr (Value.ref (s.heap.objs.size + 1) :: us) ws ds l) (arr (V.ref (s.heap.objs.size + 1) :: vs) zs dvs l)
    (fun v H3 => v = .non ∧ Q (.ref (s.heap.objs.size + 1)) H3) (hX.room.make _ us (ks.zip ws)) hX.grd e0 bt (arr_vals r1' r2 rds l) (by rw [← ra.length]; exact hlen _ ys (by rw [List.length_cons, e1]) e2)
    ⟨m ++ [s.heap.objs.size + 1], A ++ [.live (.ins c [])], _, hr2, ra, F.mono _ _ _ _ (fun w A3 z v m3 H3 l3 hr3 r3 => ?_) hs⟩) fun r s' hq => ?_))
  · obtain ⟨z1, z2, z3⟩ := z
    subst z1
    simp only [RepW, Rep] at r3
    refine ⟨r3, ?_⟩
    split at z3
    · rename_i c0 fs hc
      obtain ⟨z0, z3⟩ := z3
      subst z0
      split at z3
      · rename_i d hd
        obtain ⟨m4, e4, _⟩ := l3.pre
        have hp3 : m3[A.length]? = some (s.heap.objs.size + 1) := l3.mget hm2
        obtain ⟨dx, vfs, h1, h2⟩ := hr3.cell _ _ _ hp3 hc
        have hlen3 : m3 = m ++ [s.heap.objs.size + 1] := by
          have e5 := hr3.len
          have e6 := hr.len
          rw [e4, z2] at e5
          simp only [List.length_append, List.length_cons, List.length_nil] at e5
          have : m4 = [] := List.length_eq_zero_iff.mp (by omega)
          rw [e4, this, List.append_nil]
        subst hlen3
        have lc := (l12.trans hr.len l3).cut hr.len
        have hc3 := hr3.cut
        rw [hr.len] at lc hc3
        have rcut : RepFs G.K G.T m (List.take A.length A3) H3 fs vfs := by
          have := RepFs.cut fs vfs h2
          rw [hr.len] at this
          exact this
        exact z3 (.ref (s.heap.objs.size + 1)) m H3 lc hc3 (cv.rep _ _ _ _ _ _ _ d hd h1 rcut (hr.notin n1))
      · exact z3.elim
    · exact z3.elim
  · cases r with
    | error e => cases (show False from hq)
    | ok fl =>
      cases fl with
      | ret u =>
        obtain ⟨v, H', I3, rv, ev, q3⟩ := I2.after (by rw [hX.P, hX.w]; exact hq)
        subst ev
        exact ⟨rv, V.ref (s.heap.objs.size + 1), H', I3, rfl, q3⟩
      | next => exact False.elim hq
      | brk => exact False.elim hq
      | cont => exact False.elim hq
end Hw
namespace Hw
open PySem L2

section
variable {C : Ctx} {k n : Nat} {e a b c o : Expr} {f g : Den} {ft : DenT} {pos p apos : Pos} {es args : List Expr} {kws : List Keyword} {ks : List Str} {S : OK2} {x m : Str} {gp gk : DenA} {u : Value}
/-! ### calls -/
structure SK (C : Ctx) (kws : List Keyword) (f : DenA) : Prop where
  mono : MonA f
  run : ∀ X, C.Has X → PK X kws (tA C.g.K C.g.T f)
theorem PK.weak {X : Cx} {kws : List Keyword} {t t' : TA} (h : PK X kws t) (k : ∀ σ H Q, t' σ H Q → t σ H Q) : PK X kws t' := ⟨fun q p s σ H Q I z => h.run q p s σ H Q I (k σ H Q z)⟩
theorem sk_nil : SK C [] vNil := ⟨fun _ _ _ _ k h => k _ _ h, fun X hX => PK.weak pk_nil fun σ H Q z => by
  obtain ⟨env, m, A, er, hr, h⟩ := z
  exact h [] m H Lt.refl hr rfl⟩
theorem sk_cons {nm : Option Str} {kpos : Pos} (ha : SE C a f) (hb : SK C kws gk) : SK C (⟨nm, a, kpos⟩ :: kws) (vCons f gk) := by
  refine ⟨fun env A Q Q' k h => ha.mono _ _ _ _ (fun x B z => hb.mono _ _ _ _ (fun xs B2 z2 => k _ _ z2) z) h, fun X hX => PK.weak (pk_cons (ha.run X hX) (hb.run X hX)) fun σ H Q z => ?_⟩
  obtain ⟨env, m, A, er, hr, h⟩ := z
  refine ⟨env, m, A, er, hr, ha.mono _ _ _ _ (fun w1 A1 z1 v1 m1 H1 l1 hr1 r1 => ?_) h⟩
  refine ⟨env, m1, A1, er.lt l1 hr.len, hr1, hb.mono _ _ _ _ (fun w2 A2 z2 v2 m2 H2 l2 hr2 r2 => ?_) z1⟩
  exact z2 (v1 :: v2) m2 H2 (l1.trans hr.len l2) hr2 ⟨v1, v2, rfl, RepW.lt l2 hr1.len _ _ r1, r2⟩
def vCall (n nk : Nat) (S : OK2) (gp gk : DenA) : Den := fun env A Q => gp env A fun ws B => gk env B fun zs B2 => ws.length = n ∧ zs.length = nk ∧ S ws zs B2 Q
theorem monCall {nk : Nat} (hS : MonK S) (hp : MonA gp) (hk : MonA gk) : MonE (vCall n nk S gp gk) := fun env A Q Q' k h => hp _ _ _ _ (fun ws B z => hk _ _ _ _ (fun zs B2 z2 => ⟨z2.1, z2.2.1, hS _ _ _ _ _ k z2.2.2⟩) z) h
/-- the shape of a call's arguments -/
structure Shp (args : List Expr) (kws : List Keyword) (ks : List Str) (pos : Pos) (env : PySem.Env) : Prop where
  all : (backToKw pos (keywordEach kws env)).all (·.1.isSome) = true
  ks : (backToKw pos (keywordEach kws env)).filterMap (·.1) = ks
  pl : ((backTo pos (starEach args env)).any (·.1) || (backToKw pos (keywordEach kws env)).any (·.1.isNone)) = false
theorem app_ws {K : PySem.W.Frag} {T : Tb} {m : List Addr} {A : AH} {H : Hp} : ∀ {fw ws : List W} {fv vs : List V}, RepWs K T m A H fw fv → RepWs K T m A H ws vs → RepWs K T m A H (fw ++ ws) (fv ++ vs)
  | [], ws, fv, vs, h1, h2 => by
    obtain rfl : fv = [] := h1
    exact h2
  | w :: fw, ws, fv, vs, h1, h2 => by
    obtain ⟨v, r, rfl, h3, h4⟩ := h1
    exact ⟨v, r ++ vs, rfl, h3, app_ws h4 h2⟩
/-- a value is called: what is behind the evaluation of the called thing -/
theorem callrun {X : Cx} (hX : C.Has X) (F : Cal C.g k u n ks S) (hk : k ≤ C.lev) (hp : SA C (e :: es) gp) (hkw : SK C kws gk) (sh : Shp (e :: es) kws ks pos X.env) (he : starEach (e :: es) X.env = (false, eval e X.env) :: starEach es X.env) {first : List Value} {fv : List V} {fw : List W} {pins : List (Addr × Obj)} {s : Shared} {σ : L2.St} {H : Hp} {Q : VK}
    {env : Env} {m : List Addr} {A : AH} (I : Inv X pins σ H s) (rf : Vals fv first) (er : EnvR C.g.K C.g.T m A H env σ) (hr : HR C.g.K C.g.T m A H) (rw0 : RepWs C.g.K C.g.T m A H fw fv)
    (h : gp env A fun ws B => gk env B fun zs B2 => (fw ++ ws).length = n ∧ zs.length = ks.length ∧ S (fw ++ ws) zs B2 fun w A' => ∀ v m' H', Lt m A H m' A' H' → HR C.g.K C.g.T m' A' H' → RepW C.g.K C.g.T m' A' H' w v → Q v H') :
    wpAny (model X.prog X.w) X.A (callWith pos u first (backTo pos (starEach (e :: es) X.env)) (backToKw pos (keywordEach kws X.env))) (EP X pins σ Q) X.xe s := by
  have kp : PySem.W.keepIn X.K u = true := by rw [hX.g.K]; exact F.kp
  refine PySem.W.callWith_KW (h₀ := X.base) I.ok.mod.kin kp sh.all (thn ((hp.run X hX).run pos pins s σ H (fun vs H1 => tA C.g.K C.g.T gk σ H1 fun zs H2 => ∀ s2 us ws, Inv X pins σ H2 s2 → Vals vs us → Vals zs ws → wpAny (model X.prog X.w) X.A (call u (first ++ us) (ks.zip ws)) (EP X pins σ Q) X.xe s2) I
    ⟨env, m, A, er, hr, hp.mono _ _ _ _ (fun ws B z vs m1 H1 l1 hr1 r1 => ?_) h⟩) fun us s1 z1 => ?_) sh.pl he
  · refine ⟨env, m1, B, er.lt l1 hr.len, hr1, hkw.mono _ _ _ _ (fun zs B2 z2 vz m2 H2 l2 hr2 r2 s2 us wz I2 ru rz => ?_) z⟩
    have l12 := l1.trans hr.len l2
    exact wpAny_call <| F.run X (hX.g.mono hk) pins s2 σ H2 (first ++ us) wz (fv ++ vs) vz Q m2 B2 (fw ++ ws) zs I2 (rf.append ru) rz hr2 (app_ws (RepWs.lt l12 hr.len _ _ rw0) (RepWs.lt l2 hr1.len _ _ r1)) r2 z2.1 z2.2.1 (F.mono _ _ _ _ _ (fun w B3 z3 v m3 H3 l3 hr3 r3 => z3 v m3 H3 (l12.trans hr.len l3) hr3 r3) z2.2.2)
  · obtain ⟨vs, H1, I1, r1, q1⟩ := z1
    refine thn ((hkw.run X hX).run pos pins s1 σ H1 _ I1 q1) fun ws s2 z2 => ?_
    obtain ⟨zs, H2, I2, rz, q2⟩ := z2
    exact ⟨I2.kIn, by rw [sh.ks]; exact q2 s2 us ws I2 r1 rz⟩
theorem callrun0 {X : Cx} (hX : C.Has X) (F : Cal C.g k u n ks S) (hk : k ≤ C.lev) (hkw : SK C kws gk) (sh : Shp [] kws ks pos X.env) {first : List Value} {fv : List V} {fw : List W} {pins : List (Addr × Obj)} {s : Shared} {σ : L2.St} {H : Hp} {Q : VK}
    {env : Env} {m : List Addr} {A : AH} (I : Inv X pins σ H s) (rf : Vals fv first) (er : EnvR C.g.K C.g.T m A H env σ) (hr : HR C.g.K C.g.T m A H) (rw0 : RepWs C.g.K C.g.T m A H fw fv)
    (h : gk env A fun zs B2 => fw.length = n ∧ zs.length = ks.length ∧ S fw zs B2 fun w A' => ∀ v m' H', Lt m A H m' A' H' → HR C.g.K C.g.T m' A' H' → RepW C.g.K C.g.T m' A' H' w v → Q v H') :
    wpAny (model X.prog X.w) X.A (callWith pos u first (backTo pos (starEach [] X.env)) (backToKw pos (keywordEach kws X.env))) (EP X pins σ Q) X.xe s := by
  have kp : PySem.W.keepIn X.K u = true := by rw [hX.g.K]; exact F.kp
  refine PySem.W.callWith_KW0 (h₀ := X.base) I.ok.mod.kin kp sh.all (thn ((hkw.run X hX).run pos pins s σ H (fun zs H2 => ∀ s2 ws, Inv X pins σ H2 s2 → Vals zs ws → wpAny (model X.prog X.w) X.A (call u (first ++ []) (ks.zip ws)) (EP X pins σ Q) X.xe s2) I
    ⟨env, m, A, er, hr, hkw.mono _ _ _ _ (fun zs B2 z2 vz m2 H2 l2 hr2 r2 s2 wz I2 rz => ?_) h⟩) fun ws s2 z2 => ?_) sh.pl
  · rw [List.append_nil]
    exact wpAny_call <| F.run X (hX.g.mono hk) pins s2 σ H2 first wz fv vz Q m2 B2 fw zs I2 rf rz hr2 (RepWs.lt l2 hr.len _ _ rw0) r2 z2.1 z2.2.1 (F.mono _ _ _ _ _ (fun w B3 z3 v m3 H3 l3 hr3 r3 => z3 v m3 H3 (l2.trans hr.len l3) hr3 r3) z2.2.2)
  · obtain ⟨zs, H2, I2, rz, q2⟩ := z2
    exact ⟨I2.kIn, by rw [sh.ks]; exact q2 s2 ws I2 rz⟩
/-- f(..), C(..): a name of the module -/
theorem se_call (F : Cal C.g k u n ks S) (hk : k ≤ C.lev) (hg : CGl C x) (hm : C.g.mg x = some u) (hd : (x == ("__debug__" : Str)) = false) (hp : SA C (e :: es) gp) (hkw : SK C kws gk) (sh : ∀ env, Shp (e :: es) kws ks pos env) (he : ∀ env : PySem.Env, starEach (e :: es) env = (false, eval e env) :: starEach es env) :
    SE C (.Call (.Name x p) (e :: es) kws pos) (vCall n ks.length S gp gk) := by
  refine ⟨monCall F.mono hp.mono hkw.mono, fun X hX => ⟨fun pins s σ H Q I z => ?_⟩⟩
  obtain ⟨env, m, A, er, hr, h⟩ := z
  refine wpAny_Call_Name_kw (ld_glob I (by show X.env.scope.names.lookup x = _; rw [hX.sc]; exact hg) (by rw [hX.g.mg]; exact hm) ?_ hd)
  exact callrun hX F hk hp hkw (sh X.env) (he X.env) (fv := []) (fw := []) I .nil er hr rfl h
theorem se_call0 (F : Cal C.g k u n ks S) (hk : k ≤ C.lev) (hg : CGl C x) (hm : C.g.mg x = some u) (hd : (x == ("__debug__" : Str)) = false) (hkw : SK C kws gk) (sh : ∀ env, Shp [] kws ks pos env) :
    SE C (.Call (.Name x p) [] kws pos) (vCall n ks.length S vNil gk) := by
  refine ⟨monCall F.mono (fun _ _ _ _ k h => k _ _ h) hkw.mono, fun X hX => ⟨fun pins s σ H Q I z => ?_⟩⟩
  obtain ⟨env, m, A, er, hr, h⟩ := z
  refine wpAny_Call_Name_kw (ld_glob I (by show X.env.scope.names.lookup x = _; rw [hX.sc]; exact hg) (by rw [hX.g.mg]; exact hm) ?_ hd)
  exact callrun0 hX F hk hkw (sh X.env) (fv := []) (fw := []) I .nil er hr rfl h
/-- cls(..): a local name that holds a class -/
def vCallV (c : Nat) (n nk : Nat) (S : OK2) (f : Den) (gp gk : DenA) : Den := fun env A Q => f env A fun w B => match w with
  | .t (.cls c') => c' = c ∧ vCall n nk S gp gk env B Q
  | _ => False
theorem se_callV {c : Nat} (hn : SE C (.Name x p) f) (F : Cal C.g k (.ref (C.g.T.at_ c)) n ks S) (hk : k ≤ C.lev) (hp : SA C (e :: es) gp) (hkw : SK C kws gk) (sh : ∀ env, Shp (e :: es) kws ks pos env) (he : ∀ env : PySem.Env, starEach (e :: es) env = (false, eval e env) :: starEach es env) :
    SE C (.Call (.Name x p) (e :: es) kws pos) (vCallV c n ks.length S f gp gk) := by
  refine ⟨fun env A Q Q' k h => hn.mono _ _ _ _ (fun w B z => ?_) h, fun X hX => ⟨fun pins s σ H Q I z => ?_⟩⟩
  · split at z
    · exact ⟨z.1, monCall F.mono hp.mono hkw.mono _ _ _ _ k z.2⟩
    · exact z.elim
  · obtain ⟨env, m, A, er, hr, h⟩ := z
    refine wpAny_Call_Name_kw (thn ((hn.run X hX).run pins s σ H (fun v H1 => ∃ m1 A1, v = .ref (C.g.T.at_ c) ∧ Lt m A H m1 A1 H1 ∧ HR C.g.K C.g.T m1 A1 H1 ∧ vCall n ks.length S gp gk env A1 fun w A' => ∀ v m' H', Lt m A H m' A' H' → HR C.g.K C.g.T m' A' H' → RepW C.g.K C.g.T m' A' H' w v → Q v H') I
      ⟨env, m, A, er, hr, hn.mono _ _ _ _ (fun w B z v m1 H1 l1 hr1 r1 => ?_) h⟩) fun w s1 z1 => ?_)
    · split at z
      · obtain ⟨rfl, z⟩ := z
        simp only [RepW, Rep] at r1
        exact ⟨m1, B, r1, l1, hr1, z⟩
      · exact z.elim
    · obtain ⟨v, H1, I1, rv, m1, A1, rfl, l1, hr1, z1⟩ := z1
      have ew : w = Value.ref (C.g.T.at_ c) := rv
      subst ew
      refine callrun hX F hk hp hkw (sh X.env) (he X.env) (fv := []) (fw := []) I1 .nil (er.lt l1 hr.len) hr1 rfl ?_
      exact hp.mono _ _ _ _ (fun ws B z => hkw.mono _ _ _ _ (fun zs B2 z2 => ⟨z2.1, z2.2.1, F.mono _ _ _ _ _ (fun w B3 z3 v m3 H3 l3 hr3 r3 => z3 v m3 H3 (l1.trans hr.len l3) hr3 r3) z2.2.2⟩) z) z1

/-! ### methods, properties -/
/-- what p lets is an instance of the class at Ca that has not the attribute m of its own -/
structure Ins (G : Gc) (pt : D → Bool) (Ca : Addr) (m : Str) : Prop where
  cl : Cls G.K Ca
  at_ : ∀ d mm A H v, pt d = true → Rep G.K G.T mm A H d v → ∃ a dx fs, v = .ref a ∧ H a = some (.ins Ca dx fs) ∧ fs.lookup m = none
def vMeth (pt : D → Bool) (n nk : Nat) (S : OK2) (f : Den) (gp gk : DenA) : Den := fun env A Q => f env A fun w B => match w with
  | .t d => pt d = true ∧ gp env B fun ws B1 => gk env B1 fun zs B2 => (.t d :: ws).length = n ∧ zs.length = nk ∧ S (.t d :: ws) zs B2 Q
  | _ => False
theorem monMeth {pt : D → Bool} {nk : Nat} (hS : MonK S) (hf : MonE f) (hp : MonA gp) (hk : MonA gk) : MonE (vMeth pt n nk S f gp gk) := fun env A Q Q' k h => hf _ _ _ _ (fun w B z => by
  split at z
  · exact ⟨z.1, hp _ _ _ _ (fun ws B z => hk _ _ _ _ (fun zs B2 z2 => ⟨z2.1, z2.2.1, hS _ _ _ _ _ k z2.2.2⟩) z) z.2⟩
  · exact z.elim) h
/-- how a method call is read -/
def MShp (o : Expr) (m : Str) (apos : Pos) (args : List Expr) (kws : List Keyword) (pos : Pos) (pl : Sem Bool) (env : PySem.Env) : Prop :=
  (do let ov ← eval o env
      standAt apos.atName
      let ff ← holding [ov] (getMethod ov m pl)
      callWith pos ff.1 ff.2 (backTo pos (starEach args env)) (backToKw pos (keywordEach kws env))) = eval (.Call (.Attribute o m apos) args kws pos) env
theorem meth_common {pt : D → Bool} {Ca fa : Addr} {pl : Sem Bool} {X : Cx} (hX : C.Has X) (ho : SE C o f) (ins : Ins C.g pt Ca m) (hm : Meth C.g.K Ca m fa) {pins : List (Addr × Obj)} {s : Shared} {σ : L2.St} {H : Hp} {Q : Value → Shared → Prop} {R : D → AH → List Addr → Hp → Prop} {env : Env} {mm : List Addr} {A : AH}
    (I : Inv X pins σ H s) (er : EnvR C.g.K C.g.T mm A H env σ) (hr : HR C.g.K C.g.T mm A H) (sh : MShp o m apos args kws pos pl X.env)
    (h : f env A fun w B => match w with
      | .t d => pt d = true ∧ ∀ m1 H1, Lt mm A H m1 B H1 → HR C.g.K C.g.T m1 B H1 → R d B m1 H1
      | _ => False)
    (hR : ∀ d B m1 H1 a s1, R d B m1 H1 → Lt mm A H m1 B H1 → HR C.g.K C.g.T m1 B H1 → Inv X pins σ H1 s1 → Rep C.g.K C.g.T m1 B H1 d (.ref a) → wpAny (model X.prog X.w) X.A (callWith pos (.ref fa) [.ref a] (backTo pos (starEach args X.env)) (backToKw pos (keywordEach kws X.env))) Q X.xe s1) :
    wpAny (model X.prog X.w) X.A (eval (.Call (.Attribute o m apos) args kws pos) X.env) Q X.xe s := by
  refine PySem.W.methodCall_KW (pl := pl) (thn ((ho.run X hX).run pins s σ H (fun v H1 => ∃ d B m1, pt d = true ∧ R d B m1 H1 ∧ Lt mm A H m1 B H1 ∧ HR C.g.K C.g.T m1 B H1 ∧ Rep C.g.K C.g.T m1 B H1 d v) I
    ⟨env, mm, A, er, hr, ho.mono _ _ _ _ (fun w B z v m1 H1 l1 hr1 r1 => ?_) h⟩) fun ov s1 z1 => ?_) sh.symm
  · split at z
    · exact ⟨_, B, m1, z.1, z.2 m1 H1 l1 hr1, l1, hr1, r1⟩
    · exact z.elim
  · obtain ⟨v, H1, I1, rv, d, B, m1, hpt, q, l1, hr1, r1⟩ := z1
    obtain ⟨a, dx, fs, rfl, ha, hl⟩ := ins.at_ d m1 B H1 v hpt r1
    have ew : ov = Value.ref a := rv
    subst ew
    exact getmeth_ok I1 ha (by rw [hX.g.K]; exact ins.cl) (by rw [hX.g.K]; exact hm) hl (hR d B m1 H1 a s1 q l1 hr1 I1 r1)
theorem se_meth {pt : D → Bool} {Ca fa : Addr} (pl : PySem.Env → Sem Bool) (ho : SE C o f) (ins : Ins C.g pt Ca m) (hm : Meth C.g.K Ca m fa) (F : Cal C.g k (.ref fa) n ks S) (hk : k ≤ C.lev) (hp : SA C (e :: es) gp) (hkw : SK C kws gk) (sh : ∀ env, Shp (e :: es) kws ks pos env) (he : ∀ env : PySem.Env, starEach (e :: es) env = (false, eval e env) :: starEach es env)
    (ms : ∀ env, MShp o m apos (e :: es) kws pos (pl env) env) : SE C (.Call (.Attribute o m apos) (e :: es) kws pos) (vMeth pt n ks.length S f gp gk) := by
  refine ⟨monMeth F.mono ho.mono hp.mono hkw.mono, fun X hX => ⟨fun pins s σ H Q I z => ?_⟩⟩
  obtain ⟨env, mm, A, er, hr, h⟩ := z
  refine meth_common hX ho ins hm I er hr (ms X.env) (R := fun d B m1 H1 => gp env B fun ws B1 => gk env B1 fun zs B2 => ([W.t d] ++ ws).length = n ∧ zs.length = ks.length ∧ S ([W.t d] ++ ws) zs B2 fun w A' => ∀ v m' H', Lt mm A H m' A' H' → HR C.g.K C.g.T m' A' H' → RepW C.g.K C.g.T m' A' H' w v → Q v H')
    (ho.mono _ _ _ _ (fun w B z => ?_) h) fun d B m1 H1 a s1 q l1 hr1 I1 r1 => ?_
  · split at z
    · exact ⟨z.1, fun _ _ _ _ => z.2⟩
    · exact z.elim
  · refine callrun hX F hk hp hkw (sh X.env) (he X.env) (fv := [.ref a]) (fw := [.t d]) I1 (.cons rfl .nil) (er.lt l1 hr.len) hr1 ⟨_, _, rfl, r1, rfl⟩ ?_
    exact hp.mono _ _ _ _ (fun ws B z => hkw.mono _ _ _ _ (fun zs B2 z2 => ⟨z2.1, z2.2.1, F.mono _ _ _ _ _ (fun w B3 z3 v m3 H3 l3 hr3 r3 => z3 v m3 H3 (l1.trans hr.len l3) hr3 r3) z2.2.2⟩) z) q
theorem se_meth0 {pt : D → Bool} {Ca fa : Addr} (pl : PySem.Env → Sem Bool) (ho : SE C o f) (ins : Ins C.g pt Ca m) (hm : Meth C.g.K Ca m fa) (F : Cal C.g k (.ref fa) n ks S) (hk : k ≤ C.lev) (hkw : SK C kws gk) (sh : ∀ env, Shp [] kws ks pos env)
    (ms : ∀ env, MShp o m apos [] kws pos (pl env) env) : SE C (.Call (.Attribute o m apos) [] kws pos) (vMeth pt n ks.length S f vNil gk) := by
  refine ⟨monMeth F.mono ho.mono (fun _ _ _ _ k h => k _ _ h) hkw.mono, fun X hX => ⟨fun pins s σ H Q I z => ?_⟩⟩
  obtain ⟨env, mm, A, er, hr, h⟩ := z
  refine meth_common hX ho ins hm I er hr (ms X.env) (R := fun d B m1 H1 => gk env B fun zs B2 => [W.t d].length = n ∧ zs.length = ks.length ∧ S [.t d] zs B2 fun w A' => ∀ v m' H', Lt mm A H m' A' H' → HR C.g.K C.g.T m' A' H' → RepW C.g.K C.g.T m' A' H' w v → Q v H')
    (ho.mono _ _ _ _ (fun w B z => ?_) h) fun d B m1 H1 a s1 q l1 hr1 I1 r1 => ?_
  · split at z
    · exact ⟨z.1, fun _ _ _ _ => z.2⟩
    · exact z.elim
  · refine callrun0 hX F hk hkw (sh X.env) (fv := [.ref a]) (fw := [.t d]) I1 (.cons rfl .nil) (er.lt l1 hr.len) hr1 ⟨_, _, rfl, r1, rfl⟩ ?_
    exact hkw.mono _ _ _ _ (fun zs B2 z2 => ⟨z2.1, z2.2.1, F.mono _ _ _ _ _ (fun w B3 z3 v m3 H3 l3 hr3 r3 => z3 v m3 H3 (l1.trans hr.len l3) hr3 r3) z2.2.2⟩) q
/-- e.x, a property -/
def vProp (pt : D → Bool) (S : OL) (f : Den) : Den := fun env A Q => f env A fun w B => match w with
  | .t d => pt d = true ∧ S [.t d] B Q
  | _ => False
/-- a getter is called by the machine, one frame of C further in -/
theorem se_prop {pt : D → Bool} {Ca pa ga : Addr} {fd : FuncData} {S : OL} {y : Str} (ho : SE C o f) (ins : Ins C.g pt Ca x) (hp : PropOf C.g.K Ca x pa ga) (F : Fn C.g k ga fd [y] S) (B0 : Bd C.g fd [y] 1 [] [] [.p 0]) (hk : k + 1 ≤ C.lev) (hb : ∀ env : PySem.Env, attributeBase o x env (eval o env) = eval o env) : SE C (.Attribute o x pos) (vProp pt S f) := by
  refine ⟨fun env A Q Q' k h => ho.mono _ _ _ _ (fun w B z => ?_) h, fun X hX => ⟨fun pins s σ H Q I z => ?_⟩⟩
  · split at z
    · exact ⟨z.1, F.mono _ _ _ _ k z.2⟩
    · exact z.elim
  obtain ⟨env, mm, A, er, hr, h⟩ := z
  refine attr_of (hb X.env) (thn ((ho.run X hX).run pins s σ H (fun v H1 => ∃ d B m1, pt d = true ∧ Lt mm A H m1 B H1 ∧ HR C.g.K C.g.T m1 B H1 ∧ Rep C.g.K C.g.T m1 B H1 d v ∧ S [.t d] B fun w A' => ∀ v m' H', Lt mm A H m' A' H' → HR C.g.K C.g.T m' A' H' → RepW C.g.K C.g.T m' A' H' w v → Q v H') I
    ⟨env, mm, A, er, hr, ho.mono _ _ _ _ (fun w B z v m1 H1 l1 hr1 r1 => ?_) h⟩) fun ov s1 z1 => ?_)
  · split at z
    · exact ⟨_, B, m1, z.1, l1, hr1, r1, z.2⟩
    · exact z.elim
  obtain ⟨v, H1, I1, rv, d, B, m1, hpt, l1, hr1, r1, q⟩ := z1
  obtain ⟨a, dx, fs, rfl, ha, _⟩ := ins.at_ d m1 B H1 v hpt r1
  have ew : ov = Value.ref a := rv
  subst ew
  have hp' : PropOf X.K Ca x pa ga := by rw [hX.g.K]; exact hp
  have cl' : Cls X.K Ca := by rw [hX.g.K]; exact ins.cl
  obtain ⟨mA, O, _⟩ := ins_get I1.hok ha
  obtain ⟨od, J, _⟩ := O.look
  obtain ⟨rest, hrec⟩ := hp'.rec_
  have I2 := I1.tok (s1.toks + 1)
  have hc : (PySem.W.clsIn X.K Ca).isSome = true := by
    obtain ⟨cd, hc, _⟩ := PySem.W.any_some cl'.hd
    rw [hc]; rfl
  obtain ⟨dvs, _, to⟩ := B0.to
  obtain ⟨ds, _, bt⟩ := to { s1 with toks := s1.toks + 1 } [.ref a] [] (by rw [← hX.g.K]; exact I2.kIn) rfl rfl
  have e0 := I2.env0.in1
  rw [hX.g.P, hX.g.w, hX.g.K, hX.g.mg, hX.g.base] at e0
  refine PySem.W.get_bind I1.kIn J (PySem.W.plainGet_of (cl'.get x)).1 (PySem.W.findObj_data hc hp'.at_ hp'.get hp'.tak) (PySem.W.plainGet_of (cl'.get x)).2 (wpAny_call (PySem.W.prop_get (s := { s1 with toks := s1.toks + 1 }) I1.kIn hrec ?_))
  rw [hX.g.P, hX.g.w]
  refine codeAny_mono (F.ok X.A.in1 X.stack { s1 with toks := s1.toks + 1 } H1 ⟨[.ref a], []⟩ [.ref a] [.ref a] Q (hX.g.room.mono hk).in1 hX.g.grd e0 bt (.cons rfl .nil) rfl
    ⟨m1, B, [.t d], hr1, ⟨_, _, rfl, r1, rfl⟩, F.mono _ _ _ _ (fun w B3 z3 v m3 H3 l3 hr3 r3 => z3 v m3 H3 (l1.trans hr.len l3) hr3 r3) q⟩) fun r s' hq => ?_
  cases r with
  | error e => cases (show False from hq)
  | ok fl =>
    cases fl with
    | ret u =>
      obtain ⟨v, H', I3, rv3, q3⟩ := I2.after (by rw [hX.g.P, hX.g.w]; exact hq)
      show wpAny (model C.g.P C.g.w) _ (handedOut u) _ _ _
      rw [PySem.W.handedOut_of (handed_of rv3)]
      exact wpAny_pure ⟨v, H', I3, rv3, q3⟩
    | next => exact False.elim hq
    | brk => exact False.elim hq
    | cont => exact False.elim hq

/-! ### C.m(..), a classmethod by its class's name -/
def vCm (c : Nat) (n nk : Nat) (S : OK2) (gp gk : DenA) : Den := fun env A Q => gp env A fun ws B => gk env B fun zs B2 => (W.t (.cls c) :: ws).length = n ∧ zs.length = nk ∧ S (W.t (.cls c) :: ws) zs B2 Q
theorem monCm {c nk : Nat} (hS : MonK S) (hp : MonA gp) (hk : MonA gk) : MonE (vCm c n nk S gp gk) := fun env A Q Q' k h => hp _ _ _ _ (fun ws B z => hk _ _ _ _ (fun zs B2 z2 => ⟨z2.1, z2.2.1, hS _ _ _ _ _ k z2.2.2⟩) z) h
theorem cm_call {X : Cx} {q ga : Addr} {us ws : List Value} {zs vs : List V} {ys xs : List W} {pins : List (Addr × Obj)} {s : Shared} {σ : L2.St} {H : Hp} {Q : VK} {mm : List Addr} {A : AH} {c : Nat} (hX : C.g.Has k X) (F : Cal C.g k (.ref ga) n ks S)
    (I : Inv X ((q, PySem.W.methodObj (.ref ga) (.ref (C.g.T.at_ c))) :: pins) σ H s) (r1 : Vals vs us) (r2 : Vals zs ws) (hr : HR C.g.K C.g.T mm A H) (q1 : RepWs C.g.K C.g.T mm A H xs vs) (q2 : RepWs C.g.K C.g.T mm A H ys zs) (e1 : (W.t (.cls c) :: xs).length = n) (e2 : ys.length = ks.length)
    (hs : S (W.t (.cls c) :: xs) ys A fun w A' => ∀ v m' H', Lt mm A H m' A' H' → HR C.g.K C.g.T m' A' H' → RepW C.g.K C.g.T m' A' H' w v → Q v H') : wpAny (model X.prog X.w) X.A (call (.ref q) us (ks.zip ws)) (EP X pins σ Q) X.xe s := by
  refine wpAny_call (PySem.W.method_call (ClX.pin_at I) (codeAny_mono (F.run X hX _ s σ H (Value.ref (C.g.T.at_ c) :: us) ws (.ref (C.g.T.at_ c) :: vs) zs Q mm A (W.t (.cls c) :: xs) ys I (.cons rfl r1) r2 hr ⟨_, _, rfl, by simp only [RepW, Rep], q1⟩ q2 e1 e2 hs) fun r s' hq => ?_))
  cases r with
  | error e => exact hq
  | ok fl =>
    cases fl with
    | ret u => exact ClX.unpinE hq
    | next => exact False.elim hq
    | brk => exact False.elim hq
    | cont => exact False.elim hq
theorem keep_cm {X : Cx} {q ga : Addr} {self : Value} (hf : PySem.W.fnIn X.K ga = true) : ∀ h, PySem.W.MethP X.K q ga self h → ∃ k, (k = Keeper.frame ∨ k = Keeper.machine ∨ k = Keeper.boundFrame) ∧ PySem.W.Looks (model X.prog X.w) h (keeperOf (.ref q)) k := fun h z => PySem.W.keeps_M hf h z
/-- C.m(e, ..) -/
theorem se_cm {c : Nat} {mc : Value} {pa ga : Addr} (pl : PySem.Env → Sem Bool) (ho : SE C o (vC (.cls c))) (rd : ClX.CRead C.g.K (C.g.T.at_ c) mc) (cm : ClX.CMet C.g.K (C.g.T.at_ c) mc m pa ga) (F : Cal C.g k (.ref ga) n ks S) (hk : k ≤ C.lev) (hp : SA C (e :: es) gp) (hkw : SK C kws gk) (sh : ∀ env, Shp (e :: es) kws ks pos env) (he : ∀ env : PySem.Env, starEach (e :: es) env = (false, eval e env) :: starEach es env)
    (ms : ∀ env, MShp o m apos (e :: es) kws pos (pl env) env) : SE C (.Call (.Attribute o m apos) (e :: es) kws pos) (vCm c n ks.length S gp gk) := by
  refine ⟨monCm F.mono hp.mono hkw.mono, fun X hX => ⟨fun pins s σ H Q I z => ?_⟩⟩
  obtain ⟨env, mm, A, er, hr, h⟩ := z
  refine PySem.W.methodCall_KW (pl := pl X.env) (thn ((ho.run X hX).run pins s σ H (fun v H1 => ∃ m1, v = .ref (C.g.T.at_ c) ∧ Lt mm A H m1 A H1 ∧ HR C.g.K C.g.T m1 A H1) I ⟨env, mm, A, er, hr, fun v m1 H1 l1 hr1 r1 => by
    simp only [RepW, Rep] at r1
    exact ⟨m1, r1, l1, hr1⟩⟩) fun ov s1 z1 => ?_) (ms X.env).symm
  obtain ⟨v, H1, I1, rv, m1, rfl, l1, hr1⟩ := z1
  have ew : ov = Value.ref (C.g.T.at_ c) := rv
  subst ew
  have rd' : ClX.CRead X.K (C.g.T.at_ c) mc := by rw [hX.g.K]; exact rd
  have cm' : ClX.CMet X.K (C.g.T.at_ c) mc m pa ga := by rw [hX.g.K]; exact cm
  refine ClX.getmethcm_ok I1 rd' cm' fun s2 I2 => ?_
  refine PySem.W.callWith_of (P := PySem.W.MethP X.K s1.heap.objs.size ga (.ref (C.g.T.at_ c))) (sh X.env).pl (keep_cm cm'.fi) (PyProof.Rows.evalArgs_kw2 (sh X.env).all (thn ((hp.run X hX).run pos _ s2 σ H1 (fun vs H2 => tA C.g.K C.g.T gk σ H2 fun zs H3 => ∃ m3 A3 xs ys, HR C.g.K C.g.T m3 A3 H3 ∧ RepWs C.g.K C.g.T m3 A3 H3 xs vs ∧ RepWs C.g.K C.g.T m3 A3 H3 ys zs ∧ (W.t (.cls c) :: xs).length = n ∧ ys.length = ks.length ∧ S (W.t (.cls c) :: xs) ys A3 fun w A' => ∀ v m' H', Lt m3 A3 H3 m' A' H' → HR C.g.K C.g.T m' A' H' → RepW C.g.K C.g.T m' A' H' w v → Q v H') I2
    ⟨env, m1, A, er.lt l1 hr.len, hr1, hp.mono _ _ _ _ (fun xs B z vs m2 H2 l2 hr2 r2 => ?_) h⟩) fun us s3 z3 => ?_) (he X.env))
  · refine ⟨env, m2, B, (er.lt l1 hr.len).lt l2 hr1.len, hr2, hkw.mono _ _ _ _ (fun ys B3 z3 zs m3 H3 l3 hr3 r3 => ?_) z⟩
    exact ⟨m3, B3, xs, ys, hr3, RepWs.lt l3 hr2.len _ _ r2, r3, z3.1, z3.2.1, F.mono _ _ _ _ _ (fun w B4 z4 v m4 H4 l4 hr4 r4 => z4 v m4 H4 (l1.trans hr.len (l2.trans hr1.len (l3.trans hr2.len l4))) hr4 r4) z3.2.2⟩
  · obtain ⟨vs, H2, I3, r1, q1⟩ := z3
    refine thn ((hkw.run X hX).run pos _ s3 σ H2 _ I3 q1) fun ws s4 z4 => ?_
    obtain ⟨zs, H3, I4, rz, m3, A3, xs, ys, hr3, w1, w2, e1, e2, hs⟩ := z4
    refine ⟨⟨ClX.pin_at I4, I4.kIn⟩, ?_⟩
    rw [(sh X.env).ks]
    exact cm_call (hX.g.mono hk) F I4 r1 rz hr3 w1 w2 e1 e2 hs
theorem se_cm0 {c : Nat} {mc : Value} {pa ga : Addr} (pl : PySem.Env → Sem Bool) (ho : SE C o (vC (.cls c))) (rd : ClX.CRead C.g.K (C.g.T.at_ c) mc) (cm : ClX.CMet C.g.K (C.g.T.at_ c) mc m pa ga) (F : Cal C.g k (.ref ga) n ks S) (hk : k ≤ C.lev) (hkw : SK C kws gk) (sh : ∀ env, Shp [] kws ks pos env)
    (ms : ∀ env, MShp o m apos [] kws pos (pl env) env) : SE C (.Call (.Attribute o m apos) [] kws pos) (vCm c n ks.length S vNil gk) := by
  refine ⟨monCm F.mono (fun _ _ _ _ k h => k _ _ h) hkw.mono, fun X hX => ⟨fun pins s σ H Q I z => ?_⟩⟩
  obtain ⟨env, mm, A, er, hr, h⟩ := z
  refine PySem.W.methodCall_KW (pl := pl X.env) (thn ((ho.run X hX).run pins s σ H (fun v H1 => ∃ m1, v = .ref (C.g.T.at_ c) ∧ Lt mm A H m1 A H1 ∧ HR C.g.K C.g.T m1 A H1) I ⟨env, mm, A, er, hr, fun v m1 H1 l1 hr1 r1 => by
    simp only [RepW, Rep] at r1
    exact ⟨m1, r1, l1, hr1⟩⟩) fun ov s1 z1 => ?_) (ms X.env).symm
  obtain ⟨v, H1, I1, rv, m1, rfl, l1, hr1⟩ := z1
  have ew : ov = Value.ref (C.g.T.at_ c) := rv
  subst ew
  have rd' : ClX.CRead X.K (C.g.T.at_ c) mc := by rw [hX.g.K]; exact rd
  have cm' : ClX.CMet X.K (C.g.T.at_ c) mc m pa ga := by rw [hX.g.K]; exact cm
  refine ClX.getmethcm_ok I1 rd' cm' fun s2 I2 => ?_
  refine PySem.W.callWith_of (P := PySem.W.MethP X.K s1.heap.objs.size ga (.ref (C.g.T.at_ c))) (sh X.env).pl (keep_cm cm'.fi) (PyProof.Rows.evalArgs_kw2_nil (sh X.env).all (thn ((hkw.run X hX).run pos _ s2 σ H1 (fun zs H3 => ∃ m3 A3 ys, HR C.g.K C.g.T m3 A3 H3 ∧ RepWs C.g.K C.g.T m3 A3 H3 ys zs ∧ [W.t (.cls c)].length = n ∧ ys.length = ks.length ∧ S [W.t (.cls c)] ys A3 fun w A' => ∀ v m' H', Lt m3 A3 H3 m' A' H' → HR C.g.K C.g.T m' A' H' → RepW C.g.K C.g.T m' A' H' w v → Q v H') I2
    ⟨env, m1, A, er.lt l1 hr.len, hr1, hkw.mono _ _ _ _ (fun ys B3 z3 zs m3 H3 l3 hr3 r3 => ?_) h⟩) fun ws s4 z4 => ?_))
  · exact ⟨m3, B3, ys, hr3, r3, z3.1, z3.2.1, F.mono _ _ _ _ _ (fun w B4 z4 v m4 H4 l4 hr4 r4 => z4 v m4 H4 (l1.trans hr.len (l3.trans hr1.len l4)) hr4 r4) z3.2.2⟩
  · obtain ⟨zs, H3, I4, rz, m3, A3, ys, hr3, w2, e1, e2, hs⟩ := z4
    refine ⟨⟨ClX.pin_at I4, I4.kIn⟩, ?_⟩
    rw [(sh X.env).ks]
    exact cm_call (us := []) (vs := []) (xs := []) (hX.g.mono hk) F I4 .nil rz hr3 rfl w2 e1 e2 hs
end
end Hw
namespace Hw
open PySem L2

/-! ### fields -/
section
variable {C : Ctx} {k n : Nat} {e a b c o : Expr} {f g : Den} {pos pos' p apos : Pos} {x m : Str} {gp : DenA}
/-- the classes of whose instances x may be a field: plain, no attribute of the class -/
structure FldOk (G : Gc) (x : Str) : Prop where
  rat : x = "_top" ∨ x = "_bottom" → Cls G.K (G.T.at_ 0) ∧ NoAttr G.K (G.T.at_ 0) x
  ins : ∀ c, x ∈ G.T.flds c → Cls G.K (G.T.at_ c) ∧ NoAttr G.K (G.T.at_ c) x
def fldW (T : Tb) (x : Str) (w : W) (B : AH) : Option D := match w with
  | .t (.rat q) => if x = "_top" then some (.int q.num) else if x = "_bottom" then some (.int q.den) else none
  | .t (.ins c l) => ((T.flds c).zip l).lookup x
  | _ => none
def vFld (T : Tb) (x : Str) (f : Den) : Den := fun env A Q => f env A fun w B => match fldW T x w B with
  | some d => Q (.t d) B
  | none => False
theorem zip_look {K : PySem.W.Frag} {T : Tb} {m : List Addr} {A : AH} {H : Hp} {x : Str} : ∀ {ns : List Str} {l : List D} {vs : List V} {d : D}, Reps K T m A H l vs → (ns.zip l).lookup x = some d → x ∈ ns ∧ ∃ v, (ns.zip vs).lookup x = some v ∧ Rep K T m A H d v
  | [], l, vs, d, r, e => by simp at e
  | n :: ns, [], vs, d, r, e => by simp at e
  | n :: ns, y :: l, vs, d, r, e => by
    simp only [Reps] at r
    obtain ⟨v, q, rfl, r1, r2⟩ := r
    rw [List.zip_cons_cons, List.lookup_cons] at e ⊢
    cases hb : x == n with
    | true =>
      rw [hb] at e
      cases e
      exact ⟨by rw [beq_iff_eq.mp hb]; exact List.mem_cons_self, v, rfl, r1⟩
    | false =>
      rw [hb] at e
      obtain ⟨h1, h2⟩ := zip_look r2 e
      exact ⟨.tail _ h1, h2⟩
theorem se_fld (ho : SE C o f) (fo : FldOk C.g x) (hb : ∀ env : PySem.Env, attributeBase o x env (eval o env) = eval o env) : SE C (.Attribute o x pos) (vFld C.g.T x f) := by
  refine ⟨fun env A Q Q' k h => ho.mono _ _ _ _ (fun w B z => ?_) h, fun X hX => PE.weak (pe_fld (ho.run X hX) (hb X.env)) fun σ H Q z => ?_⟩
  · split at z
    · exact k _ _ z
    · exact z.elim
  · obtain ⟨env, mm, A, er, hr, h⟩ := z
    refine ⟨env, mm, A, er, hr, ho.mono _ _ _ _ (fun w B z v m1 H1 l1 hr1 r1 => ?_) h⟩
    split at z
    · rename_i d hd
      unfold fldW at hd
      split at hd
      · rename_i q
        simp only [RepW, Rep] at r1
        obtain ⟨p, dx, rfl, hp, _⟩ := r1
        rw [hX.g.K]
        by_cases e1 : x = "_top"
        · rw [if_pos e1] at hd
          cases hd
          subst e1
          exact ⟨p, _, dx, _, .int q.num, rfl, hp, (fo.rat (.inl rfl)).1, (fo.rat (.inl rfl)).2, by unfold ratF; rw [List.lookup_cons, beq_self_eq_true], z _ m1 H1 l1 hr1 (by simp only [RepW, Rep])⟩
        · rw [if_neg e1] at hd
          by_cases e2 : x = "_bottom"
          · rw [if_pos e2] at hd
            cases hd
            subst e2
            exact ⟨p, _, dx, _, .int q.den, rfl, hp, (fo.rat (.inr rfl)).1, (fo.rat (.inr rfl)).2, by unfold ratF; rw [List.lookup_cons, show (("_bottom" : Str) == "_top") = false by decide +kernel, List.lookup_cons, beq_self_eq_true], z _ m1 H1 l1 hr1 (by simp only [RepW, Rep])⟩
          · rw [if_neg e2] at hd; cases hd
      · rename_i c l
        simp only [RepW, Rep] at r1
        obtain ⟨p, dx, vs, rfl, hp, hz, _, r1⟩ := r1
        obtain ⟨h1, v, h2, h3⟩ := zip_look r1 hd
        rw [hX.g.K]
        exact ⟨p, _, dx, _, v, rfl, hp, (fo.ins c h1).1, (fo.ins c h1).2, h2, z _ m1 H1 l1 hr1 h3⟩
      · cases hd
    · exact z.elim

/-! ### self.x = e, of an instance in the making -/
def putD (x : Str) (d : D) : List (Str × D) → List (Str × D)
  | [] => [(x, d)]
  | (y, w) :: r => if y = x then (y, d) :: r else (y, w) :: putD x d r
theorem putD_rep {K : PySem.W.Frag} {T : Tb} {m : List Addr} {A : AH} {H : Hp} {x : Str} {d : D} {v : V} (r0 : Rep K T m A H d v) : ∀ {fs : List (Str × D)} {vs : List (Str × V)}, RepFs K T m A H fs vs → RepFs K T m A H (putD x d fs) (putF x v vs)
  | [], vs, r => by
    obtain rfl : vs = [] := r
    exact ⟨v, [], rfl, r0, rfl⟩
  | (y, w) :: fs, vs, r => by
    obtain ⟨u, q, rfl, r1, r2⟩ := r
    by_cases hy : y = x
    · simp only [putD, putF, if_pos hy]; exact ⟨v, q, rfl, r0, r2⟩
    · simp only [putD, putF, if_neg hy]; exact ⟨u, _, rfl, r1, putD_rep r0 r2⟩
theorem RepFs.length {K : PySem.W.Frag} {T : Tb} {m : List Addr} {A : AH} {H : Hp} : ∀ {fs : List (Str × D)} {vs : List (Str × V)}, RepFs K T m A H fs vs → fs.length = vs.length
  | [], vs, r => by
    obtain rfl : vs = [] := r
    rfl
  | (y, w) :: fs, vs, r => by
    obtain ⟨u, q, rfl, _, r2⟩ := r
    rw [List.length_cons, List.length_cons, RepFs.length r2]
@[irreducible] def putW (c : Nat) (x : Str) (y : W) (w : W) (B : AH) (Kn : AH → Prop) : Prop := match y, w with
  | .t d, .loc n => match B[n]? with
    | some (.live (.ins c' fs)) => c' = c ∧ fs.length < 100 ∧ Kn (B.set n (.live (.ins c' (putD x d fs))))
    | _ => False
  | _, _ => False
def vSetF (c : Nat) (x : Str) (f g : Den) : DenS := fun D env A => f env A fun y B => g env B fun w B2 => putW c x y w B2 fun B3 => D.nx env B3
theorem putW_mono {c : Nat} {x : Str} {y w : W} {B : AH} {Kn Kn' : AH → Prop} (k : ∀ B, Kn B → Kn' B) (h : putW c x y w B Kn) : putW c x y w B Kn' := by
  unfold putW at h ⊢
  split at h
  · split at h
    · exact ⟨h.1, h.2.1, k _ h.2.2⟩
    · exact h.elim
  · exact h.elim
/-- the class of the instance in the making -/
theorem ss_fld {cc : Nat} (cl : Cls C.g.K (C.g.T.at_ cc)) (na : NoAttr C.g.K (C.g.T.at_ cc) x) (ho : SE C o g) (he : SE C e f) (hs : ∀ env : PySem.Env, swapsWith e (some (.Attribute o x pos')) pos.line env = pure false) : SS C (.Assign [.Attribute o x pos'] e pos) (vSetF cc x f g) := by
  refine ⟨fun D D' env A k h => he.mono _ _ _ _ (fun y B z => ho.mono _ _ _ _ (fun w B2 z2 => putW_mono (fun B3 z3 => k.nx _ _ z3) z2) z) h, fun X hX => PS.weak (ps_fld (ho.run X hX) (he.run X hX) (hs X.env)) fun D σ H z => ?_⟩
  obtain ⟨env, m, A, er, hr, h⟩ := z
  refine ⟨env, m, A, er, hr, he.mono _ _ _ _ (fun y B z v m1 H1 l1 hr1 r1 => ?_) h⟩
  refine ⟨env, m1, B, er.lt l1 hr.len, hr1, ho.mono _ _ _ _ (fun w B2 z2 v2 m2 H2 l2 hr2 r2 => ?_) z⟩
  unfold putW at z2
  split at z2
  · rename_i d n
    obtain ⟨p, rfl, hp⟩ := r2
    split at z2
    · rename_i c' fs hc
      obtain ⟨dx, vfs, h1, h2⟩ := hr2.cell _ _ _ hp hc
      obtain ⟨rfl, hz, z2⟩ := z2
      rw [hX.g.K]
      refine ⟨p, _, dx, vfs, rfl, h1, cl, na, by rw [← h2.length]; omega, ?_⟩
      have l3 := Lt.put (H := H2) (o' := .ins c' (putD x d fs)) (u := .ins (C.g.T.at_ c') dx (putF x v vfs)) hr2.nd hp hc
      have L := l1.trans hr.len (l2.trans hr1.len l3)
      refine z2 σ m2 _ L (hr2.put hp hc ⟨dx, _, upd_same, putD_rep ?_ ?_⟩) (er.lt L hr.len)
      · exact RepW.lt (l2.trans hr1.len l3) hr1.len (.t d) v r1
      · exact RepFs.lt l3 hr2.len _ _ h2
    · exact z2.elim
  · exact z2.elim

/-! ### subscripts -/
@[irreducible] def ixW (w i : W) (B : AH) (Q : WK) : Prop := match w, i with
  | .t (.tup l), .t (.int j) => match atI l j with
    | some d => Q (.t d) B
    | none => False
  | .t (.lst l), .t (.int j) => match atI l j with
    | some d => Q (.t d) B
    | none => False
  | .loc n, .t (.int j) => match B[n]? with
    | some (.live (.lst l)) => match atI l j with
      | some d => Q (.t d) B
      | none => False
    | _ => False
  | _, _ => False
theorem ixW_mono {w i : W} {B : AH} {Q Q' : WK} (k : ∀ w B, Q w B → Q' w B) (h : ixW w i B Q) : ixW w i B Q' := by
  unfold ixW at h ⊢
  split at h
  · split at h
    · exact k _ _ h
    · exact h.elim
  · split at h
    · exact k _ _ h
    · exact h.elim
  · split at h
    · split at h
      · exact k _ _ h
      · exact h.elim
    · exact h.elim
  · exact h.elim
theorem reps_at {K : PySem.W.Frag} {T : Tb} {m : List Addr} {A : AH} {H : Hp} {l : List D} {vs : List V} {j : Int} {d : D} (r : Reps K T m A H l vs) (e : atI l j = some d) : ∃ v, atI vs j = some v ∧ Rep K T m A H d v := by
  have hz := r.length
  unfold atI at e ⊢
  rw [← hz]
  cases q : ixN l.length j with
  | none => simp only [q] at e; cases e
  | some i =>
    rw [q] at e
    exact reps_get r e
theorem tE_mono {K : PySem.W.Frag} {T : Tb} {f : Den} (hf : MonE f) {σ : L2.St} {H : Hp} {Q Q' : VK} (k : ∀ v H', Q v H' → Q' v H') (z : tE K T f σ H Q) : tE K T f σ H Q' := by
  obtain ⟨env, m, A, er, hr, h⟩ := z
  exact ⟨env, m, A, er, hr, hf _ _ _ _ (fun w B z v m' H' l h' r => k _ _ (z v m' H' l h' r)) h⟩
theorem twoR {K : PySem.W.Frag} {T : Tb} {r : O2} {rr : R2} (hg : MonE g) (hf : MonE f) (hm : Mon2 r) (hr : ∀ x y H Q, tR2 K T r x y H Q → rr x y H Q) {σ : L2.St} {H : Hp} {Q : VK} (z : tE K T (vBin r f g) σ H Q) : tOp rr (tE K T f) (tE K T g) σ H Q :=
  tE_mono hf (fun x H1 z1 => tE_mono hg (fun y H2 z2 => hr _ _ _ _ z2) z1) (two hg hf hm z)
theorem se_ix (ha : SE C a f) (hb : SE C b g) (hs : ∀ o i, subscripted b false o i = operate [o, i] (getItem o i)) : SE C (.Subscript a b pos) (vBin ixW f g) := by
  have hm : Mon2 ixW := fun x y A Q Q' k h => ixW_mono k h
  refine ⟨monBin hm ha.mono hb.mono, fun X hX => PE.weak (pe_ix ix_seq (ha.run X hX) (hb.run X hX) hs) fun σ H Q z => twoR hb.mono ha.mono hm (fun x y H Q z => ?_) z⟩
  obtain ⟨m, A, w1, w2, hr, r1, r2, z⟩ := z
  rw [hX.g.K]
  unfold ixW at z
  split at z
  · split at z
    · rename_i hd
      simp only [RepW, Rep] at r1 r2
      obtain ⟨p, vs, rfl, h1, r1⟩ := r1
      obtain ⟨v, h2, h3⟩ := reps_at r1 hd
      exact .inr (.inl ⟨p, vs, _, v, rfl, r2, tup_sq h1, h2, z v m H Lt.refl hr h3⟩)
    · exact z.elim
  · split at z
    · rename_i hd
      simp only [RepW, Rep] at r1 r2
      obtain ⟨p, vs, rfl, h1, r1⟩ := r1
      obtain ⟨v, h2, h3⟩ := reps_at r1 hd
      exact .inl ⟨p, vs, _, v, rfl, r2, lst_sq h1, h2, z v m H Lt.refl hr h3⟩
    · exact z.elim
  · rename_i n j
    obtain ⟨p, rfl, hp⟩ := r1
    simp only [RepW, Rep] at r2
    split at z
    · rename_i hc
      split at z
      · rename_i hd
        obtain ⟨vs, h1, r3⟩ := hr.cell _ _ _ hp hc
        obtain ⟨v, h2, h3⟩ := reps_at r3 hd
        exact .inl ⟨p, vs, _, v, rfl, r2, SqL.of h1, h2, z v m H Lt.refl hr h3⟩
      · exact z.elim
    · exact z.elim
  · exact z.elim

/-! ### o[i] = e, of a list that may change -/
@[irreducible] def setW (o i y : W) (B : AH) (Kn : AH → Prop) : Prop := match o, i, y with
  | .loc n, .t (.int j), .t d => match B[n]? with
    | some (.live (.lst l)) => match ixN l.length j with
      | some jj => Kn (B.set n (.live (.lst (l.set jj d))))
      | none => False
    | _ => False
  | _, _, _ => False
theorem setW_mono {o i y : W} {B : AH} {Kn Kn' : AH → Prop} (k : ∀ B, Kn B → Kn' B) (h : setW o i y B Kn) : setW o i y B Kn' := by
  unfold setW at h ⊢
  split at h
  · split at h
    · split at h
      · exact k _ h
      · exact h.elim
    · exact h.elim
  · exact h.elim
theorem Reps.set {K : PySem.W.Frag} {T : Tb} {m : List Addr} {A : AH} {H : Hp} {d : D} {v : V} (r0 : Rep K T m A H d v) : ∀ {l : List D} {vs : List V} (j : Nat), Reps K T m A H l vs → Reps K T m A H (l.set j d) (vs.set j v)
  | [], vs, j, r => by
    simp only [Reps] at r
    subst r
    simp only [List.set_nil, Reps]
  | y :: l, vs, 0, r => by
    simp only [Reps] at r
    obtain ⟨u, q, rfl, r1, r2⟩ := r
    simp only [List.set_cons_zero, Reps]
    exact ⟨v, q, rfl, r0, r2⟩
  | y :: l, vs, j + 1, r => by
    simp only [Reps] at r
    obtain ⟨u, q, rfl, r1, r2⟩ := r
    simp only [List.set_cons_succ, Reps]
    exact ⟨u, _, rfl, r1, Reps.set r0 j r2⟩
def dSub (fo fi : Den) : DenG := fun w env A Q => fo env A fun o B => fi env B fun i B2 => setW o i w B2 fun B3 => Q env B3
theorem sg_sub (ho : SE C a f) (hi : SE C b g) (hs : ∀ (env : PySem.Env) v, assign (.Subscript a b pos) env v = (do
      let ov ← holding [v] (eval a env)
      let iv ← holding [v, ov] (eval b env)
      standAt pos
      (holding [v, ov, iv] (setItem ov iv v) : Sem Unit); release [v, ov, iv] [])) : SG C (.Subscript a b pos) [] (dSub f g) := by
  refine ⟨fun w env A Q Q' k h => ho.mono _ _ _ _ (fun o B z => hi.mono _ _ _ _ (fun i B2 z2 => setW_mono (fun B3 z3 => k _ _ z3) z2) z) h, fun X hX => PG.weak (pg_sub (ho.run X hX) (hi.run X hX) set_list (hs X.env)) fun v σ H Q z => ?_⟩
  obtain ⟨env, m, A, w, er, hr, r, h⟩ := z
  refine ⟨env, m, A, er, hr, ho.mono _ _ _ _ (fun o B z vo m1 H1 l1 hr1 r1 => ?_) h⟩
  refine ⟨env, m1, B, er.lt l1 hr.len, hr1, hi.mono _ _ _ _ (fun i B2 z2 vi m2 H2 l2 hr2 r2 => ?_) z⟩
  have r1' := RepW.lt l2 hr1.len _ _ r1
  have rr := RepW.lt (l1.trans hr.len l2) hr.len _ _ r
  unfold setW at z2
  split at z2
  · rename_i n j d
    obtain ⟨p, rfl, hp⟩ := r1'
    simp only [RepW, Rep] at r2
    subst r2
    split at z2
    · rename_i l hc
      split at z2
      · rename_i jj hj
        obtain ⟨vs, h1, r3⟩ := hr2.cell _ _ _ hp hc
        refine ⟨p, vs, j, jj, rfl, rfl, h1, by rw [← r3.length]; exact hj, ?_⟩
        have l3 := Lt.put (H := H2) (o' := .lst (l.set jj d)) (u := .lst (vs.set jj v)) hr2.nd hp hc
        have L := l1.trans hr.len (l2.trans hr1.len l3)
        exact z2 σ m2 _ L (hr2.put hp hc ⟨_, upd_same, Reps.set (RepW.lt l3 hr2.len (.t d) v rr) jj (Reps.lt l3 hr2.len _ _ r3)⟩) (er.lt L hr.len) ⟨rfl, fun _ _ => rfl⟩
      · exact z2.elim
    · exact z2.elim
  · exact z2.elim
end

/-! ### arithmetic -/
section
variable {G : Gc} {k : Nat}
@[irreducible] def Sm (i : Int) : Prop := i.natAbs < 2 ^ 8000
theorem Sm.lt {i : Int} (h : Sm i) : i.natAbs < 2 ^ 8000 := by unfold Sm at h; exact h
theorem Sm.of {i : Int} (h : i.natAbs < 2 ^ 8000) : Sm i := by unfold Sm; exact h
theorem Sm.log {i : Int} (h : Sm i) : i.natAbs.log2 < 9000 := by
  by_cases h0 : i.natAbs = 0
  · rw [h0]; decide +kernel
  · exact Nat.lt_of_lt_of_le ((Nat.log2_lt h0).mpr h.lt) (by decide)
/-- + and its kin on ints, texts, lists, tuples -/
def addW : O2 := fun x y A Q => match x, y with
  | .t (.int i), .t (.int j) => Q (.t (.int (i + j))) A
  | .t (.str a), .t (.str b) => a.length + b.length ≤ 100000 ∧ Q (.t (.str (a ++ b))) A
  | _, _ => False
def subW : O2 := fun x y A Q => match x, y with
  | .t (.int i), .t (.int j) => Q (.t (.int (i - j))) A
  | _, _ => False
def mulW : O2 := fun x y A Q => match x, y with
  | .t (.int i), .t (.int j) => Sm i ∧ Sm j ∧ Q (.t (.int (i * j))) A
  | _, _ => False
def fdivW : O2 := fun x y A Q => match x, y with
  | .t (.int i), .t (.int j) => j ≠ 0 ∧ Sm j ∧ Q (.t (.int (i.fdiv j))) A
  | _, _ => False
def modW : O2 := fun x y A Q => match x, y with
  | .t (.int i), .t (.int j) => j ≠ 0 ∧ Q (.t (.int (i.fmod j))) A
  | _, _ => False
def powW : O2 := fun x y A Q => match x, y with
  | .t (.int i), .t (.int j) => (0 ≤ j ∧ j ≤ 1000 ∧ i.natAbs < 2 ^ 64) ∧ Q (.t (.int (i ^ j.toNat))) A
  | _, _ => False
def negW : O1 := fun x A Q => match x with
  | .t (.int i) => Q (.t (.int (-i))) A
  | _ => False
theorem mon_addW : Mon2 addW := fun x y A Q Q' k h => by
  unfold addW at h ⊢
  split at h
  · exact k _ _ h
  · exact ⟨h.1, k _ _ h.2⟩
  · exact h.elim
theorem mon_subW : Mon2 subW := fun x y A Q Q' k h => by
  unfold subW at h ⊢
  split at h
  · exact k _ _ h
  · exact h.elim
theorem mon_mulW : Mon2 mulW := fun x y A Q Q' k h => by
  unfold mulW at h ⊢
  split at h
  · exact ⟨h.1, h.2.1, k _ _ h.2.2⟩
  · exact h.elim
theorem mon_fdivW : Mon2 fdivW := fun x y A Q Q' k h => by
  unfold fdivW at h ⊢
  split at h
  · exact ⟨h.1, h.2.1, k _ _ h.2.2⟩
  · exact h.elim
theorem mon_modW : Mon2 modW := fun x y A Q Q' k h => by
  unfold modW at h ⊢
  split at h
  · exact ⟨h.1, k _ _ h.2⟩
  · exact h.elim
theorem mon_powW : Mon2 powW := fun x y A Q Q' k h => by
  unfold powW at h ⊢
  split at h
  · exact ⟨h.1, k _ _ h.2⟩
  · exact h.elim
theorem mon_negW : Mon1 negW := fun x A Q Q' k h => by
  unfold negW at h ⊢
  split at h
  · exact k _ _ h
  · exact h.elim
theorem OpR.weak {X : Cx} {f : Value → Value → Sem Value} {r r' : R2} (h : OpR X f r) (k : ∀ x y H Q, r' x y H Q → r x y H Q) : OpR X f r' := fun pins s σ H x y v u Q I rx ry z => h pins s σ H x y v u Q I rx ry (k x y H Q z)
theorem repInt {K : PySem.W.Frag} {T : Tb} {m : List Addr} {A : AH} {H : Hp} {i : Int} : RepW K T m A H (.t (.int i)) (.int i) := by simp only [RepW, Rep]
theorem so_add : SO2 G k (binaryOp .Add) addW := ⟨mon_addW, fun X hX => OpR.weak (op_add.or op_add_str) fun x y H Q z => by
  obtain ⟨m, A, w1, w2, hr, r1, r2, z⟩ := z
  unfold addW at z
  split at z
  · simp only [RepW, Rep] at r1 r2
    exact .inl ⟨_, _, r1, r2, z _ m H Lt.refl hr repInt⟩
  · simp only [RepW, Rep] at r1 r2
    exact .inr ⟨_, _, r1, r2, Nat.le_trans z.1 (by rw [sizeLine_eq]; decide), z.2 _ m H Lt.refl hr (by simp only [RepW, Rep])⟩
  · exact z.elim⟩
theorem so_sub : SO2 G k (binaryOp .Sub) subW := ⟨mon_subW, fun X hX => OpR.weak op_sub fun x y H Q z => by
  obtain ⟨m, A, w1, w2, hr, r1, r2, z⟩ := z
  unfold subW at z
  split at z
  · simp only [RepW, Rep] at r1 r2
    exact ⟨_, _, r1, r2, z _ m H Lt.refl hr repInt⟩
  · exact z.elim⟩
theorem so_mul : SO2 G k (binaryOp .Mult) mulW := ⟨mon_mulW, fun X hX => OpR.weak op_mulW fun x y H Q z => by
  obtain ⟨m, A, w1, w2, hr, r1, r2, z⟩ := z
  unfold mulW at z
  split at z
  · simp only [RepW, Rep] at r1 r2
    exact ⟨_, _, r1, r2, wide_mul z.1.lt z.2.1.lt (by decide) (by decide) (by decide), z.2.2 _ m H Lt.refl hr repInt⟩
  · exact z.elim⟩
theorem op_fdivB {X : Cx} : OpR X (binaryOp .FloorDiv) (rI (fun _ j => j ≠ 0 ∧ j.natAbs.log2 < 9000) fun i j => .int (i.fdiv j)) := opI fun _ _ _ _ _ _ _ hc q => PyProof.Rows.floordiv_int hc.1 q (.inl (PyProof.noPylong_of_log2 hc.2))
theorem so_fdiv : SO2 G k (binaryOp .FloorDiv) fdivW := ⟨mon_fdivW, fun X hX => OpR.weak op_fdivB fun x y H Q z => by
  obtain ⟨m, A, w1, w2, hr, r1, r2, z⟩ := z
  unfold fdivW at z
  split at z
  · simp only [RepW, Rep] at r1 r2
    exact ⟨_, _, r1, r2, ⟨z.1, z.2.1.log⟩, z.2.2 _ m H Lt.refl hr repInt⟩
  · exact z.elim⟩
theorem so_mod : SO2 G k (binaryOp .Mod) modW := ⟨mon_modW, fun X hX => OpR.weak op_modN fun x y H Q z => by
  obtain ⟨m, A, w1, w2, hr, r1, r2, z⟩ := z
  unfold modW at z
  split at z
  · simp only [RepW, Rep] at r1 r2
    exact ⟨_, _, r1, r2, z.1, z.2 _ m H Lt.refl hr repInt⟩
  · exact z.elim⟩
theorem so_pow : SO2 G k (binaryOp .Pow) powW := ⟨mon_powW, fun X hX => OpR.weak op_pow fun x y H Q z => by
  obtain ⟨m, A, w1, w2, hr, r1, r2, z⟩ := z
  unfold powW at z
  split at z
  · simp only [RepW, Rep] at r1 r2
    exact ⟨_, _, r1, r2, ⟨z.1.1, Int.le_trans z.1.2.1 (by decide), z.1.2.2⟩, z.2 _ m H Lt.refl hr repInt⟩
  · exact z.elim⟩
theorem so_neg : SO1 G k (unaryOp .USub) negW := ⟨mon_negW, fun X hX => fun pins s σ H x v Q I rx z => un_neg pins s σ H x v Q I rx (by
  obtain ⟨m, A, w1, hr, r1, z⟩ := z
  unfold negW at z
  split at z
  · simp only [RepW, Rep] at r1
    exact ⟨_, r1, z _ m H Lt.refl hr repInt⟩
  · exact z.elim)⟩

/-! ### comparisons of scalars -/
def ordW (r : Int → Int → Bool) : O2 := fun x y A Q => match x, y with
  | .t (.int i), .t (.int j) => Q (.t (.bl (r i j))) A
  | _, _ => False
theorem mon_ordW {r : Int → Int → Bool} : Mon2 (ordW r) := fun x y A Q Q' k h => by
  unfold ordW at h ⊢
  split at h
  · exact k _ _ h
  · exact h.elim
theorem ord_run {X : Cx} {op : CmpOp} {r : Int → Int → Bool} (hX : G.Has k X) (ho : OpR X (compareOp op) (rI0 fun i j => .bl (r i j))) : OpR X (compareOp op) (tR2 G.K G.T (ordW r)) := OpR.weak ho fun x y H Q z => by
  obtain ⟨m, A, w1, w2, hr, r1, r2, z⟩ := z
  unfold ordW at z
  split at z
  · simp only [RepW, Rep] at r1 r2
    exact ⟨_, _, r1, r2, z _ m H Lt.refl hr (by simp only [RepW, Rep])⟩
  · exact z.elim
theorem so_lt : SO2 G k (compareOp .Lt) (ordW fun i j => decide (i < j)) := ⟨mon_ordW, fun X hX => ord_run hX op_lt⟩
theorem so_le : SO2 G k (compareOp .LtE) (ordW fun i j => decide (i ≤ j)) := ⟨mon_ordW, fun X hX => ord_run hX op_le⟩
theorem so_gt : SO2 G k (compareOp .Gt) (ordW fun i j => decide (j < i)) := ⟨mon_ordW, fun X hX => ord_run hX op_gt⟩
theorem so_ge : SO2 G k (compareOp .GtE) (ordW fun i j => decide (j ≤ i)) := ⟨mon_ordW, fun X hX => ord_run hX op_ge⟩
/-- == of scalars -/
def eqS : D → D → Option Bool
  | .int i, .int j => some (i == j)
  | .str a, .str b => some (a == b)
  | .bl a, .bl b => some (a == b)
  | .non, .non => some true
  | .non, .int _ => some false
  | .int _, .non => some false
  | .non, .str _ => some false
  | .str _, .non => some false
  | .non, .bl _ => some false
  | .bl _, .non => some false
  | .int _, .str _ => some false
  | .str _, .int _ => some false
  | .bl _, .str _ => some false
  | .str _, .bl _ => some false
  | _, _ => none
def eqSW (neg : Bool) : O2 := fun x y A Q => match x, y with
  | .t a, .t b => match eqS a b with
    | some r => Q (.t (.bl (r != neg))) A
    | none => False
  | _, _ => False
theorem mon_eqSW {neg : Bool} : Mon2 (eqSW neg) := fun x y A Q Q' k h => by
  unfold eqSW at h ⊢
  split at h
  · split at h
    · exact k _ _ h
    · exact h.elim
  · exact h.elim
theorem eqS_V {K : PySem.W.Frag} {T : Tb} {m : List Addr} {A : AH} {H : Hp} {a b : D} {x y : V} {r : Bool} (e : eqS a b = some r) (ra : Rep K T m A H a x) (rb : Rep K T m A H b y) : scal x y = true ∧ decide (x = y) = r := by
  cases a <;> cases b <;> simp only [eqS] at e <;> first | (cases e; done) | skip
  all_goals (simp only [Rep] at ra rb; subst ra rb; (cases e; refine ⟨rfl, ?_⟩; first | exact dec_int | exact dec_bl | exact dec_str | simp))
theorem so_eqS : SO2 G k (compareOp .Eq) (eqSW false) := ⟨mon_eqSW, fun X hX => OpR.weak op_eq fun x y H Q z => by
  obtain ⟨m, A, w1, w2, hr, r1, r2, z⟩ := z
  unfold eqSW at z
  split at z
  · split at z
    · rename_i r hr0
      obtain ⟨h1, h2⟩ := eqS_V hr0 r1 r2
      refine ⟨h1, ?_⟩
      rw [h2]
      exact z _ m H Lt.refl hr (by simp only [RepW, Rep]; cases r <;> rfl)
    · exact z.elim
  · exact z.elim⟩
theorem so_neS : SO2 G k (compareOp .NotEq) (eqSW true) := ⟨mon_eqSW, fun X hX => OpR.weak op_ne fun x y H Q z => by
  obtain ⟨m, A, w1, w2, hr, r1, r2, z⟩ := z
  unfold eqSW at z
  split at z
  · split at z
    · rename_i r hr0
      obtain ⟨h1, h2⟩ := eqS_V hr0 r1 r2
      refine ⟨h1, ?_⟩
      rw [h2]
      exact z _ m H Lt.refl hr (by simp only [RepW, Rep]; cases r <;> rfl)
    · exact z.elim
  · exact z.elim⟩
end
end Hw
namespace Hw
open PySem L2

/-! ### built-in functions -/
section
variable {C : Ctx} {k : Nat} {e : Expr} {es : List Expr} {x : Str} {id Ty : String} {p pos : Pos} {g : DenA} {r : OL}
def vCB (r : OL) (g : DenA) : Den := fun env A Q => g env A fun ws B => r ws B Q
theorem cb_mono (hr : MonL r) (hg : MonA g) : MonE (vCB r g) := fun env A Q Q' k h => hg _ _ _ _ (fun ws B z => hr _ _ _ _ k z) h
theorem cb_read {K : PySem.W.Frag} {T : Tb} (hr : MonL r) (hg : MonA g) {rr : List V → Hp → VK → Prop} (h : ∀ xs H Q, tRL K T r xs H Q → rr xs H Q) {σ : L2.St} {H : Hp} {Q : VK} (z : tE K T (vCB r g) σ H Q) : tCB rr (tA K T g) σ H Q := by
  obtain ⟨env, m, A, er, hr0, z⟩ := z
  refine ⟨env, m, A, er, hr0, hg _ _ _ _ (fun ws B z vs m1 H1 l1 hr1 r1 => h _ _ _ ⟨m1, B, ws, hr1, r1, hr _ _ _ _ (fun w B2 z2 v m2 H2 l2 hr2 r2 => ?_) z⟩) z⟩
  exact z2 v m2 H2 (l1.trans hr0.len l2) hr2 r2
/-- a built-in function by its name -/
theorem se_callB (hc : SOL C.g k (.builtin id) r) (hk : k ≤ C.lev) (hg : CGl C x) (hm : C.g.mg x = none) (hv : bootBuiltins x = some (.builtin id)) (ha : SA C (e :: es) g) (hn : x ≠ "__name__") (hdb : (x == ("__debug__" : Str)) = false)
    (he : ∀ env : PySem.Env, starEach (e :: es) env = (false, eval e env) :: starEach es env) (hpl : ∀ env : PySem.Env, (backTo pos (starEach es env)).any (·.1) = false) : SE C (.Call (.Name x p) (e :: es) [] pos) (vCB r g) :=
  ⟨cb_mono hc.mono ha.mono, fun X hX => PE.weak (pe_callB (hc.run X (hX.g.mono hk)) (by show X.env.scope.names.lookup x = _; rw [hX.sc]; exact hg) (by rw [hX.g.mg]; exact hm) hv (ha.run X hX) hn hdb (he X.env) (hpl X.env)) fun σ H Q z => cb_read hc.mono ha.mono (fun _ _ _ z => z) z⟩
/-- a built-in function that a name of the module holds -/
theorem se_callM (hc : SOL C.g k (.builtin id) r) (hk : k ≤ C.lev) (hg : CGl C x) (hm : C.g.mg x = some (.builtin id)) (ha : SA C (e :: es) g) (hdb : (x == ("__debug__" : Str)) = false)
    (he : ∀ env : PySem.Env, starEach (e :: es) env = (false, eval e env) :: starEach es env) (hpl : ∀ env : PySem.Env, (backTo pos (starEach es env)).any (·.1) = false) : SE C (.Call (.Name x p) (e :: es) [] pos) (vCB r g) :=
  ⟨cb_mono hc.mono ha.mono, fun X hX => PE.weak (pe_callBfun (hc.run X (hX.g.mono hk)) (by show X.env.scope.names.lookup x = _; rw [hX.sc]; exact hg) (by rw [hX.g.mg]; exact hm) (ha.run X hX) hdb (he X.env) (hpl X.env)) fun σ H Q z => cb_read hc.mono ha.mono (fun _ _ _ z => z) z⟩
/-- a built-in class, called -/
theorem se_callTy (hc : SOL C.g k (.type Ty) r) (hk : k ≤ C.lev) (hg : CGl C x) (hm : C.g.mg x = none) (hv : bootBuiltins x = some (.type Ty)) (ha : SA C (e :: es) g) (hn : x ≠ "__name__") (hdb : (x == ("__debug__" : Str)) = false)
    (he : ∀ env : PySem.Env, starEach (e :: es) env = (false, eval e env) :: starEach es env) (hpl : ∀ env : PySem.Env, (backTo pos (starEach es env)).any (·.1) = false) : SE C (.Call (.Name x p) (e :: es) [] pos) (vCB r g) :=
  ⟨cb_mono hc.mono ha.mono, fun X hX => PE.weak (pe_callTy (hc.run X (hX.g.mono hk)) (by show X.env.scope.names.lookup x = _; rw [hX.sc]; exact hg) (by rw [hX.g.mg]; exact hm) hv (ha.run X hX) hn hdb (he X.env) (hpl X.env)) fun σ H Q z => cb_read hc.mono ha.mono (fun _ _ _ z => z) z⟩
/-- a built-in class's name, as a value -/
theorem se_ty (hg : CGl C x) (hm : C.g.mg x = none) (hv : bootBuiltins x = some (.type Ty)) (hn : x ≠ "__name__") (hdb : (x == ("__debug__" : Str)) = false) : SE C (.Name x p) (vC (.ty Ty)) :=
  ⟨monC, fun X hX => PE.weak (pe_bltn (v := .ty Ty) (u := .type Ty) (by show X.env.scope.names.lookup x = _; rw [hX.sc]; exact hg) (by rw [hX.g.mg]; exact hm) hv rfl hn hdb) fun σ H Q z => by
    obtain ⟨env, m, A, er, hr, h⟩ := z
    exact fin (w := .t (.ty Ty)) hr (by simp only [RepW, Rep]) h⟩
end

section
variable {G : Gc} {k : Nat}
theorem CallR.weak {X : Cx} {f : Value} {r r' : List V → Hp → VK → Prop} (h : CallR X f r) (k : ∀ xs H Q, r' xs H Q → r xs H Q) : CallR X f r' := fun pins s σ H xs us Q I rv z => h pins s σ H xs us Q I rv (k xs H Q z)
theorem rep1 {K : PySem.W.Frag} {T : Tb} {m : List Addr} {A : AH} {H : Hp} {w : W} {vs : List V} (r : RepWs K T m A H [w] vs) : ∃ v, vs = [v] ∧ RepW K T m A H w v := by
  obtain ⟨v, q, rfl, r1, e⟩ := r
  obtain rfl : q = [] := e
  exact ⟨v, rfl, r1⟩
theorem rep2 {K : PySem.W.Frag} {T : Tb} {m : List Addr} {A : AH} {H : Hp} {w w' : W} {vs : List V} (r : RepWs K T m A H [w, w'] vs) : ∃ v v', vs = [v, v'] ∧ RepW K T m A H w v ∧ RepW K T m A H w' v' := by
  obtain ⟨v, q, rfl, r1, v', q', rfl, r2, e⟩ := r
  obtain rfl : q' = [] := e
  exact ⟨v, v', rfl, r1, r2⟩
theorem repBl {K : PySem.W.Frag} {T : Tb} {m : List Addr} {A : AH} {H : Hp} {b : Bool} : RepW K T m A H (.t (.bl b)) (.bl b) := by simp only [RepW, Rep]
theorem repStr {K : PySem.W.Frag} {T : Tb} {m : List Addr} {A : AH} {H : Hp} {b : Str} : RepW K T m A H (.t (.str b)) (.str b) := by simp only [RepW, Rep]
/-- one int in, an int out -/
def i1W (f : Int → Int) : OL := fun ws A Q => match ws with
  | [.t (.int i)] => Q (.t (.int (f i))) A
  | _ => False
def i2W (f : Int → Int → Int) : OL := fun ws A Q => match ws with
  | [.t (.int i), .t (.int j)] => Q (.t (.int (f i j))) A
  | _ => False
theorem mon_i1 {f : Int → Int} : MonL (i1W f) := fun ws A Q Q' k h => by
  unfold i1W at h ⊢
  split at h
  · exact k _ _ h
  · exact h.elim
theorem mon_i2 {f : Int → Int → Int} : MonL (i2W f) := fun ws A Q Q' k h => by
  unfold i2W at h ⊢
  split at h
  · exact k _ _ h
  · exact h.elim
theorem i1_read {K : PySem.W.Frag} {T : Tb} {f : Int → Int} {xs : List V} {H : Hp} {Q : VK} (z : tRL K T (i1W f) xs H Q) : ∃ i, xs = [.int i] ∧ Q (.int (f i)) H := by
  obtain ⟨m, A, ws, hr, r1, z⟩ := z
  unfold i1W at z
  split at z
  · obtain ⟨v, rfl, q1⟩ := rep1 r1; replace r1 := q1
    simp only [RepW, Rep] at r1
    subst r1
    exact ⟨_, rfl, z _ m H Lt.refl hr repInt⟩
  · exact z.elim
theorem i2_read {K : PySem.W.Frag} {T : Tb} {f : Int → Int → Int} {xs : List V} {H : Hp} {Q : VK} (z : tRL K T (i2W f) xs H Q) : ∃ i j, xs = [.int i, .int j] ∧ Q (.int (f i j)) H := by
  obtain ⟨m, A, ws, hr, r1, z⟩ := z
  unfold i2W at z
  split at z
  · obtain ⟨v, v', rfl, q1, r2⟩ := rep2 r1; replace r1 := q1
    simp only [RepW, Rep] at r1 r2
    subst r1 r2
    exact ⟨_, _, rfl, z _ m H Lt.refl hr repInt⟩
  · exact z.elim
theorem sl_abs : SOL G k (.builtin "abs") (i1W fun i => if i < 0 then -i else i) := ⟨mon_i1, fun X hX => CallR.weak call_abs fun xs H Q z => i1_read z⟩
theorem sl_max : SOL G k (.builtin "max") (i2W fun i j => if j > i then j else i) := ⟨mon_i2, fun X hX => CallR.weak (call_max2 hX.calm) fun xs H Q z => i2_read z⟩
theorem sl_min : SOL G k (.builtin "min") (i2W fun i j => if j < i then j else i) := ⟨mon_i2, fun X hX => CallR.weak (call_min2 hX.calm) fun xs H Q z => i2_read z⟩
theorem sl_gcd : SOL G k (.builtin "math.gcd") (i2W fun i j => ((Nat.gcd i.natAbs j.natAbs : Nat) : Int)) := ⟨mon_i2, fun X hX => CallR.weak cr_gcd fun xs H Q z => i2_read z⟩
theorem sl_int : SOL G k (.type "int") (i1W fun i => i) := ⟨mon_i1, fun X hX => CallR.weak call_int1 fun xs H Q z => .inl (i1_read z)⟩
/-- str of an int -/
def strI : OL := fun ws A Q => match ws with
  | [.t (.int i)] => i.natAbs < 2 ^ 1900 ∧ Q (.t (.str (toString i))) A
  | _ => False
theorem log1920 {i : Int} (h : i.natAbs < 2 ^ 1900) : i.natAbs.log2 < 1920 := by
  by_cases h0 : i.natAbs = 0
  · rw [h0]; decide +kernel
  · exact Nat.lt_of_lt_of_le ((Nat.log2_lt h0).mpr h) (by decide)
/-- len -/
def lenW : OL := fun ws A Q => match ws with
  | [.t (.tup l)] => Q (.t (.int l.length)) A
  | [.t (.lst l)] => Q (.t (.int l.length)) A
  | [.t (.str z)] => z.length ≤ 100000 ∧ Q (.t (.int z.length)) A
  | [.loc n] => match A[n]? with
    | some (.live (.lst l)) => Q (.t (.int l.length)) A
    | _ => False
  | _ => False
theorem sl_len : SOL G k (.builtin "len") lenW := by
  refine ⟨fun ws A Q Q' k h => ?_, fun X hX => CallR.weak call_len fun xs H Q z => ?_⟩
  · unfold lenW at h ⊢
    split at h
    · exact k _ _ h
    · exact k _ _ h
    · exact ⟨h.1, k _ _ h.2⟩
    · split at h
      · exact k _ _ h
      · exact h.elim
    · exact h.elim
  · obtain ⟨m, A, ws, hr, r1, z⟩ := z
    rw [hX.K]
    unfold lenW at z
    split at z
    · obtain ⟨v, rfl, q1⟩ := rep1 r1; replace r1 := q1
      simp only [RepW, Rep] at r1
      obtain ⟨p, vs, rfl, h1, r1⟩ := r1
      exact ⟨_, vs.length, rfl, .inr ⟨vs, tup_sq h1, rfl⟩, by rw [← r1.length]; exact z _ m H Lt.refl hr repInt⟩
    · obtain ⟨v, rfl, q1⟩ := rep1 r1; replace r1 := q1
      simp only [RepW, Rep] at r1
      obtain ⟨p, vs, rfl, h1, r1⟩ := r1
      exact ⟨_, vs.length, rfl, .inl ⟨vs, lst_sq h1, rfl⟩, by rw [← r1.length]; exact z _ m H Lt.refl hr repInt⟩
    · obtain ⟨v, rfl, q1⟩ := rep1 r1; replace r1 := q1
      simp only [RepW, Rep] at r1
      subst r1
      exact ⟨_, _, rfl, ⟨Nat.le_trans z.1 (by rw [sizeLine_eq]; decide), rfl⟩, z.2 _ m H Lt.refl hr repInt⟩
    · obtain ⟨v, rfl, q1⟩ := rep1 r1; replace r1 := q1
      obtain ⟨p, rfl, hp⟩ := r1
      split at z
      · rename_i hc
        obtain ⟨vs, h1, r3⟩ := hr.cell _ _ _ hp hc
        exact ⟨_, vs.length, rfl, .inl ⟨vs, SqL.of h1, rfl⟩, by rw [← r3.length]; exact z _ m H Lt.refl hr repInt⟩
      · exact z.elim
    · exact z.elim
/-- divmod by a small number: a pair -/
def divmodW : OL := fun ws A Q => match ws with
  | [.t (.int i), .t (.int j)] => (0 < j ∧ j < 1073741824) ∧ Q (.t (.tup [.int (i / j), .int (i % j)])) A
  | _ => False
theorem sl_divmod : SOL G k (.builtin "divmod") divmodW := by
  refine ⟨fun ws A Q Q' k h => ?_, fun X hX => CallR.weak call_divmod fun xs H Q z => ?_⟩
  · unfold divmodW at h ⊢
    split at h
    · exact ⟨h.1, k _ _ h.2⟩
    · exact h.elim
  · obtain ⟨m, A, ws, hr, r1, z⟩ := z
    unfold divmodW at z
    split at z
    · obtain ⟨v, v', rfl, q1, r2⟩ := rep2 r1; replace r1 := q1
      simp only [RepW, Rep] at r1 r2
      subst r1 r2
      refine ⟨_, _, rfl, z.1, fun q hq => z.2 (.ref q) m _ (Lt.new hq) (hr.new hq) ?_⟩
      simp only [RepW, Rep]
      refine ⟨q, _, rfl, .inl ⟨.inl upd_same, Fr.of_notin (hr.notin hq)⟩, ?_⟩
      simp only [Reps, Rep]
      exact ⟨_, _, rfl, rfl, _, _, rfl, rfl, rfl⟩
    · exact z.elim
/-- all, any of a list of truths -/
def bools : List D → Option (List Bool)
  | [] => some []
  | .bl b :: l => (bools l).map (b :: ·)
  | _ :: _ => none
theorem bools_rep {K : PySem.W.Frag} {T : Tb} {m : List Addr} {A : AH} {H : Hp} : ∀ {l : List D} {bs : List Bool} {vs : List V}, bools l = some bs → Reps K T m A H l vs → vs = bs.map V.bl
  | [], bs, vs, e, r => by
    simp only [bools] at e
    cases e
    simp only [Reps] at r
    exact r
  | d :: l, bs, vs, e, r => by
    simp only [Reps] at r
    obtain ⟨v, q, rfl, r1, r2⟩ := r
    cases d <;> simp only [bools] at e <;> first | (cases e; done) | skip
    rename_i b
    cases hb : bools l with
    | none => rw [hb] at e; cases e
    | some bs' =>
      rw [hb] at e
      cases e
      simp only [Rep] at r1
      rw [r1, bools_rep hb r2]
      rfl
def allW (f : List Bool → Bool) : OL := fun ws A Q => match ws with
  | [.t (.lst l)] => match bools l with
    | some bs => Q (.t (.bl (f bs))) A
    | none => False
  | _ => False
theorem mon_all {f : List Bool → Bool} : MonL (allW f) := fun ws A Q Q' k h => by
  unfold allW at h ⊢
  split at h
  · split at h
    · exact k _ _ h
    · exact h.elim
  · exact h.elim
theorem all_read {K : PySem.W.Frag} {T : Tb} {f : List Bool → Bool} {xs : List V} {H : Hp} {Q : VK} (z : tRL K T (allW f) xs H Q) : ∃ (a : Addr) (bs : List Bool), xs = [V.ref a] ∧ SqL K H a (bs.map V.bl) ∧ Q (.bl (f bs)) H := by
  obtain ⟨m, A, ws, hr, r1, z⟩ := z
  unfold allW at z
  split at z
  · split at z
    · rename_i bs hb
      obtain ⟨v, rfl, q1⟩ := rep1 r1; replace r1 := q1
      simp only [RepW, Rep] at r1
      obtain ⟨p, vs, rfl, h1, r1⟩ := r1
      have e := bools_rep hb r1
      subst e
      exact ⟨p, bs, rfl, lst_sq h1, z _ m H Lt.refl hr repBl⟩
    · exact z.elim
  · exact z.elim
theorem sl_all : SOL G k (.builtin "all") (allW fun bs => bs.all id) := ⟨mon_all, fun X hX => CallR.weak (cr_all hX.calm) fun xs H Q z => by rw [hX.K]; exact all_read z⟩
theorem sl_any : SOL G k (.builtin "any") (allW fun bs => bs.any id) := ⟨mon_all, fun X hX => CallR.weak (cr_any hX.calm) fun xs H Q z => by rw [hX.K]; exact all_read z⟩

/-! ### isinstance -/
/-- the built-in class of a value, or its own one -/
inductive Kd where
  | b (n : String) | o (c : Nat)
  deriving DecidableEq
def kdD : D → Option Kd
  | .non => some (.b "NoneType")
  | .bl _ => some (.b "bool")
  | .int _ => some (.b "int")
  | .str _ => some (.b "str")
  | .tup _ => some (.b "tuple")
  | .lst _ => some (.b "list")
  | .dic => some (.b "dict")
  | .rat _ => some (.o 0)
  | .ins c _ => some (.o c)
  | _ => none
def kdW (A : AH) : W → Option Kd
  | .t d => kdD d
  | .loc n => match A[n]? with
    | some (.live (.lst _)) => some (.b "list")
    | _ => none
/-- is the class t (of a value) the class c, or below it -/
def isK : Kd → Kd → Bool
  | .b t, .b c => t == c || (t == "bool" && c == "int")
  | .o t, .o c => t == c
  | _, _ => false
def kdC : D → Option Kd
  | .ty n => if n = "int" ∨ n = "bool" ∨ n = "str" ∨ n = "list" ∨ n = "tuple" then some (.b n) else none
  | .cls c => some (.o c)
  | _ => none
def kdCs : List D → Option (List Kd)
  | [] => some []
  | d :: l => match kdC d, kdCs l with
    | some c, some cs => some (c :: cs)
    | _, _ => none
@[irreducible] def isiW (nc : Nat) : OL := fun ws A Q => match ws with
  | [x, .t (.tup cs)] => match kdW A x, kdCs cs with
    | some t, some cs => (∀ c, t = .o c → c < nc) ∧ (∀ c, .o c ∈ cs → c < nc) ∧ Q (.t (.bl (cs.any (isK t)))) A
    | _, _ => False
  | [x, .t c] => match kdW A x, kdC c with
    | some t, some c => (∀ j, t = .o j → j < nc) ∧ (∀ j, c = .o j → j < nc) ∧ Q (.t (.bl (isK t c))) A
    | _, _ => False
  | _ => False
def kdV (T : Tb) : Kd → Value
  | .b n => .type n
  | .o c => .ref (T.at_ c)
/-- what the written part says of the own classes -/
structure IsOk (G : Gc) (nc : Nat) : Prop where
  cls : ∀ c, c < nc → Cls G.K (G.T.at_ c) ∧ PySem.W.findIn G.K (.ref (G.T.at_ c)) "__class__" = some (some (.builtin "object.__class__")) ∧ PySem.W.mroIn G.K (G.T.at_ c) (.type "object") = some true
  gs : PySem.W.specialIn G.K (.builtin "object.__class__") "__get__" = some (some (.builtin "getset_descriptor.__get__"))
  tk : PySem.W.takesIn G.K (.builtin "object.__class__") = some true
  ob : ∀ c, c < nc → ∀ n, n = "int" ∨ n = "bool" ∨ n = "str" ∨ n = "list" ∨ n = "tuple" → PySem.W.kitOne G.K (.ref (G.T.at_ c)) (.type n) = some false
  bo : ∀ c, c < nc → ∀ n, n = "NoneType" ∨ n = "bool" ∨ n = "int" ∨ n = "str" ∨ n = "tuple" ∨ n = "list" ∨ n = "dict" → PySem.W.kitOne G.K (.type n) (.ref (G.T.at_ c)) = some false
  oo : ∀ c j, c < nc → j < nc → PySem.W.kitOne G.K (.ref (G.T.at_ c)) (.ref (G.T.at_ j)) = some (c == j)
end
end Hw
namespace Hw
open PySem L2

section
variable {G : Gc} {k nc : Nat}
def bNames (n : String) : Prop := n = "NoneType" ∨ n = "bool" ∨ n = "int" ∨ n = "str" ∨ n = "tuple" ∨ n = "list" ∨ n = "dict"
def cNames (n : String) : Prop := n = "int" ∨ n = "bool" ∨ n = "str" ∨ n = "list" ∨ n = "tuple"
theorem kd_names {A : AH} {w : W} {n : String} (h : kdW A w = some (.b n)) : bNames n := by
  unfold bNames
  cases w with
  | t d => cases d <;> simp only [kdW, kdD, Option.some.injEq, Kd.b.injEq] at h <;> first | (subst h; simp; done) | (cases h; done)
  | loc j =>
    simp only [kdW] at h
    split at h
    · cases h; simp
    · cases h
theorem kc_names {d : D} {n : String} (h : kdC d = some (.b n)) : cNames n := by
  unfold cNames
  cases d <;> simp only [kdC] at h <;> first | (cases h; done) | skip
  split at h
  · rename_i hn
    cases h
    exact hn
  · cases h
theorem kit_bb (K : PySem.W.Frag) {a b : String} (ha : bNames a) (hb : cNames b) : PySem.W.kitOne K (.type a) (.type b) = some (a == b || (a == "bool" && b == "int")) := by
  refine kit_ty ?_
  rcases ha with rfl | rfl | rfl | rfl | rfl | rfl | rfl <;> rcases hb with rfl | rfl | rfl | rfl | rfl <;> decide +kernel
theorem kit_is (I : IsOk G nc) {A : AH} {w : W} {d : D} {t c : Kd} (ht : kdW A w = some t) (hc : kdC d = some c) (h1 : ∀ j, t = .o j → j < nc) (h2 : ∀ j, c = .o j → j < nc) : PySem.W.kitOne G.K (kdV G.T t) (kdV G.T c) = some (isK t c) := by
  cases t with
  | b n =>
    cases c with
    | b m => exact kit_bb G.K (kd_names ht) (kc_names hc)
    | o j => exact I.bo j (h2 j rfl) n (kd_names ht)
  | o i =>
    cases c with
    | b m => exact I.ob i (h1 i rfl) m (kc_names hc)
    | o j => exact I.oo i j (h1 i rfl) (h2 j rfl)
theorem kit_any (I : IsOk G nc) {A : AH} {w : W} {t : Kd} (ht : kdW A w = some t) (h1 : ∀ j, t = .o j → j < nc) : ∀ {ds : List D} {cs : List Kd}, kdCs ds = some cs → (∀ j, .o j ∈ cs → j < nc) → PySem.W.kitAny G.K (kdV G.T t) (cs.map (kdV G.T)) = some (cs.any (isK t))
  | [], cs, e, _ => by
    simp only [kdCs] at e
    cases e
    exact kitAny_nil
  | d :: ds, cs, e, h2 => by
    simp only [kdCs] at e
    split at e
    · rename_i c cs' h3 h4
      cases e
      have one := kit_is I ht h3 h1 (fun j ej => h2 j (by rw [ej]; exact List.mem_cons_self))
      rw [List.map_cons, List.any_cons]
      refine kitAny_cons one (fun hb => ?_) (fun hb => by rw [hb]; rfl)
      rw [hb, Bool.false_or]
      exact kit_any I ht h1 h4 fun j hj => h2 j (List.mem_cons_of_mem _ hj)
    · cases e
theorem ty_of (I : IsOk G nc) {m : List Addr} {A : AH} {H : Hp} {w : W} {v : V} {t : Kd} (hr : HR G.K G.T m A H) (r : RepW G.K G.T m A H w v) (ht : kdW A w = some t) (h1 : ∀ j, t = .o j → j < nc) : TyX G.K H v (kdV G.T t) := by
  cases w with
  | loc n =>
    obtain ⟨p, rfl, hp⟩ := r
    simp only [kdW] at ht
    split at ht
    · rename_i l hc
      cases ht
      obtain ⟨vs, h, _⟩ := hr.cell _ _ _ hp hc
      exact .base (.lst h)
    · cases ht
  | t d =>
    cases d <;> simp only [kdW, kdD] at ht <;> first | (cases ht; done) | skip
    all_goals (simp only [RepW, Rep] at r; cases ht)
    · subst r; exact .base .non
    · subst r; exact .base (.bl _)
    · subst r; exact .base (.int _)
    · subst r; exact .base (.str _)
    · obtain ⟨p, dx, rfl, h, _⟩ := r
      obtain ⟨c1, c2, c3⟩ := I.cls 0 (h1 0 rfl)
      exact .base (.ins h c1 c2 I.gs I.tk c3)
    · obtain ⟨p, vs, rfl, h, _⟩ := r
      rcases h with ⟨h | ⟨o, h⟩, _⟩ | h
      · exact .base (.tup h)
      · exact .fTuple h
      · rcases h (fun _ => none) with (h | ⟨o, h⟩) | ⟨o, its, n, hk, hc, _⟩
        · cases h
        · cases h
        · exact .kTuple hk hc
    · obtain ⟨p, vs, rfl, h, _⟩ := r
      rcases h with ⟨h | ⟨o, h⟩, _⟩ | h
      · exact .base (.lst h)
      · exact .base (.frz h)
      · rcases h (fun _ => none) with (h | ⟨o, h⟩) | ⟨o, its, n, hk, hc, _⟩
        · cases h
        · cases h
        · exact .kList hk hc
    · rename_i c l
      obtain ⟨p, dx, vs, rfl, h, _⟩ := r
      obtain ⟨c1, c2, c3⟩ := I.cls c (h1 c rfl)
      exact .base (.ins h c1 c2 I.gs I.tk c3)
    · obtain ⟨p, rfl, h, _⟩ := r
      exact .base (.dK h)
theorem cls_of {m : List Addr} {A : AH} {H : Hp} {d : D} {v : V} {c : Kd} (r : Rep G.K G.T m A H d v) (hc : kdC d = some c) : ClsV v (kdV G.T c) := by
  cases d <;> simp only [kdC] at hc <;> first | (cases hc; done) | skip
  · cases hc
    simp only [Rep] at r
    subst r
    exact .own _
  · split at hc
    · cases hc
      simp only [Rep] at r
      subst r
      exact .ty _
    · cases hc
theorem clss_of {m : List Addr} {A : AH} {H : Hp} : ∀ {ds : List D} {vs : List V} {cs : List Kd}, Reps G.K G.T m A H ds vs → kdCs ds = some cs → Paired ClsV vs (cs.map (kdV G.T))
  | [], vs, cs, r, e => by
    simp only [kdCs] at e
    cases e
    simp only [Reps] at r
    subst r
    exact .nil
  | d :: ds, vs, cs, r, e => by
    simp only [kdCs] at e
    simp only [Reps] at r
    obtain ⟨v, q, rfl, r1, r2⟩ := r
    split at e
    · rename_i c cs' h3 h4
      cases e
      exact .cons (cls_of r1 h3) (clss_of r2 h4)
    · cases e
theorem sl_isi (I : IsOk G nc) : SOL G k (.builtin "isinstance") (isiW nc) := by
  refine ⟨fun ws A Q Q' k h => ?_, fun X hX pins s σ H xs us Q IX rv z => ?_⟩
  · unfold isiW at h ⊢
    split at h
    · split at h
      · exact ⟨h.1, h.2.1, k _ _ h.2.2⟩
      · exact h.elim
    · split at h
      · exact ⟨h.1, h.2.1, k _ _ h.2.2⟩
      · exact h.elim
    · exact h.elim
  · obtain ⟨m, A, ws, hr, r1, z⟩ := z
    unfold isiW at z
    split at z
    · rename_i x cs
      obtain ⟨v, v', rfl, q1, q2⟩ := rep2 r1
      split at z
      · rename_i t cs' ht hcs
        simp only [RepW, Rep] at q2
        obtain ⟨p, vs, rfl, hq, q2⟩ := q2
        have ty := ty_of I hr q1 ht z.1
        have any := kit_any I ht z.1 hcs z.2.1
        have cl := clss_of q2 hcs
        have fin : Q (.bl (cs'.any (isK t))) H := z.2.2 _ m H Lt.refl hr repBl
        rw [← hX.K] at ty any
        obtain ⟨its, q3, ⟨ob, g1, g2, nn, g3⟩, _⟩ := IX.tuple (a := p) (xs := vs) (by rw [hX.K]; exact tup_sq hq)
        obtain ⟨u1, u2, rfl, e1, e2⟩ := vals2 rv
        cases (show u2 = Value.ref p from e2)
        have e3 := ClsV.all cl q3
        subst e3
        obtain ⟨Pz, Z, hp, hn⟩ := kit_of IX e1 ty
        obtain ⟨oc, od, dt, sl⟩ := ob
        simp only at g2 g3
        subst g2 g3
        exact PySem.W.kia_tup Z IX.kIn hp g1 any hn fun tk => ⟨.bl (cs'.any (isK t)), H, IX.tok tk, rfl, fin⟩
      · exact z.elim
    · rename_i x c _
      obtain ⟨v, v', rfl, q1, q2⟩ := rep2 r1
      split at z
      · rename_i t c' ht hc
        have fin : Q (.bl (isK t c')) H := z.2.2 _ m H Lt.refl hr repBl
        refine call_isi pins s σ H _ us Q IX rv ⟨v, v', kdV G.T t, kdV G.T c', isK t c', rfl, cls_of q2 hc, ?_, ?_, fin⟩
        · rw [hX.K]; exact ty_of I hr q1 ht z.1
        · rw [hX.K]; exact kit_is I ht hc z.1 z.2.1
      · exact z.elim
    · exact z.elim
end
end Hw
namespace Hw
open PySem L2

section
variable {G : Gc} {k : Nat}
/-- an instance of the class c -/
def isI (c : Nat) : W → Prop
  | .t (.rat _) => c = 0
  | .t (.ins c' _) => c' = c
  | _ => False
theorem isI_at {m : List Addr} {A : AH} {H : Hp} {w : W} {v : V} {c : Nat} (h : isI c w) (r : RepW G.K G.T m A H w v) : ∃ a dx fs, v = .ref a ∧ H a = some (.ins (G.T.at_ c) dx fs) := by
  unfold isI at h
  split at h
  · subst h
    simp only [RepW, Rep] at r
    obtain ⟨a, dx, rfl, h, _⟩ := r
    exact ⟨a, dx, _, rfl, h⟩
  · subst h
    simp only [RepW, Rep] at r
    obtain ⟨a, dx, vs, rfl, h, _⟩ := r
    exact ⟨a, dx, _, rfl, h⟩
  · exact h.elim
theorem rel_ni {v : V} {u : Value} (r : RelV v u) : u ≠ .notImplemented := fun z => by
  rw [z] at r
  cases v <;> simp [RelV] at r
theorem ep_back {X : Cx} {pins : List (Addr × Obj)} {σ : L2.St} {Q : VK} {u : Value} {s : Shared} (h : EP X pins σ Q u s) : PySem.W.CmpBack (EP X pins σ Q) u s := by
  obtain ⟨v, H', I, r, q⟩ := h
  have n := rel_ni r
  cases u <;> first | exact absurd rfl n | exact ⟨v, H', I, r, q⟩
/-- what a class tells of an operator of its own -/
structure OwnOp (G : Gc) (c : Nat) (op : Operator) (f : Addr) : Prop where
  sf : PySem.W.selfFirst G.K (G.T.at_ c) = true
  at_ : PySem.W.findIn G.K (.ref (G.T.at_ c)) (PySem.dunder op.info.2) = some (some (.ref f))
  fn : PySem.W.isFn G.K (.ref f) = true
  re : ∃ rc, PySem.W.findIn G.K (.ref (G.T.at_ c)) (dunderR op.info.2) = some rc ∧ (rc = none ∨ ∃ g : Addr, rc = some (.ref g))
  i1 : ∃ fo, PySem.W.findIn G.K (.type "int") (PySem.dunder op.info.2) = some fo
  i2 : ∃ ro, PySem.W.findIn G.K (.type "int") (dunderR op.info.2) = some ro
  sub : PySem.W.subIn G.K (.type "int") (.ref (G.T.at_ c)) = some false
def rOwn (G : Gc) (c : Nat) (S : OK2) : R2 := fun x y H Q => ∃ m A w1 w2, HR G.K G.T m A H ∧ RepW G.K G.T m A H w1 x ∧ RepW G.K G.T m A H w2 y ∧ isI c w1 ∧ (isI c w2 ∨ ∃ i, w2 = .t (.int i)) ∧
  S [w1, w2] [] A fun w A' => ∀ v m' H', Lt m A H m' A' H' → HR G.K G.T m' A' H' → RepW G.K G.T m' A' H' w v → Q v H'
theorem own_bin {c : Nat} {op : Operator} {f : Addr} {S : OK2} {X : Cx} (hX : G.Has k X) (O : OwnOp G c op f) (cal : Cal G k (.ref f) 2 [] S) : OpR X (binaryOp op) (rOwn G c S) := by
  intro pins s σ H x y v u Q I rx ry z
  obtain ⟨m, A, w1, w2, hr, r1, r2, i1, i2, z⟩ := z
  obtain ⟨a, dx, fs, rfl, ha⟩ := isI_at i1 r1
  have ev : v = Value.ref a := rx
  subst ev
  obtain ⟨mA, Ob, _⟩ := ins_get I.hok ha
  obtain ⟨od, J, _⟩ := Ob.look
  obtain ⟨mf, F⟩ := I.fr
  have kin := I.ok.mod.kin
  rw [hX.K] at kin
  have call0 : wpAny (model X.prog X.w) X.A (call (.ref f) [.ref a, u]) (PySem.W.CmpBack (EP X pins σ Q)) X.xe s := by
    refine thn (wpAny_call (cal.run X hX pins s σ H [.ref a, u] [] [.ref a, y] [] Q m A [w1, w2] [] I (.cons rfl (.cons ry .nil)) .nil hr ⟨_, _, rfl, r1, _, _, rfl, r2, rfl⟩ rfl rfl rfl z)) fun _ _ q => ep_back q
  obtain ⟨rc, hrc, hp⟩ := O.re
  obtain ⟨fo, h1⟩ := O.i1
  obtain ⟨ro, h2⟩ := O.i2
  rw [← hX.K] at kin hrc h1 h2
  have sf := O.sf
  have at_ := O.at_
  have fn := O.fn
  have sub := O.sub
  rw [← hX.K] at sf at_ fn sub
  have fin : ∀ u s', PySem.W.CmpBack (EP X pins σ Q) u s' → EP X pins σ Q u s' := fun u s' q => by
    cases u <;> first | exact q.elim | exact q
  rcases i2 with i2 | ⟨i, rfl⟩
  · obtain ⟨b, dx2, fs2, rfl, hb⟩ := isI_at i2 r2
    have eu : u = Value.ref b := ry
    subst eu
    obtain ⟨mB, Ob2, _⟩ := ins_get I.hok hb
    obtain ⟨od2, J2, _⟩ := Ob2.look
    exact PySem.W.binop_K F kin J J2.type sf at_ fn call0
  · simp only [RepW, Rep] at r2
    subst r2
    obtain ⟨t, rfl⟩ := ry
    exact PySem.W.ksp_binT (T := "int") F kin J rfl sf at_ fn hrc hp h1 h2 sub call0

/-! ### an int on the left: the instance's reflected method -/
theorem int_no {prog : Program} {w : World} {A : Around} {E : Value → Shared → Prop} {s : Shared} {id : String} {B : Builtin} {nm : Str} {i : Int} {t : Tok} {a C : Addr} {dx : Addr} {Q : Value → Shared → Prop} (sl : Slot "int" nm id) (en : entryFor table id = some B) (ar : ∀ v, argsOk id ⟨[.int i t, v], []⟩)
    (hb : ∃ name f, B = Builtin.Int.intBinary name f) (ha : s.heap.get? a = some (PySem.W.instObj C dx)) (h : Q .notImplemented s) : wpAny (model prog w) A (call (.builtin id) [.int i t, .ref a]) Q E s := by
  obtain ⟨name, f, rfl⟩ := hb
  refine GQ.call_here sl (typeIs_int s i t) en (ar _) ?_
  unfold Builtin.Int.intBinary
  obtain ⟨hh, gs, dr, tk, os⟩ := s
  wp_walk using wpAny_load ha
  exact h
/-- what a class tells of a reflected operator of its own -/
structure OwnR (G : Gc) (c : Nat) (op : Operator) (f fr : Addr) (id : String) (B : Builtin) : Prop where
  sf : PySem.W.selfFirst G.K (G.T.at_ c) = true
  at_ : PySem.W.findIn G.K (.ref (G.T.at_ c)) (PySem.dunder op.info.2) = some (some (.ref f))
  rat_ : PySem.W.findIn G.K (.ref (G.T.at_ c)) (dunderR op.info.2) = some (some (.ref fr))
  fnr : PySem.W.isFn G.K (.ref fr) = true
  sub : PySem.W.subIn G.K (.ref (G.T.at_ c)) (.type "int") = some false
  fills : fillsNumberSlot (.type "int") op.info.2 = pure true
  sl : Slot "int" (PySem.dunder op.info.2) id
  en : entryFor table id = some B
  ar : ∀ i t v, argsOk id ⟨[.int i t, v], []⟩
  bt : ∃ name f, B = Builtin.Int.intBinary name f
def rOwnR (G : Gc) (c : Nat) (S : OK2) : R2 := fun x y H Q => ∃ m A i w2, HR G.K G.T m A H ∧ x = .int i ∧ RepW G.K G.T m A H w2 y ∧ isI c w2 ∧
  S [w2, .t (.int i)] [] A fun w A' => ∀ v m' H', Lt m A H m' A' H' → HR G.K G.T m' A' H' → RepW G.K G.T m' A' H' w v → Q v H'
theorem own_rev {c : Nat} {op : Operator} {f fr : Addr} {id : String} {B : Builtin} {S : OK2} {X : Cx} (hX : G.Has k X) (O : OwnR G c op f fr id B) (cal : Cal G k (.ref fr) 2 [] S) : OpR X (binaryOp op) (rOwnR G c S) := by
  intro pins s σ H x y v u Q I rx ry z
  obtain ⟨m, A, i, w2, hr, rfl, r2, i2, z⟩ := z
  obtain ⟨a, dx, fs, rfl, ha⟩ := isI_at i2 r2
  have eu : u = Value.ref a := ry
  subst eu
  obtain ⟨t, rfl⟩ := rx
  obtain ⟨mA, Ob, _⟩ := ins_get I.hok ha
  obtain ⟨od, J, _⟩ := Ob.look
  have back : wpAny (model X.prog X.w) X.A (call (.ref fr) [.ref a, .int i t]) (PySem.W.CmpBack (EP X pins σ Q)) X.xe s :=
    thn (wpAny_call (cal.run X hX pins s σ H [.ref a, .int i t] [] [.ref a, .int i] [] Q m A [w2, .t (.int i)] [] I (.cons rfl (.cons ⟨t, rfl⟩ .nil)) .nil hr ⟨_, _, rfl, r2, _, _, rfl, repInt, rfl⟩ rfl rfl rfl z)) fun _ _ q => ep_back q
  have kin := I.kIn
  rw [hX.K] at kin
  have one := PySem.W.ksp_try kin J O.rat_ O.fnr back
  have no := int_no (prog := X.prog) (w := X.w) (A := X.A) (E := X.xe) (s := s) (Q := fun v s' => v = .notImplemented ∧ s' = s) O.sl O.en (O.ar i t) O.bt Ob.obj ⟨rfl, rfl⟩
  have none_ : wpAny (model X.prog X.w) X.A (tryMethod (.int i t) (PySem.dunder op.info.2) (.ref a)) (fun r s' => r = none ∧ s' = s) X.xe s :=
    wpAny_tryMethod_declines (typeIs_int s i t) O.sl (thn no fun v s' q => ⟨q.1, rfl, q.2⟩)
  obtain ⟨cd, rest, hcd, hm⟩ := PySem.W.ksp_first O.sf
  obtain ⟨⟨sym, nm⟩, hi⟩ : ∃ z, op.info = z := ⟨_, rfl⟩
  have at_ := O.at_
  have fills := O.fills
  have sub := O.sub
  rw [hi] at at_ fills one none_
  dsimp only at at_ fills one none_
  have T1 : PySem.W.Looks (model X.prog X.w) s.heap (typeOf (.ref a)) (.ref (G.T.at_ c)) := J.type
  have T2 : PySem.W.Looks (model X.prog X.w) s.heap (typeOf (.int i t)) (.type "int") := PySem.W.Looks.of_pure rfl
  have T3 : PySem.W.Looks (model X.prog X.w) s.heap (fillsNumberSlot (.ref (G.T.at_ c)) nm) true := PySem.W.fills_K kin hcd hm at_
  have T4 : PySem.W.Looks (model X.prog X.w) s.heap (isSubtype (.ref (G.T.at_ c)) (.type "int")) false := PySem.W.looks_subIn kin sub
  have ne : (Value.type "int" == Value.ref (G.T.at_ c)) = false := rfl
  simp only [binaryOp, hi]
  refine wpAny_holding (wpAny_bind (?_))
  unfold binaryOp1
  refine wpAny_bind (T2.here (wpAny_bind (T1.here (wpAny_bind (wpAny_of_eq fills ?_)))))
  simp only [ne, Bool.false_eq_true, if_false]
  refine wpAny_bind (T3.here ?_)
  simp only [Bool.and_true, if_true, Bool.and_self]
  refine wpAny_bind (T4.here ?_)
  have py : numberSlotInPython (.type "int") nm = pure false := rfl
  simp only [Bool.false_eq_true, if_false, pure_bind, Bool.not_false, Bool.and_self, if_true, py]
  refine wpAny_bind (thn none_ fun r s' q => ?_)
  obtain ⟨rfl, rfl⟩ := q
  refine wpAny_bind (thn one fun r s2 q => ?_)
  obtain ⟨v, rfl, q⟩ := q
  exact wpAny_bind (wpAny_rule (wpAny_pure (wpAny_pure q)))
end
end Hw
namespace Hw
open PySem L2

/-! ### the same place with other things around -/
abbrev toA (X : Cx) (Ar : Around) : Cx := { X with A := Ar }
section
variable {X : Cx} {Ar : Around} {pins : List (Addr × Obj)} {σ : L2.St} {H : Hp} {s : Shared}
theorem ok_to (o : X.Ok) (h1 : Ar.handled = X.A.handled) (h2 : Ar.frames = X.A.frames) : (toA X Ar).Ok :=
  ⟨o.mod, o.kind, o.glob, o.blt, o.above, o.inj, o.has, o.cab, fun c => by show Ar.handled = none; rw [h1]; exact o.hd c, by show Ar.frames = _; rw [h2]; exact o.frames, o.stk, o.exf, o.bs, o.bsz, o.noex, o.exfs, o.funs, o.frf⟩
theorem inv_to (I : Inv X pins σ H s) (h1 : Ar.handled = X.A.handled) (h2 : Ar.frames = X.A.frames) : Inv (toA X Ar) pins σ H s :=
  ⟨ok_to I.ok h1 h2, I.os, I.bare, I.base, I.loc, I.cell, I.free, I.freeC, I.pin, I.hok, I.len⟩
theorem inv_back (I : Inv (toA X Ar) pins σ H s) (h1 : Ar.handled = X.A.handled) (h2 : Ar.frames = X.A.frames) : Inv X pins σ H s :=
  ⟨by have := ok_to (X := toA X Ar) (Ar := X.A) I.ok h1.symm h2.symm; exact this, I.os, I.bare, I.base, I.loc, I.cell, I.free, I.freeC, I.pin, I.hok, I.len⟩
theorem ep_to {Q : VK} {u : Value} (h : EP (toA X Ar) pins σ Q u s) (h1 : Ar.handled = X.A.handled) (h2 : Ar.frames = X.A.frames) : EP X pins σ Q u s :=
  let ⟨v, H', I, r, q⟩ := h
  ⟨v, H', inv_back I h1 h2, r, q⟩
theorem has_to {G : Gc} {k j : Nat} (hX : G.Has k X) (hr : Room j Ar) (hg : Ar.guards = X.A.guards) : G.Has j (toA X Ar) :=
  ⟨hX.P, hX.w, hX.K, hX.mg, hX.base, hX.calm, hr, hX.nox, fun h => by show Ar.guards = _; rw [hg]; exact hX.grd h⟩
end

section
variable {G : Gc} {k nc : Nat}
/-- the type of a value, looked up -/
theorem ty_looks {X : Cx} {pins : List (Addr × Obj)} {σ : L2.St} {m : List Addr} {A : AH} {H : Hp} {s : Shared} {w : W} {v : V} {u : Value} {t : Kd} (hX : G.Has k X) (I : Inv X pins σ H s) (hr : HR G.K G.T m A H) (r : RepW G.K G.T m A H w v) (ru : RelV v u) (ht : kdW A w = some t) :
    PySem.W.Looks (model X.prog X.w) s.heap (typeOf u) (kdV G.T t) := by
  have lst : ∀ {p : Addr} {vs : List V}, SqL X.K H p vs → PySem.W.Looks (model X.prog X.w) s.heap (typeOf (.ref p)) (.type "list") := fun {p vs} h => by
    obtain ⟨its, _, ⟨o, n, e, c, _⟩, _⟩ := I.list h
    have := (PySem.W.Looks.ld (M := model X.prog X.w) (part := none) e).andThen (f := fun o : Obj => pure o.cls) .now
    rw [c] at this
    exact this
  have tup : ∀ {p : Addr} {vs : List V}, SqT X.K H p vs → PySem.W.Looks (model X.prog X.w) s.heap (typeOf (.ref p)) (.type "tuple") := fun {p vs} h => by
    obtain ⟨its, _, ⟨o, e, c, _⟩, _⟩ := I.tuple h
    have := (PySem.W.Looks.ld (M := model X.prog X.w) (part := none) e).andThen (f := fun o : Obj => pure o.cls) .now
    rw [c] at this
    exact this
  have own : ∀ {p C dx : Addr} {fs : List (Str × V)}, H p = some (.ins C dx fs) → PySem.W.Looks (model X.prog X.w) s.heap (typeOf (.ref p)) (.ref C) := fun {p C dx fs} h => by
    obtain ⟨mA, Ob, _⟩ := ins_get I.hok h
    obtain ⟨od, J, _⟩ := Ob.look
    exact J.type
  rw [hX.K] at lst tup
  cases w with
  | loc n =>
    obtain ⟨p, rfl, hp⟩ := r
    simp only [kdW] at ht
    split at ht
    · rename_i l hc
      cases ht
      cases ru
      obtain ⟨vs, h, _⟩ := hr.cell _ _ _ hp hc
      exact lst (SqL.of h)
    · cases ht
  | t d =>
    cases d <;> simp only [kdW, kdD] at ht <;> first | (cases ht; done) | skip
    all_goals (simp only [RepW, Rep] at r; cases ht)
    · subst r; cases ru; exact PySem.W.Looks.of_pure rfl
    · subst r; cases ru; exact PySem.W.Looks.of_pure rfl
    · subst r; obtain ⟨t, rfl⟩ := ru; exact PySem.W.Looks.of_pure rfl
    · subst r; obtain ⟨t, rfl⟩ := ru; exact PySem.W.Looks.of_pure rfl
    · obtain ⟨p, dx, rfl, h, _⟩ := r
      cases ru
      exact own h
    · obtain ⟨p, vs, rfl, h, _⟩ := r
      cases ru
      exact tup (tup_sq h)
    · obtain ⟨p, vs, rfl, h, _⟩ := r
      cases ru
      exact lst (lst_sq h)
    · obtain ⟨p, dx, vs, rfl, h, _⟩ := r
      cases ru
      exact own h
    · obtain ⟨p, rfl, h, _⟩ := r
      cases ru
      obtain ⟨_, _, vs, _, o, es, ep, e, ex, _⟩ := (show ObjOk X.prog X.w H s.heap p (.dK []) from I.hok p _ h)
      have := (PySem.W.Looks.ld (M := model X.prog X.w) (part := none) e).andThen (f := fun o : Obj => pure o.cls) .now
      rw [ex.1] at this
      exact this
/-- what a class tells of == of its own -/
structure OwnEq (G : Gc) (c nc : Nat) (f : Addr) : Prop where
  at_ : PySem.W.findIn G.K (.ref (G.T.at_ c)) "__eq__" = some (some (.ref f))
  ne_ : PySem.W.findIn G.K (.ref (G.T.at_ c)) "__ne__" = some (some (.builtin "object.__ne__"))
  fn : PySem.W.isFn G.K (.ref f) = true
  mro : PySem.W.mroIn G.K (G.T.at_ c) (.type "object") = some true
  sb : ∀ n, bNames n → PySem.W.subIn G.K (.type n) (.ref (G.T.at_ c)) = some false
  so : ∀ j, j < nc → j ≠ c → PySem.W.subIn G.K (.ref (G.T.at_ j)) (.ref (G.T.at_ c)) = some false
theorem OwnEq.nf {c : Nat} {f : Addr} (O : OwnEq G c nc f) {A : AH} {w : W} {t : Kd} (ht : kdW A w = some t) (h1 : ∀ j, t = .o j → j < nc) : PySem.W.notFirst G.K (G.T.at_ c) (kdV G.T t) = true := by
  unfold PySem.W.notFirst
  cases t with
  | b n =>
    have := O.sb n (kd_names ht)
    show (_ || PySem.W.subIn G.K (.type n) (.ref (G.T.at_ c)) == some false) = true
    rw [this]; simp
  | o j =>
    by_cases e : j = c
    · subst e; simp [kdV]
    · have := O.so j (h1 j rfl) e
      show (_ || PySem.W.subIn G.K (.ref (G.T.at_ j)) (.ref (G.T.at_ c)) == some false) = true
      rw [this]; simp
def rEqO (G : Gc) (c nc : Nat) (neg : Bool) (S : OK2) : R2 := fun x y H Q => ∃ m A w1 w2 t, HR G.K G.T m A H ∧ RepW G.K G.T m A H w1 x ∧ RepW G.K G.T m A H w2 y ∧ isI c w1 ∧ kdW A w2 = some t ∧ (∀ j, t = .o j → j < nc) ∧
  S [w1, w2] [] A fun w A' => ∃ b, w = .t (.bl b) ∧ ∀ m' H', Lt m A H m' A' H' → HR G.K G.T m' A' H' → Q (.bl (b != neg)) H'
theorem own_eq {c : Nat} {f : Addr} {S : OK2} {X : Cx} (hX : G.Has k X) (O : OwnEq G c nc f) (cal : Cal G k (.ref f) 2 [] S) : OpR X (compareOp .Eq) (rEqO G c nc false S) := by
  intro pins s σ H x y v u Q I rx ry z
  obtain ⟨m, A, w1, w2, t, hr, r1, r2, i1, ht, h1, z⟩ := z
  obtain ⟨a, dx, fs, rfl, ha⟩ := isI_at i1 r1
  have ev : v = Value.ref a := rx
  subst ev
  obtain ⟨mA, Ob, _⟩ := ins_get I.hok ha
  obtain ⟨od, J, _⟩ := Ob.look
  obtain ⟨mf, F⟩ := I.fr
  have kin := I.ok.mod.kin
  have at_ := O.at_
  have fn := O.fn
  have nf := O.nf ht h1
  have look := ty_looks hX I hr r2 ry ht
  rw [hX.K] at kin
  show wpAny _ _ (richCompare .Eq _ _) _ _ _
  refine PySem.W.cmp_K (op := .Eq) hX.room.units0 F kin J look nf at_ fn (thn (wpAny_call (cal.run X hX pins s σ H [.ref a, u] [] [.ref a, y] [] Q m A [w1, w2] [] I (.cons rfl (.cons ry .nil)) .nil hr ⟨_, _, rfl, r1, _, _, rfl, r2, rfl⟩ rfl rfl rfl (cal.mono _ _ _ _ _ (fun w B z v m' H' l h' r => ?_) z))) fun _ _ q => ep_back q)
  obtain ⟨b, rfl, z⟩ := z
  simp only [RepW, Rep] at r
  rw [r]
  have := z m' H' l h'
  rwa [Bool.bne_false] at this
theorem own_ne {c : Nat} {f : Addr} {S : OK2} {X : Cx} (hX : G.Has (k + 2) X) (O : OwnEq G c nc f) (cal : Cal G k (.ref f) 2 [] S) : OpR X (compareOp .NotEq) (rEqO G c nc true S) := by
  intro pins s σ H x y v u Q I rx ry z
  obtain ⟨m, A, w1, w2, t, hr, r1, r2, i1, ht, h1, z⟩ := z
  obtain ⟨a, dx, fs, rfl, ha⟩ := isI_at i1 r1
  have ev : v = Value.ref a := rx
  subst ev
  obtain ⟨mA, Ob, _⟩ := ins_get I.hok ha
  obtain ⟨od, J, _⟩ := Ob.look
  have kin := I.kIn
  rw [hX.K] at kin
  have nf := O.nf ht h1
  have look := ty_looks hX I hr r2 ry ht
  have I1 : Inv (toA X X.A.in1) pins σ H s := inv_to I rfl rfl
  have hX1 : G.Has k (toA X X.A.in1) := has_to hX ((hX.room.mono (Nat.le_succ _)).in1) rfl
  have eqc : wpAny (model X.prog X.w) X.A.in1 (call (.ref f) [.ref a, u]) (fun v s' => ∃ b, v = .bool b ∧ EP X pins σ Q (.bool (!b)) s') X.xe s := by
    refine thn (wpAny_call (cal.run (toA X X.A.in1) hX1 pins s σ H [.ref a, u] [] [.ref a, y] [] (fun v H' => ∃ b, v = .bl b ∧ Q (.bl (!b)) H') m A [w1, w2] [] I1 (.cons rfl (.cons ry .nil)) .nil hr ⟨_, _, rfl, r1, _, _, rfl, r2, rfl⟩ rfl rfl rfl (cal.mono _ _ _ _ _ (fun w B z v m' H' l h' r => ?_) z))) fun v s' q => ?_
    · obtain ⟨b, rfl, z⟩ := z
      simp only [RepW, Rep] at r
      have := z m' H' l h'
      rw [Bool.bne_true] at this
      exact ⟨b, r, this⟩
    · obtain ⟨v1, H1, J1, rv, b, rfl, q⟩ := q
      cases rv
      exact ⟨b, rfl, .bl (!b), H1, inv_back J1 rfl rfl, rfl, q⟩
  have ne1 : wpAny (model X.prog X.w) X.A (call (.builtin "object.__ne__") [.ref a, u]) (EP X pins σ Q) X.xe s := by
    refine wpAny_call (codeAny_call_builtin (by decide +kernel) PySem.F.cmpEntry_ne (PySem.W.check_slot (i := "object.__ne__") (owner := "object") (n := "__ne__") (by decide +kernel) (by decide +kernel) (J.type.andThen (PySem.W.looks_mroIn kin O.mro)) (PySem.F.cmpArgs_ne _ _) ?_))
    unfold PySem.Builtin.«object.__ne__»
    refine wpAny_bind (m := slotArgs "__ne__" 1 _) (wpAny_pure ?_)
    refine wpAny_bind (m := cRoomFor _ _) (wpAny_cRoomFor (by have := hX.room.un; show X.A.units + 1 < cLine; omega) ?_)
    refine wpAny_bind (m := callSpecialIfBound? (.ref a) (Str.ofString "__eq__") _) (PySem.W.ifBound_K kin J O.at_ O.fn (thn eqc fun v s' q => ?_))
    obtain ⟨b, rfl, q⟩ := q
    exact wpAny_bind (wpAny_truthy_bool (wpAny_pure q))
  have fin : wpAny (model X.prog X.w) X.A (tryCompare (.ref a) (cmpInfo .NotEq).2.1 u) (fun r s' => ∃ v, r = some v ∧ EP X pins σ Q v s') X.xe s := by
    unfold tryCompare
    refine wpAny_bind (m := callSpecialIfBound? (.ref a) _ _) ?_
    simp only [bindSpecialIfBound?, callSpecialIfBound?]
    have go : wpAny (model X.prog X.w) X.A (call (.builtin "object.__ne__") ([.ref a] ++ [u]) >>= fun v => pure (some v)) (fun r s' => wpAny (model X.prog X.w) X.A (match r with
      | some .notImplemented => pure none
      | none => pure none
      | some v => pure (some v)) (fun r s' => ∃ v, r = some v ∧ EP X pins σ Q v s') X.xe s') X.xe s := by
      refine wpAny_bind (thn ne1 fun v s' q => wpAny_pure ?_)
      have n : v ≠ .notImplemented := by obtain ⟨_, _, _, r, _⟩ := q; exact rel_ni r
      cases v <;> first | exact absurd rfl n | exact wpAny_pure ⟨_, rfl, q⟩
    refine wpAny_holding (wpAny_bind (wpAny_bind (wpAny_bind (J.type.here ((PySem.W.looks_findIn kin O.ne_).here ?_)))))
    refine wpAny_bind (wpAny_askSetting (wpAny_ite (?_)))
    split
    · exact wpAny_bind ((PySem.W.Looks.of_pure (PySem.F.slot_object_ne.bind _)).here (wpAny_pure go))
    · exact wpAny_tryCatch (wpAny_bind ((PySem.W.Looks.of_pure (PySem.F.slot_object_ne.bind _)).here (wpAny_pure go)))
  show wpAny _ _ (richCompare .NotEq _ _) _ _ _
  unfold richCompare
  simp only [oneThing_ref]
  refine wpAny_holding (wpAny_bind (wpAny_cRoomFor hX.room.units0 (wpAny_bind (J.type.here (wpAny_bind (look.here ?_))))))
  split
  · rename_i q
    have e : PySem.W.subIn G.K (kdV G.T t) (.ref (G.T.at_ c)) = some false := by
      rcases Bool.or_eq_true_iff.mp nf with e | e
      · exact absurd q (by rw [beq_iff_eq.mp e]; simp)
      · exact beq_iff_eq.mp e
    refine wpAny_bind ((PySem.W.looks_subIn kin e).here ?_)
    simp only [if_false, Bool.false_eq_true]
    refine wpAny_bind (thn fin fun r s' z => ?_)
    obtain ⟨v, rfl, hq⟩ := z
    exact wpAny_pure hq
  · refine wpAny_bind (wpAny_pure (?_))
    simp only [if_false, Bool.false_eq_true]
    refine wpAny_bind (thn fin fun r s' z => ?_)
    obtain ⟨v, rfl, hq⟩ := z
    exact wpAny_pure hq
end
end Hw
namespace Hw
open PySem L2

section
variable {G : Gc} {k : Nat}
/-! ### repr of flat lists, of own instances; str -/
def flatT : D → Option Str
  | .int i => if i.natAbs < 2 ^ 1900 then some (toString i) else none
  | .bl b => some (if b then "True" else "False")
  | .non => some "None"
  | _ => none
def flatTs : List D → Option (List Str)
  | [] => some []
  | d :: l => match flatT d, flatTs l with
    | some t, some ts => some (t :: ts)
    | _, _ => none
theorem flat_len {d : D} {t : Str} (h : flatT d = some t) : t.length ≤ 1921 := by
  cases d <;> simp only [flatT] at h <;> first | (cases h; done) | skip
  · cases h; decide +kernel
  · rename_i b
    cases h
    cases b <;> decide +kernel
  · split at h
    · rename_i hi
      cases h
      exact PyProof.Rows.int_text_len_1921 (log1920 hi)
    · cases h
theorem flats_len : ∀ {l : List D} {ts : List Str}, flatTs l = some ts → piled ts ≤ 1923 * l.length ∧ ts.length = l.length
  | [], ts, h => by
    simp only [flatTs] at h
    cases h
    exact ⟨by rw [piled_nil]; exact Nat.zero_le _, rfl⟩
  | d :: l, ts, h => by
    simp only [flatTs] at h
    split at h
    · rename_i t ts' h1 h2
      cases h
      obtain ⟨a, b⟩ := flats_len h2
      have c := flat_len h1
      rw [piled_cons, List.length_cons, List.length_cons]
      exact ⟨by omega, by omega⟩
    · cases h
theorem sep_len {k : Nat} : ((if k > 0 then ", " else "" : String) : Str).length ≤ 2 := by
  by_cases h : k > 0
  · rw [if_pos h]; decide +kernel
  · rw [if_neg h]; decide +kernel
theorem str_app (a b : Str) : (a ++ b).length = a.length + b.length := by
  first | exact Str.length_append a b | simp [Str.length]
theorem text_le : ∀ (ts : List Str) (k : Nat) (acc : Str), (textFrom k acc ts).length ≤ acc.length + piled ts
  | [], k, acc => by unfold textFrom; exact Nat.le_add_right _ _
  | t :: ts, k, acc => by
    unfold textFrom
    have ih := text_le ts (k + 1) (acc ++ (if k > 0 then ", " else "" : String) ++ t)
    rw [str_app, str_app] at ih
    have := sep_len (k := k)
    rw [piled_cons]
    omega
theorem list_le (ts : List Str) : (listText ts).length ≤ piled ts + 2 := by
  unfold listText
  have := text_le ts 0 "["
  have e1 : ("[" : Str).length = 1 := by decide +kernel
  have e2 : ("]" : Str).length = 1 := by decide +kernel
  rw [str_app]
  omega
theorem flat_is {prog : Program} {w : World} {K : PySem.W.Frag} {T : Tb} {m : List Addr} {A : AH} {H : Hp} {d : D} {v : V} {u : Value} {t : Str} (h : flatT d = some t) (r : Rep K T m A H d v) (ru : RelV v u) : ReprIs prog w u t := by
  cases d <;> simp only [flatT] at h <;> first | (cases h; done) | skip
  · cases h
    simp only [Rep] at r
    subst r
    cases ru
    exact ReprIs.none
  · cases h
    simp only [Rep] at r
    subst r
    cases ru
    exact ReprIs.bool _
  · split at h
    · rename_i hi
      cases h
      simp only [Rep] at r
      subst r
      obtain ⟨tk, rfl⟩ := ru
      exact ReprIs.int tk (log1920 hi)
    · cases h
theorem flats_is {prog : Program} {w : World} {K : PySem.W.Frag} {T : Tb} {m : List Addr} {A : AH} {H : Hp} : ∀ {l : List D} {vs : List V} {us : List Value} {ts : List Str}, flatTs l = some ts → Reps K T m A H l vs → Vals vs us → ∀ (i : Nat) (x : Value), us[i]? = some x → ∃ t, ts[i]? = some t ∧ ReprIs prog w x t
  | [], vs, us, ts, h, r, rv, i, x, hx => by
    simp only [Reps] at r
    subst r
    cases rv
    simp at hx
  | d :: l, vs, us, ts, h, r, rv, i, x, hx => by
    simp only [flatTs] at h
    simp only [Reps] at r
    obtain ⟨v, q, rfl, r1, r2⟩ := r
    split at h
    · rename_i t ts' h1 h2
      cases h
      cases rv with
      | cons a b =>
        cases i with
        | zero => simp at hx; subst hx; exact ⟨t, rfl, flat_is h1 r1 a⟩
        | succ i => exact flats_is h2 r2 b i x (by simpa using hx)
    · cases h
@[irreducible] def lText (ts : List Str) : Str := listText ts
/-- repr: of a flat list; of an own instance (S: its __repr__) -/
@[irreducible] def reprW (c : D → Bool) (S : OK2) : OL := fun ws A Q => match ws with
  | [.t (.lst l)] => match flatTs l with
    | some ts => (l.length ≤ 40 ∧ l ≠ []) ∧ Q (.t (.str (lText ts))) A
    | none => False
  | [.t d] => c d = true ∧ S [.t d] [] A fun w B => ∃ z, w = .t (.str z) ∧ Q w B
  | _ => False
/-- an own class's text -/
structure OwnStr (G : Gc) (c : D → Bool) (nm : Str) (f : Addr) (Ca : Addr) : Prop where
  at_ : PySem.W.findIn G.K (.ref Ca) nm = some (some (.ref f))
  fn : PySem.W.isFn G.K (.ref f) = true
  ins : ∀ d m A H v, c d = true → Rep G.K G.T m A H d v → ∃ a dx fs, v = .ref a ∧ H a = some (.ins Ca dx fs)
theorem str_back {X : Cx} {pins : List (Addr × Obj)} {σ : L2.St} {Q : VK} {u : Value} {s : Shared} (h : EP X pins σ (fun v H => ∃ z, v = .str z ∧ Q v H) u s) : PySem.W.StrBack (EP X pins σ Q) u s := by
  obtain ⟨v, H', I, r, z, rfl, q⟩ := h
  obtain ⟨t, rfl⟩ := r
  exact ⟨.str z, H', I, ⟨t, rfl⟩, q⟩
theorem sl_repr {c : D → Bool} {f Ca : Addr} {S : OK2} (hgd : G.gd = true) (O : OwnStr G c "__repr__" f Ca) (cal : Cal G k (.ref f) 1 [] S) : SOL G (k + 2) (.builtin "repr") (reprW c S) := by
  refine ⟨fun ws A Q Q' k h => ?_, fun X hX pins s σ H xs us Q I rv z => ?_⟩
  · unfold reprW at h ⊢
    split at h
    · split at h
      · exact ⟨h.1, k _ _ h.2⟩
      · exact h.elim
    · exact ⟨h.1, cal.mono _ _ _ _ _ (fun w B z => by obtain ⟨y, e, z⟩ := z; exact ⟨y, e, k _ _ z⟩) h.2⟩
    · exact h.elim
  · obtain ⟨m, A, ws, hr, r1, z⟩ := z
    unfold reprW at z
    split at z
    · split at z
      · rename_i l _ ts hts
        obtain ⟨v, rfl, q1⟩ := rep1 r1
        simp only [RepW, Rep] at q1
        obtain ⟨p, vs, rfl, h1, q1⟩ := q1
        obtain ⟨u, rfl, ru⟩ := vals1 rv
        have eu : u = Value.ref p := ru
        subst eu
        obtain ⟨its, ri, ⟨o, n, e0, c0, _, d0⟩, hz⟩ := I.list (a := p) (xs := vs) (by rw [hX.K]; exact lst_sq h1)
        obtain ⟨fl, fl2⟩ := flats_len hts
        have hl := q1.length
        have hle := list_le ts
        have sz : (listText ts).length ≤ sizeLine := by
          have : l.length ≤ 40 := z.1.1
          rw [sizeLine_eq]; omega
        obtain ⟨x, its', rfl⟩ : ∃ x its', its = x :: its' := by
          cases its with
          | nil =>
            have := ri.length
            have h0 : l.length ≠ 0 := fun q => z.1.2 (List.length_eq_zero_iff.mp q)
            simp only [List.length_nil] at this
            omega
          | cons x its' => exact ⟨x, its', rfl⟩
        refine call_repr_slot (by have := hX.room.un; omega) ⟨o, e0, c0⟩ PySem.F.slot_list_repr.toG (call_list_repr (g := []) ⟨o, e0, c0⟩ (hX.grd hgd) (fun _ _ _ h => absurd h (by simp)) e0 d0 (by rw [fl2, hl, ri.length]; rfl) (fun i y hy => flats_is hts q1 ri i y (by simpa using hy)) (fun h' u tk hk => ?_) sz)
        exact ⟨_, _, rfl, .str (listText ts), H, I.kept hk, ⟨_, rfl⟩, z.2 _ m H Lt.refl hr (by unfold lText; exact repStr)⟩
      · exact z.elim
    · rename_i d _
      obtain ⟨v, rfl, q1⟩ := rep1 r1
      obtain ⟨hc, z⟩ := z
      obtain ⟨a, dx, fs, rfl, ha⟩ := O.ins d m A H v hc q1
      obtain ⟨u, rfl, ru⟩ := vals1 rv
      have eu : u = Value.ref a := ru
      subst eu
      obtain ⟨mA, Ob, _⟩ := ins_get I.hok ha
      obtain ⟨od, J, _⟩ := Ob.look
      obtain ⟨mf, F⟩ := I.fr
      have kin := I.ok.mod.kin
      rw [hX.K] at kin
      have I1 : Inv (toA X X.A.in1) pins σ H s := inv_to I rfl rfl
      have hX1 : G.Has k (toA X X.A.in1) := has_to hX ((hX.room.mono (Nat.le_succ _)).in1) rfl
      refine PySem.W.repr_K (by have := hX.room.un; show X.A.units + 1 < cLine; omega) F kin J O.at_ O.fn (thn (wpAny_call (cal.run (toA X X.A.in1) hX1 pins s σ H [.ref a] [] [.ref a] [] (fun v H => ∃ z, v = .str z ∧ Q v H) m A [.t d] [] I1 (.cons rfl .nil) .nil hr ⟨_, _, rfl, q1, rfl⟩ rfl rfl rfl (cal.mono _ _ _ _ _ (fun w B z v m' H' l h' r => ?_) z))) fun v s' q => ?_)
      · obtain ⟨y, rfl, z⟩ := z
        have r2 := r
        simp only [RepW, Rep] at r2
        exact ⟨y, r2, z v m' H' l h' r⟩
      · exact str_back (ep_to q rfl rfl)
    · exact z.elim
/-- str: of an int; of an own instance (S: its __str__) -/
def strW (c : D → Bool) (S : OK2) : OL := fun ws A Q => match ws with
  | [.t (.int i)] => i.natAbs < 2 ^ 1900 ∧ Q (.t (.str (toString i))) A
  | [.t d] => c d = true ∧ S [.t d] [] A fun w B => ∃ z, w = .t (.str z) ∧ Q w B
  | _ => False
theorem sl_str {c : D → Bool} {f Ca : Addr} {S : OK2} (O : OwnStr G c "__str__" f Ca) (cal : Cal G k (.ref f) 1 [] S) : SOL G (k + 3) (.type "str") (strW c S) := by
  refine ⟨fun ws A Q Q' k h => ?_, fun X hX pins s σ H xs us Q I rv z => ?_⟩
  · unfold strW at h ⊢
    split at h
    · exact ⟨h.1, k _ _ h.2⟩
    · exact ⟨h.1, cal.mono _ _ _ _ _ (fun w B z => by obtain ⟨y, e, z⟩ := z; exact ⟨y, e, k _ _ z⟩) h.2⟩
    · exact h.elim
  · obtain ⟨m, A, ws, hr, r1, z⟩ := z
    unfold strW at z
    split at z
    · obtain ⟨v, rfl, q1⟩ := rep1 r1
      simp only [RepW, Rep] at q1
      subst q1
      exact call_str_int pins s σ H _ us Q I rv ⟨_, rfl, log1920 z.1, z.2 _ m H Lt.refl hr repStr⟩
    · rename_i d _
      obtain ⟨v, rfl, q1⟩ := rep1 r1
      obtain ⟨hc, z⟩ := z
      obtain ⟨a, dx, fs, rfl, ha⟩ := O.ins d m A H v hc q1
      obtain ⟨u, rfl, ru⟩ := vals1 rv
      have eu : u = Value.ref a := ru
      subst eu
      obtain ⟨mA, Ob, _⟩ := ins_get I.hok ha
      obtain ⟨od, J, _⟩ := Ob.look
      have kin := I.kIn
      rw [hX.K] at kin
      have I1 : Inv (toA X X.A.in1.in1) pins σ H s := inv_to I rfl rfl
      have hX1 : G.Has k (toA X X.A.in1.in1) := has_to hX ((show Room (k + 1) X.A.in1 from (hX.room.mono (Nat.le_succ _)).in1).in1) rfl
      refine PySem.W.kso_call (by have := hX.room.un; show X.A.units + 1 + 1 < cLine; omega) kin J O.at_ O.fn (thn (wpAny_call (cal.run (toA X X.A.in1.in1) hX1 pins s σ H [.ref a] [] [.ref a] [] (fun v H => ∃ z, v = .str z ∧ Q v H) m A [.t d] [] I1 (.cons rfl .nil) .nil hr ⟨_, _, rfl, q1, rfl⟩ rfl rfl rfl (cal.mono _ _ _ _ _ (fun w B z v m' H' l h' r => ?_) z))) fun v s' q => ?_)
      · obtain ⟨y, rfl, z⟩ := z
        have r2 := r
        simp only [RepW, Rep] at r2
        exact ⟨y, r2, z v m' H' l h' r⟩
      · exact str_back (ep_to q rfl rfl)
    · exact z.elim
end
end Hw
namespace Hw
open PySem L2

section
variable {C : Ctx} {k n : Nat} {e a b c o tg iter elt : Expr} {f g : Den} {ft : DenT} {pos p apos : Pos} {es args : List Expr} {kws : List Keyword} {ks : List Str} {S : OK2} {x m y : Str} {gp gk : DenA} {u : Value} {st : Stmt}
/-! ### the facts of a body, by names -/
def lvOk (j k : Nat) : Bool := decide (j ≤ k)
theorem lv_le {j k : Nat} (h : lvOk j k = true) : j ≤ k := of_decide_eq_true h
/-- a local name may be read -/
def nmOk (sc : Scope) (x : Str) : Bool := (decide (sc.names.lookup x = some .local) || decide (sc.names.lookup x = some .cell) || decide (sc.names.lookup x = some .free)) && !(x == ("__debug__" : Str)) && !(x == ("__classdict__" : Str))
def glOk (sc : Scope) (x : Str) : Bool := decide (sc.names.lookup x = some .globalImplicit) && !(x == ("__debug__" : Str)) && decide (x ≠ "__name__")
def loOk (sc : Scope) (x : Str) : Bool := decide (sc.names.lookup x = some .local)
theorem gl_ok {sc : Scope} (h : glOk sc x = true) : sc.names.lookup x = some .globalImplicit ∧ (x == ("__debug__" : Str)) = false ∧ x ≠ "__name__" := by
  unfold glOk at h
  simp only [Bool.and_eq_true, decide_eq_true_eq, Bool.not_eq_true', ne_eq] at h
  exact ⟨h.1.1, h.1.2, h.2⟩
theorem se_nm (i : Nat) (hN : C.N[i]? = some x) (h : nmOk C.sc x = true) : SE C (.Name x pos) (vName i) := by
  unfold nmOk at h
  simp only [Bool.and_eq_true, Bool.or_eq_true, decide_eq_true_eq, Bool.not_eq_true'] at h
  refine se_name i hN ?_ h.1.2 h.2
  rcases h.1.1 with (q | q) | q
  · exact .inl q
  · exact .inr (.inl q)
  · exact .inr (.inr q)
theorem ss_st (i : Nat) (hi : C.N[i]? = some x) (hx : loOk C.sc x = true) (he : SE C e f) (hs : ∀ env : PySem.Env, swapsWith e (some (.Name x p)) pos.line env = pure false) : SS C (.Assign [.Name x p] e pos) (vSet i f) :=
  ss_set i hi (.inl (of_decide_eq_true hx)) (.inr (of_decide_eq_true hx)) he hs
theorem sg_nm (i : Nat) (hi : C.N[i]? = some x) (hx : loOk C.sc x = true) : SG C (.Name x pos) [i] (dName i) :=
  sg_name i hi (.inl (of_decide_eq_true hx)) (.inr (of_decide_eq_true hx))
theorem ss_pr {x y : Str} {px py pt pt2 : Pos} {kt k2 : Nat} {g : DenA} (i j : Nat) (hi : C.N[i]? = some x) (hj : C.N[j]? = some y) (hij : i ≠ j) (hx : loOk C.sc x = true) (hy : loOk C.sc y = true) (ha : SA C [a, b] g)
    (hw : ∀ env : PySem.Env, env.scope = C.sc → swappedStores [.Tuple [.Name x px, .Name y py] kt pt] (.Tuple [a, b] k2 pt2) env = pure (some [x, y])) (hs : ∀ env : PySem.Env, swapsWithSole [.Tuple [.Name x px, .Name y py] kt pt] (.Tuple [a, b] k2 pt2) pos.line env = pure false) :
    SS C (.Assign [.Tuple [.Name x px, .Name y py] kt pt] (.Tuple [a, b] k2 pt2) pos) (vPar i j g) := ss_par i j hi hj hij (of_decide_eq_true hx) (of_decide_eq_true hy) ha hw hs
theorem ss_raise {e1 e2 : Option Expr} : SS C (.Raise e1 e2 pos) vNever := ss_never
/-- a thing of the module that is called by its name -/
structure Fnc (G : Gc) (k : Nat) (x : Str) (n : Nat) (ks : List Str) (S : OK2) : Prop where
  ex : ∃ u, G.mg x = some u ∧ Cal G k u n ks S
def ksOf (kws : List Keyword) : List Str := kws.filterMap (·.arg)
theorem se_fnc (F : Fnc C.g k x (e :: es).length (ksOf kws) S) (hk : lvOk k C.lev = true) (hg : glOk C.sc x = true) (hp : SA C (e :: es) gp) (hkw : SK C kws gk) (sh : ∀ env, Shp (e :: es) kws (ksOf kws) pos env) (he : ∀ env : PySem.Env, starEach (e :: es) env = (false, eval e env) :: starEach es env) :
    SE C (.Call (.Name x p) (e :: es) kws pos) (vCall (e :: es).length (ksOf kws).length S gp gk) := by
  obtain ⟨u, hm, F⟩ := F.ex
  exact se_call F (lv_le hk) (gl_ok hg).1 hm (gl_ok hg).2.1 hp hkw sh he
theorem se_fnc0 (F : Fnc C.g k x 0 (ksOf kws) S) (hk : lvOk k C.lev = true) (hg : glOk C.sc x = true) (hkw : SK C kws gk) (sh : ∀ env, Shp [] kws (ksOf kws) pos env) :
    SE C (.Call (.Name x p) [] kws pos) (vCall 0 (ksOf kws).length S vNil gk) := by
  obtain ⟨u, hm, F⟩ := F.ex
  exact se_call0 F (lv_le hk) (gl_ok hg).1 hm (gl_ok hg).2.1 hkw sh
/-- a built-in -/
structure Bif (G : Gc) (k : Nat) (x : Str) (r : OL) : Prop where
  ex : (∃ id, G.mg x = none ∧ bootBuiltins x = some (.builtin id) ∧ SOL G k (.builtin id) r) ∨ (∃ id, G.mg x = some (.builtin id) ∧ SOL G k (.builtin id) r) ∨ (∃ Ty, G.mg x = none ∧ bootBuiltins x = some (.type Ty) ∧ SOL G k (.type Ty) r)
theorem se_bif {r : OL} {g : DenA} (F : Bif C.g k x r) (hk : lvOk k C.lev = true) (hg : glOk C.sc x = true) (ha : SA C (e :: es) g) (hs : ∀ env : PySem.Env, starEach (e :: es) env = (false, eval e env) :: starEach es env)
    (h2 : ∀ env : PySem.Env, ((backTo pos (starEach es env)).any (·.1)) = false) : SE C (.Call (.Name x p) (e :: es) [] pos) (vCB r g) := by
  rcases F.ex with ⟨id, hm, hv, hc⟩ | ⟨id, hm, hc⟩ | ⟨Ty, hm, hv, hc⟩
  · exact se_callB hc (lv_le hk) (gl_ok hg).1 hm hv ha (gl_ok hg).2.2 (gl_ok hg).2.1 hs h2
  · exact se_callM hc (lv_le hk) (gl_ok hg).1 hm ha (gl_ok hg).2.1 hs h2
  · exact se_callTy hc (lv_le hk) (gl_ok hg).1 hm hv ha (gl_ok hg).2.2 (gl_ok hg).2.1 hs h2
/-- a name that holds a class, a built-in type -/
structure Nam (G : Gc) (x : Str) (d : D) : Prop where
  ex : (∃ c, G.mg x = some (.ref (G.T.at_ c)) ∧ d = .cls c) ∨ (∃ Ty, G.mg x = none ∧ bootBuiltins x = some (.type Ty) ∧ d = .ty Ty)
theorem se_nam {d : D} (F : Nam C.g x d) (hg : glOk C.sc x = true) : SE C (.Name x p) (vC d) := by
  rcases F.ex with ⟨c, hm, rfl⟩ | ⟨Ty, hm, hv, rfl⟩
  · exact se_cls (gl_ok hg).1 hm (gl_ok hg).2.1
  · exact se_ty (gl_ok hg).1 hm hv (gl_ok hg).2.2 (gl_ok hg).2.1
/-- a property -/
structure Prp (G : Gc) (k : Nat) (x : Str) (pt : D → Bool) (S : OL) : Prop where
  ex : ∃ (Ca pa ga : Addr) (fd : FuncData) (y : Str), Ins G pt Ca x ∧ PropOf G.K Ca x pa ga ∧ Fn G k ga fd [y] S ∧ Bd G fd [y] 1 [] [] [.p 0]
theorem se_prp {pt : D → Bool} {S : OL} (P : Prp C.g k x pt S) (hk : lvOk (k + 1) C.lev = true) (ho : SE C o f) (hb : ∀ env : PySem.Env, attributeBase o x env (eval o env) = eval o env) : SE C (.Attribute o x pos) (vProp pt S f) := by
  obtain ⟨Ca, pa, ga, fd, y, ins, hp, F, B0⟩ := P.ex
  exact se_prop ho ins hp F B0 (lv_le hk) hb
/-- a method -/
structure Mth (G : Gc) (k : Nat) (m : Str) (pt : D → Bool) (n : Nat) (ks : List Str) (S : OK2) : Prop where
  ex : ∃ (Ca fa : Addr), Ins G pt Ca m ∧ Meth G.K Ca m fa ∧ Cal G k (.ref fa) n ks S
theorem se_mth {pt : D → Bool} (pl : PySem.Env → Sem Bool) (F : Mth C.g k m pt ((e :: es).length + 1) (ksOf kws) S) (hk : lvOk k C.lev = true) (ho : SE C o f) (hp : SA C (e :: es) gp) (hkw : SK C kws gk) (sh : ∀ env, Shp (e :: es) kws (ksOf kws) pos env) (he : ∀ env : PySem.Env, starEach (e :: es) env = (false, eval e env) :: starEach es env)
    (ms : ∀ env, MShp o m apos (e :: es) kws pos (pl env) env) : SE C (.Call (.Attribute o m apos) (e :: es) kws pos) (vMeth pt ((e :: es).length + 1) (ksOf kws).length S f gp gk) := by
  obtain ⟨Ca, fa, ins, hm, F⟩ := F.ex
  exact se_meth pl ho ins hm F (lv_le hk) hp hkw sh he ms
theorem se_mth0 {pt : D → Bool} (pl : PySem.Env → Sem Bool) (F : Mth C.g k m pt 1 (ksOf kws) S) (hk : lvOk k C.lev = true) (ho : SE C o f) (hkw : SK C kws gk) (sh : ∀ env, Shp [] kws (ksOf kws) pos env)
    (ms : ∀ env, MShp o m apos [] kws pos (pl env) env) : SE C (.Call (.Attribute o m apos) [] kws pos) (vMeth pt 1 (ksOf kws).length S f vNil gk) := by
  obtain ⟨Ca, fa, ins, hm, F⟩ := F.ex
  exact se_meth0 pl ho ins hm F (lv_le hk) hkw sh ms
/-- a class method -/
structure Cmt (G : Gc) (k : Nat) (c : Nat) (m : Str) (n : Nat) (ks : List Str) (S : OK2) : Prop where
  ex : ∃ (mc : Value) (pa ga : Addr), ClX.CRead G.K (G.T.at_ c) mc ∧ ClX.CMet G.K (G.T.at_ c) mc m pa ga ∧ Cal G k (.ref ga) n ks S
theorem se_cmt {c : Nat} (pl : PySem.Env → Sem Bool) (ho : SE C o (vC (.cls c))) (F : Cmt C.g k c m ((e :: es).length + 1) (ksOf kws) S) (hk : lvOk k C.lev = true) (hp : SA C (e :: es) gp) (hkw : SK C kws gk) (sh : ∀ env, Shp (e :: es) kws (ksOf kws) pos env) (he : ∀ env : PySem.Env, starEach (e :: es) env = (false, eval e env) :: starEach es env)
    (ms : ∀ env, MShp o m apos (e :: es) kws pos (pl env) env) : SE C (.Call (.Attribute o m apos) (e :: es) kws pos) (vCm c ((e :: es).length + 1) (ksOf kws).length S gp gk) := by
  obtain ⟨mc, pa, ga, rd, cm, F⟩ := F.ex
  exact se_cm pl ho rd cm F (lv_le hk) hp hkw sh he ms
theorem se_cmt0 {c : Nat} (pl : PySem.Env → Sem Bool) (ho : SE C o (vC (.cls c))) (F : Cmt C.g k c m 1 (ksOf kws) S) (hk : lvOk k C.lev = true) (hkw : SK C kws gk) (sh : ∀ env, Shp [] kws (ksOf kws) pos env)
    (ms : ∀ env, MShp o m apos [] kws pos (pl env) env) : SE C (.Call (.Attribute o m apos) [] kws pos) (vCm c 1 (ksOf kws).length S vNil gk) := by
  obtain ⟨mc, pa, ga, rd, cm, F⟩ := F.ex
  exact se_cm0 pl ho rd cm F (lv_le hk) hkw sh ms
end

/-! ### promises without effects -/
def pureS (F : List W → Option (Prop × W)) : OL := fun ws A Q => match F ws with
  | some (p, w) => p ∧ Q w A
  | none => False
theorem mon_pure {F : List W → Option (Prop × W)} : MonL (pureS F) := fun ws A Q Q' k h => by
  unfold pureS at h ⊢
  split at h
  · exact ⟨h.1, k _ _ h.2⟩
  · exact h.elim
end Hw
namespace Hw
open PySem L2
theorem slot0 {a : Str} {l : List Str} : (a :: l)[0]? = some a := rfl
theorem slotS {a x : Str} {l : List Str} {i : Nat} (h : l[i]? = some x) : (a :: l)[i + 1]? = some x := h
end Hw
namespace Hw
open PySem L2

/-! ### fractions -/
theorem nat_mul_lt {a b n m : Nat} (h1 : a < 2 ^ n) (h2 : b < 2 ^ m) : a * b < 2 ^ (n + m) := by
  rw [Nat.pow_add]
  by_cases h : b = 0
  · subst h
    exact Nat.mul_pos (Nat.two_pow_pos n) (Nat.two_pow_pos m)
  · exact Nat.lt_of_le_of_lt (Nat.mul_le_mul_right b (Nat.le_of_lt h1)) (Nat.mul_lt_mul_of_pos_left h2 (Nat.two_pow_pos n))
theorem nat_add_lt {a b n : Nat} (h1 : a < 2 ^ n) (h2 : b < 2 ^ n) : a + b < 2 ^ (n + 1) := by
  rw [Nat.pow_succ]; omega
theorem two_le {n m : Nat} (h : n ≤ m) : 2 ^ n ≤ 2 ^ m := Nat.pow_le_pow_right (by decide) h
/-- both numbers have at most n bits -/
structure Sz (n : Nat) (q : Rat) : Prop where
  t : q.num.natAbs < 2 ^ n
  b : q.den < 2 ^ n
/-- an int has at most n bits -/
def Si (n : Nat) (i : Int) : Prop := i.natAbs < 2 ^ n
theorem Si.up {n m : Nat} {i : Int} (h : Si n i) (k : n ≤ m) : Si m i := Nat.lt_of_lt_of_le h (two_le k)
theorem Sz.up {n m : Nat} {q : Rat} (h : Sz n q) (k : n ≤ m) : Sz m q := ⟨Nat.lt_of_lt_of_le h.t (two_le k), Nat.lt_of_lt_of_le h.b (two_le k)⟩
theorem Si.sm {n : Nat} {i : Int} (h : Si n i) (k : n ≤ 8000) : Sm i := by
  have := h.up k
  exact Sm.of this
theorem Si.mul {n m : Nat} {i j : Int} (h : Si n i) (k : Si m j) : Si (n + m) (i * j) := by
  unfold Si; rw [Int.natAbs_mul]; exact nat_mul_lt h k
theorem Si.add {n : Nat} {i j : Int} (h : Si n i) (k : Si n j) : Si (n + 1) (i + j) := by
  unfold Si; exact Nat.lt_of_le_of_lt (Int.natAbs_add_le i j) (nat_add_lt h k)
theorem Si.neg {n : Nat} {i : Int} (h : Si n i) : Si n (-i) := by unfold Si; rw [Int.natAbs_neg]; exact h
theorem Si.sub {n : Nat} {i j : Int} (h : Si n i) (k : Si n j) : Si (n + 1) (i - j) := by rw [Int.sub_eq_add_neg]; exact h.add k.neg
theorem Sz.num {n : Nat} {q : Rat} (h : Sz n q) : Si n q.num := h.t
theorem Sz.den {n : Nat} {q : Rat} (h : Sz n q) : Si n (q.den : Int) := by unfold Si; rw [Int.natAbs_natCast]; exact h.b
theorem Si.rat {n : Nat} {i : Int} (h : Si n i) (k : 0 < n) : Sz n (i : Rat) := ⟨h, Nat.lt_of_lt_of_le (by decide : 1 < 2 ^ 1) (two_le k)⟩
/-- a fraction made of two ints -/
def mkR (a b : Int) : Rat := Rat.divInt a b
theorem mkR_eq (a b : Int) : mkR a b = (a : Rat) / (b : Rat) := Rat.divInt_eq_div a b
theorem fdiv_exact {a b : Int} (h : b ∣ a) : a.fdiv b = a / b := Int.fdiv_eq_ediv_of_dvd h
theorem gcd_dvd1 (a b : Int) : ((Nat.gcd a.natAbs b.natAbs : Nat) : Int) ∣ a := Int.ofNat_dvd_left.mpr (Nat.gcd_dvd_left ..)
theorem gcd_dvd2 (a b : Int) : ((Nat.gcd a.natAbs b.natAbs : Nat) : Int) ∣ b := Int.ofNat_dvd_left.mpr (Nat.gcd_dvd_right ..)
theorem mk_num (a b : Int) (hb : b ≠ 0) : a.fdiv (if b < 0 then -((Nat.gcd a.natAbs b.natAbs : Nat) : Int) else ((Nat.gcd a.natAbs b.natAbs : Nat) : Int)) = (mkR a b).num := by
  unfold mkR
  rw [Rat.num_divInt]
  have e : ((b.gcd a : Nat) : Int) = ((Nat.gcd a.natAbs b.natAbs : Nat) : Int) := by unfold Int.gcd; rw [Nat.gcd_comm]
  rw [e]
  split
  · rename_i h
    rw [fdiv_exact ((Int.neg_dvd).mpr (gcd_dvd1 a b)), Int.sign_eq_neg_one_of_neg h, Int.ediv_neg, Int.neg_mul, Int.one_mul, Int.neg_ediv_of_dvd (gcd_dvd1 a b)]
  · rename_i h
    rw [fdiv_exact (gcd_dvd1 a b), Int.sign_eq_one_of_pos (by omega), Int.one_mul]
theorem mk_den (a b : Int) (hb : b ≠ 0) : b.fdiv (if b < 0 then -((Nat.gcd a.natAbs b.natAbs : Nat) : Int) else ((Nat.gcd a.natAbs b.natAbs : Nat) : Int)) = ((mkR a b).den : Int) := by
  unfold mkR
  rw [Rat.den_divInt, if_neg hb]
  have e : b.gcd a = Nat.gcd a.natAbs b.natAbs := by unfold Int.gcd; rw [Nat.gcd_comm]
  rw [e, Int.natCast_ediv]
  split
  · rename_i h
    rw [fdiv_exact ((Int.neg_dvd).mpr (gcd_dvd2 a b)), Int.ediv_neg, ← Int.neg_ediv_of_dvd (gcd_dvd2 a b)]
    congr 1; omega
  · rename_i h
    rw [fdiv_exact (gcd_dvd2 a b)]
    congr 1; omega
theorem gcd_ne (a b : Int) (hb : b ≠ 0) : Nat.gcd a.natAbs b.natAbs ≠ 0 := fun h => by
  have := Nat.eq_zero_of_gcd_eq_zero_right h
  omega
theorem gcd_lt {n : Nat} (a b : Int) (hb : b ≠ 0) (h : Si n b) : Si n ((Nat.gcd a.natAbs b.natAbs : Nat) : Int) := by
  unfold Si at h ⊢
  rw [Int.natAbs_natCast]
  exact Nat.lt_of_le_of_lt (Nat.le_of_dvd (by omega) (Nat.gcd_dvd_right ..)) h
theorem mk_num_le (a b : Int) (hb : b ≠ 0) : (mkR a b).num.natAbs ≤ a.natAbs := by
  rw [← mk_num a b hb]
  split
  · rw [fdiv_exact ((Int.neg_dvd).mpr (gcd_dvd1 a b)), Int.ediv_neg, Int.natAbs_neg]
    exact Int.natAbs_ediv_le_natAbs ..
  · rw [fdiv_exact (gcd_dvd1 a b)]
    exact Int.natAbs_ediv_le_natAbs ..
theorem mk_den_le (a b : Int) (hb : b ≠ 0) : (mkR a b).den ≤ b.natAbs := by
  unfold mkR
  rw [Rat.den_divInt, if_neg hb]
  exact Nat.div_le_self ..
theorem mk_sz {n : Nat} {a b : Int} (hb : b ≠ 0) (h1 : Si n a) (h2 : Si n b) : Sz n (mkR a b) := ⟨Nat.lt_of_le_of_lt (mk_num_le a b hb) h1, Nat.lt_of_le_of_lt (mk_den_le a b hb) h2⟩
theorem den_ne (q : Rat) : (q.den : Int) ≠ 0 := by have := q.den_nz; omega
theorem den_neR (q : Rat) : ((q.den : Int) : Rat) ≠ 0 := by
  intro h
  exact den_ne q (Rat.intCast_eq_zero_iff.mp h)
theorem self_mk (q : Rat) : mkR q.num q.den = q := Rat.num_divInt_den q
theorem rat_eq (q : Rat) : (q.num : Rat) / ((q.den : Int) : Rat) = q := by rw [← mkR_eq]; exact self_mk q
theorem num_eq (q : Rat) : (q.num : Rat) = q * ((q.den : Int) : Rat) := by
  have := rat_eq q
  have h := den_neR q
  grind
theorem add_mk (q r : Rat) : mkR (q.num * r.den + r.num * q.den) (q.den * r.den) = q + r := by
  rw [mkR_eq, Rat.intCast_add, Rat.intCast_mul, Rat.intCast_mul, Rat.intCast_mul, num_eq q, num_eq r]
  have h1 := den_neR q
  have h2 := den_neR r
  grind
theorem mul_mk (q r : Rat) : mkR (q.num * r.num) (q.den * r.den) = q * r := by
  rw [mkR_eq, Rat.intCast_mul, Rat.intCast_mul, num_eq q, num_eq r]
  have h1 := den_neR q
  have h2 := den_neR r
  grind
theorem neg_mk (q : Rat) : mkR (-q.num) q.den = -q := by
  rw [mkR_eq, Rat.intCast_neg, num_eq q]
  have h1 := den_neR q
  grind
theorem num_ne {q : Rat} (h : q ≠ 0) : (q.num : Rat) ≠ 0 := by
  intro k
  rw [num_eq q] at k
  have h1 := den_neR q
  grind
theorem div_mk (q r : Rat) (hr : r ≠ 0) : mkR (q.num * r.den) (q.den * r.num) = q / r := by
  have h3 := num_ne hr
  rw [mkR_eq, Rat.intCast_mul, Rat.intCast_mul, num_eq q]
  rw [num_eq r] at h3 ⊢
  have h1 := den_neR q
  have h2 := den_neR r
  grind
theorem num_zero {q : Rat} : q.num = 0 ↔ q = 0 := by
  constructor
  · intro h
    exact Rat.num_eq_zero.mp h
  · intro h; subst h; rfl
theorem Sz.add {n m : Nat} {q r : Rat} (h : Sz n q) (k : Sz m r) : Sz (n + m + 1) (q + r) := by
  rw [← add_mk]
  refine mk_sz (Int.mul_ne_zero (den_ne q) (den_ne r)) ?_ ((h.den.mul k.den).up (by omega))
  exact Si.add (h.num.mul k.den) ((k.num.mul h.den).up (by omega))
theorem Sz.mul {n m : Nat} {q r : Rat} (h : Sz n q) (k : Sz m r) : Sz (n + m) (q * r) := by
  rw [← mul_mk]
  exact mk_sz (Int.mul_ne_zero (den_ne q) (den_ne r)) (h.num.mul k.num) (h.den.mul k.den)
theorem Sz.neg {n : Nat} {q : Rat} (h : Sz n q) : Sz n (-q) := by
  rw [← neg_mk]
  exact mk_sz (den_ne q) h.num.neg h.den
theorem Sz.sub {n m : Nat} {q r : Rat} (h : Sz n q) (k : Sz m r) : Sz (n + m + 1) (q - r) := by
  rw [Rat.sub_eq_add_neg]; exact h.add k.neg
theorem Sz.div {n m : Nat} {q r : Rat} (h : Sz n q) (k : Sz m r) (hr : r ≠ 0) : Sz (n + m) (q / r) := by
  rw [← div_mk q r hr]
  exact mk_sz (Int.mul_ne_zero (den_ne q) (fun z => hr (num_zero.mp z))) ((h.num.mul k.den)) (h.den.mul k.num)
end Hw
namespace Hw
open PySem L2

section
variable {G : Gc} {k j : Nat}
/-! ### operators of a number class of one's own: ints and fractions -/
def numD : D → Option Rat
  | .int i => some (i : Rat)
  | .rat q => some q
  | _ => none
/-- an operator: fractions with fractions and ints by F where P lets them, all else as iw says -/
def opN (P : Rat → Rat → Prop) (F : Rat → Rat → D) (iw : O2) : O2 := fun x y A Q => match x, y with
  | .t (.rat q), .t (.rat r) => P q r ∧ Q (.t (F q r)) A
  | .t (.rat q), .t (.int i) => P q i ∧ Q (.t (F q i)) A
  | .t (.int i), .t (.rat r) => P i r ∧ Q (.t (F i r)) A
  | x, y => iw x y A Q
/-- .. with the fraction on the left -/
def opL (P : Rat → Rat → Prop) (F : Rat → Rat → D) (iw : O2) : O2 := fun x y A Q => match x, y with
  | .t (.rat q), .t (.rat r) => P q r ∧ Q (.t (F q r)) A
  | .t (.rat q), .t (.int i) => P q i ∧ Q (.t (F q i)) A
  | .t (.int i), .t (.rat r) => False
  | x, y => iw x y A Q
theorem mon_opN {P : Rat → Rat → Prop} {F : Rat → Rat → D} {iw : O2} (h0 : Mon2 iw) : Mon2 (opN P F iw) := fun x y A Q Q' k h => by
  unfold opN at h ⊢
  split at h
  · exact ⟨h.1, k _ _ h.2⟩
  · exact ⟨h.1, k _ _ h.2⟩
  · exact ⟨h.1, k _ _ h.2⟩
  · exact h0 _ _ _ _ _ k h
theorem mon_opL {P : Rat → Rat → Prop} {F : Rat → Rat → D} {iw : O2} (h0 : Mon2 iw) : Mon2 (opL P F iw) := fun x y A Q Q' k h => by
  unfold opL at h ⊢
  split at h
  · exact ⟨h.1, k _ _ h.2⟩
  · exact ⟨h.1, k _ _ h.2⟩
  · exact h.elim
  · exact h0 _ _ _ _ _ k h
/-- what a def of two numbers gives -/
def bR (P : Rat → Rat → Prop) (F : Rat → Rat → D) : OL := pureS fun ws => match ws with
  | [.t (.rat q), .t y] => match numD y with
    | some r => some (P q r, .t (F q r))
    | none => none
  | _ => none
/-- .. the int on the other side -/
def bRr (P : Rat → Rat → Prop) (F : Rat → Rat → D) : OL := pureS fun ws => match ws with
  | [.t (.rat q), .t (.int i)] => some (P i q, .t (F i q))
  | _ => none
def uR (P : Rat → Prop) (F : Rat → D) : OL := pureS fun ws => match ws with
  | [.t (.rat q)] => some (P q, .t (F q))
  | _ => none
/-- the spec of a callable with positions alone -/
def posK (S : OL) : OK2 := fun xs _ A Q => S xs A Q
theorem opL_run {P : Rat → Rat → Prop} {F : Rat → Rat → D} {iw : O2} {op : Operator} {f : Addr} (hi : SO2 G 0 (binaryOp op) iw) (O : OwnOp G 0 op f) (cal : Cal G k (.ref f) 2 [] (posK (bR P F))) : SO2 G k (binaryOp op) (opL P F iw) := by
  refine ⟨mon_opL hi.mono, fun X hX => OpR.weak ((own_bin hX O cal).or (hi.run X (hX.mono (Nat.zero_le _)))) fun x y H Q z => ?_⟩
  obtain ⟨m, A, w1, w2, hr, r1, r2, z⟩ := z
  unfold opL at z
  split at z
  · exact .inl ⟨m, A, _, _, hr, r1, r2, rfl, .inl rfl, z⟩
  · exact .inl ⟨m, A, _, _, hr, r1, r2, rfl, .inr ⟨_, rfl⟩, z⟩
  · exact z.elim
  · exact .inr ⟨m, A, _, _, hr, r1, r2, z⟩
theorem opN_run {P : Rat → Rat → Prop} {F : Rat → Rat → D} {iw : O2} {op : Operator} {f fr f' : Addr} {id : String} {B : Builtin} (hi : SO2 G j (binaryOp op) (opL P F iw)) (hj : j ≤ k) (O : OwnR G 0 op f fr id B) (cal : Cal G k (.ref fr) 2 [] (posK (bRr P F))) : SO2 G k (binaryOp op) (opN P F iw) := by
  refine ⟨fun x y A Q Q' kk h => ?_, fun X hX => OpR.weak ((own_rev hX O cal).or (hi.run X (hX.mono hj))) fun x y H Q z => ?_⟩
  · have hm := hi.mono
    unfold opN at h ⊢
    split at h
    · exact ⟨h.1, kk _ _ h.2⟩
    · exact ⟨h.1, kk _ _ h.2⟩
    · exact ⟨h.1, kk _ _ h.2⟩
    · rename_i n1 n2 n3
      have h2 : opL P F iw x y A Q := by
        unfold opL
        split
        · exact (n1 _ _ rfl rfl).elim
        · exact (n2 _ _ rfl rfl).elim
        · exact (n3 _ _ rfl rfl).elim
        · exact h
      have h3 := hm _ _ _ _ _ kk h2
      unfold opL at h3
      split at h3
      · exact (n1 _ _ rfl rfl).elim
      · exact (n2 _ _ rfl rfl).elim
      · exact h3.elim
      · exact h3
  · obtain ⟨m, A, w1, w2, hr, r1, r2, z⟩ := z
    unfold opN at z
    split at z
    · exact .inr ⟨m, A, _, _, hr, r1, r2, z⟩
    · exact .inr ⟨m, A, _, _, hr, r1, r2, z⟩
    · rename_i i r
      have e : x = .int i := by
        simp only [RepW, Rep] at r1
        exact r1
      exact .inl ⟨m, A, _, _, hr, e, r2, rfl, z⟩
    · rename_i n1 n2 n3
      refine .inr ⟨m, A, w1, w2, hr, r1, r2, ?_⟩
      unfold opL
      split
      · exact (n1 _ _ rfl rfl).elim
      · exact (n2 _ _ rfl rfl).elim
      · exact (n3 _ _ rfl rfl).elim
      · exact z

/-! ### - of an own instance -/
structure OwnNeg (G : Gc) (c : Nat) (f : Addr) : Prop where
  at_ : PySem.W.findIn G.K (.ref (G.T.at_ c)) "__neg__" = some (some (.ref f))
  fn : PySem.W.isFn G.K (.ref f) = true
def negN (P : Rat → Prop) (F : Rat → D) : O1 := fun x A Q => match x with
  | .t (.rat q) => P q ∧ Q (.t (F q)) A
  | x => negW x A Q
theorem so_negN {P : Rat → Prop} {F : Rat → D} {f : Addr} (O : OwnNeg G 0 f) (cal : Cal G k (.ref f) 1 [] (posK (uR P F))) : SO1 G k (unaryOp .USub) (negN P F) := by
  refine ⟨fun x A Q Q' k h => ?_, fun X hX pins s σ H x v Q I rx z => ?_⟩
  · unfold negN at h ⊢
    split at h
    · exact ⟨h.1, k _ _ h.2⟩
    · exact mon_negW _ _ _ _ k h
  · obtain ⟨m, A, w1, hr, r1, z⟩ := z
    unfold negN at z
    split at z
    · rename_i q
      have i1 : isI 0 (.t (.rat q)) := rfl
      obtain ⟨a, dx, fs, rfl, ha⟩ := isI_at i1 r1
      have ev : v = Value.ref a := rx
      subst ev
      obtain ⟨mA, Ob, _⟩ := ins_get I.hok ha
      obtain ⟨od, J, _⟩ := Ob.look
      obtain ⟨mf, F⟩ := I.fr
      have kin := I.ok.mod.kin
      rw [hX.K] at kin
      exact PySem.W.ksp_neg F kin J O.at_ O.fn (wpAny_call (cal.run X hX pins s σ H [.ref a] [] [.ref a] [] Q m A [.t (.rat q)] [] I (.cons rfl .nil) .nil hr ⟨_, _, rfl, r1, rfl⟩ rfl rfl rfl z))
    · exact (so_neg (k := 0)).run X (hX.mono (Nat.zero_le _)) pins s σ H x v Q I rx ⟨m, A, w1, hr, r1, z⟩
/-! ### == and != of fractions -/
/-- any value that == lets beside a fraction -/
def cok (nc : Nat) : D → Bool
  | .ins c _ => decide (c < nc) && c != 0
  | .cls _ => false
  | .ty _ => false
  | _ => true
theorem cok_kd {nc : Nat} (h0 : 0 < nc) {d : D} (h : cok nc d = true) : ∃ t, kdD d = some t ∧ ∀ j, t = .o j → j < nc := by
  cases d <;> simp [cok, kdD] at h ⊢
  · exact h0
  · exact h.1
def eqR (q : Rat) : D → Bool
  | .rat r => decide (q = r)
  | _ => false
def sEqR (nc : Nat) : OL := pureS fun ws => match ws with
  | [.t (.rat q), .t d] => some (cok nc d = true, .t (.bl (eqR q d)))
  | _ => none
def eqN (nc : Nat) (neg : Bool) : O2 := fun x y A Q => match x, y with
  | .t (.rat q), .t d => cok nc d = true ∧ Q (.t (.bl (eqR q d != neg))) A
  | x, y => eqSW neg x y A Q
theorem Mon2.of {r r' : O2} (h : Mon2 r) (e : ∀ x y A Q, r' x y A Q ↔ r x y A Q) : Mon2 r' := fun x y A Q Q' k z => (e _ _ _ _).mpr (h _ _ _ _ _ k ((e _ _ _ _).mp z))
theorem SO2.of {f : Value → Value → Sem Value} {r r' : O2} (h : SO2 G k f r) (e : ∀ x y A Q, r' x y A Q ↔ r x y A Q) : SO2 G k f r' :=
  ⟨h.mono.of e, fun X hX => OpR.weak (h.run X hX) fun x y H Q z => by
    obtain ⟨m, A, w1, w2, hr, r1, r2, z⟩ := z
    exact ⟨m, A, w1, w2, hr, r1, r2, (e _ _ _ _).mp z⟩⟩
/-- == and != as they are said -/
def eqT : O2 := fun x y A Q => match x, y with
  | .t a, .t b => match eqS a b with
    | some r => Q (.t (.bl r)) A
    | none => False
  | _, _ => False
def neT : O2 := fun x y A Q => match x, y with
  | .t a, .t b => match eqS a b with
    | some r => Q (.t (.bl (!r))) A
    | none => False
  | _, _ => False
theorem eqT_iff (x y : W) (A : AH) (Q : WK) : eqT x y A Q ↔ eqSW false x y A Q := by
  unfold eqT eqSW
  cases x with
  | loc n => exact Iff.rfl
  | t a =>
    cases y with
    | loc n => exact Iff.rfl
    | t b =>
      dsimp only
      cases eqS a b with
      | none => exact Iff.rfl
      | some r => simp only [Bool.bne_false]
theorem neT_iff (x y : W) (A : AH) (Q : WK) : neT x y A Q ↔ eqSW true x y A Q := by
  unfold neT eqSW
  cases x with
  | loc n => exact Iff.rfl
  | t a =>
    cases y with
    | loc n => exact Iff.rfl
    | t b =>
      dsimp only
      cases eqS a b with
      | none => exact Iff.rfl
      | some r => simp only [Bool.bne_true]
theorem so_eqT : SO2 G k (compareOp .Eq) eqT := so_eqS.of eqT_iff
theorem so_neT : SO2 G k (compareOp .NotEq) neT := so_neS.of neT_iff
def eqNT (nc : Nat) : O2 := fun x y A Q => match x, y with
  | .t (.rat q), .t d => cok nc d = true ∧ Q (.t (.bl (eqR q d))) A
  | x, y => eqT x y A Q
def neNT (nc : Nat) : O2 := fun x y A Q => match x, y with
  | .t (.rat q), .t d => cok nc d = true ∧ Q (.t (.bl (!eqR q d))) A
  | x, y => neT x y A Q
theorem eqNT_iff {nc : Nat} (x y : W) (A : AH) (Q : WK) : eqNT nc x y A Q ↔ eqN nc false x y A Q := by
  unfold eqNT eqN
  split
  · simp only [Bool.bne_false]
  · exact eqT_iff _ _ _ _
theorem neNT_iff {nc : Nat} (x y : W) (A : AH) (Q : WK) : neNT nc x y A Q ↔ eqN nc true x y A Q := by
  unfold neNT eqN
  split
  · simp only [Bool.bne_true]
  · exact neT_iff _ _ _ _
theorem mon_eqN {nc : Nat} {neg : Bool} : Mon2 (eqN nc neg) := fun x y A Q Q' k h => by
  unfold eqN at h ⊢
  split at h
  · exact ⟨h.1, k _ _ h.2⟩
  · exact mon_eqSW _ _ _ _ _ k h
theorem so_eqN {nc : Nat} {f : Addr} (h0 : 0 < nc) (O : OwnEq G 0 nc f) (cal : Cal G k (.ref f) 2 [] (posK (sEqR nc))) : SO2 G k (compareOp .Eq) (eqN nc false) := by
  refine ⟨mon_eqN, fun X hX => OpR.weak ((own_eq hX O cal).or ((so_eqS (k := 0)).run X (hX.mono (Nat.zero_le _)))) fun x y H Q z => ?_⟩
  obtain ⟨m, A, w1, w2, hr, r1, r2, z⟩ := z
  unfold eqN at z
  split at z
  · obtain ⟨t, ht, h1⟩ := cok_kd h0 z.1
    exact .inl ⟨m, A, _, _, t, hr, r1, r2, rfl, ht, h1, ⟨z.1, _, rfl, fun m' H' l h' => z.2 _ m' H' l h' repBl⟩⟩
  · exact .inr ⟨m, A, _, _, hr, r1, r2, z⟩
theorem so_neN {nc : Nat} {f : Addr} (h0 : 0 < nc) (O : OwnEq G 0 nc f) (cal : Cal G k (.ref f) 2 [] (posK (sEqR nc))) : SO2 G (k + 2) (compareOp .NotEq) (eqN nc true) := by
  refine ⟨mon_eqN, fun X hX => OpR.weak ((own_ne hX O cal).or ((so_neS (k := 0)).run X (hX.mono (Nat.zero_le _)))) fun x y H Q z => ?_⟩
  obtain ⟨m, A, w1, w2, hr, r1, r2, z⟩ := z
  unfold eqN at z
  split at z
  · obtain ⟨t, ht, h1⟩ := cok_kd h0 z.1
    exact .inl ⟨m, A, _, _, t, hr, r1, r2, rfl, ht, h1, ⟨z.1, _, rfl, fun m' H' l h' => z.2 _ m' H' l h' repBl⟩⟩
  · exact .inr ⟨m, A, _, _, hr, r1, r2, z⟩
end
end Hw
namespace Hw
open PySem L2

section
variable {G : Gc} {k j nc : Nat}
/-! ### kinds of values, as tests -/
def isInt : D → Bool
  | .int _ => true
  | _ => false
def isBl : D → Bool
  | .bl _ => true
  | _ => false
def isStr : D → Bool
  | .str _ => true
  | _ => false
def isLst : D → Bool
  | .lst _ => true
  | _ => false
def isTup : D → Bool
  | .tup _ => true
  | _ => false
def isC (c : Nat) : D → Bool
  | .rat _ => 0 == c
  | .ins c' _ => c' == c
  | _ => false
variable {A : AH} {Q : WK} {d : D}
theorem isi_ty {n : String} {g : D → Bool} (h0 : 0 < nc) (hn : kdC (.ty n) = some (.b n)) (hg : ∀ d, g d = match kdD d with | some t => isK t (.b n) | none => false) (h : cok nc d = true ∧ Q (.t (.bl (g d))) A) : isiW nc [.t d, .t (.ty n)] A Q := by
  rw [hg d] at h
  cases d <;> simp_all [isiW, kdW, kdD, cok]
theorem isi_int (h0 : 0 < nc) (h : cok nc d = true ∧ Q (.t (.bl (isInt d || isBl d))) A) : isiW nc [.t d, .t (.ty "int")] A Q := isi_ty (g := fun d => isInt d || isBl d) h0 (by simp [kdC]) (fun d => by cases d <;> simp [isInt, isBl, kdD, isK]) h
theorem isi_bool (h0 : 0 < nc) (h : cok nc d = true ∧ Q (.t (.bl (isBl d))) A) : isiW nc [.t d, .t (.ty "bool")] A Q := isi_ty (g := isBl) h0 (by simp [kdC]) (fun d => by cases d <;> simp [isBl, kdD, isK]) h
theorem isi_tuple (h0 : 0 < nc) (h : cok nc d = true ∧ Q (.t (.bl (isTup d))) A) : isiW nc [.t d, .t (.ty "tuple")] A Q := isi_ty (g := isTup) h0 (by simp [kdC]) (fun d => by cases d <;> simp [isTup, kdD, isK]) h
theorem isi_list (h0 : 0 < nc) (h : cok nc d = true ∧ Q (.t (.bl (isLst d))) A) : isiW nc [.t d, .t (.ty "list")] A Q := isi_ty (g := isLst) h0 (by simp [kdC]) (fun d => by cases d <;> simp [isLst, kdD, isK]) h
theorem isi_str (h0 : 0 < nc) (h : cok nc d = true ∧ Q (.t (.bl (isStr d))) A) : isiW nc [.t d, .t (.ty "str")] A Q := isi_ty (g := isStr) h0 (by simp [kdC]) (fun d => by cases d <;> simp [isStr, kdD, isK]) h
theorem isi_cls {c : Nat} (hc : c < nc) (h : cok nc d = true ∧ Q (.t (.bl (isC c d))) A) : isiW nc [.t d, .t (.cls c)] A Q := by
  have h0 : 0 < nc := Nat.lt_of_le_of_lt (Nat.zero_le _) hc
  obtain ⟨h1, h2⟩ := h
  unfold isiW kdW kdC
  cases d
  case cls => exact Bool.noConfusion h1
  case ty => exact Bool.noConfusion h1
  case rat q => exact ⟨fun j e => by cases e; exact h0, fun j e => by cases e; exact hc, h2⟩
  case ins c' l => exact ⟨fun j e => by cases e; simp [cok] at h1; exact h1.1, fun j e => by cases e; exact hc, h2⟩
  all_goals exact ⟨fun j e => (by cases e), (fun j e => by cases e; exact hc), h2⟩
theorem isi_lt (h0 : 0 < nc) (h : cok nc d = true ∧ Q (.t (.bl (isLst d || isTup d))) A) : isiW nc [.t d, .t (.tup [.ty "list", .ty "tuple"])] A Q := by
  unfold isiW kdW
  cases d <;> simp_all [kdD, cok, isK, isLst, isTup, kdCs, kdC]

/-! ### promises of the program's first defs -/
def sIsInt (nc : Nat) : OL := pureS fun ws => match ws with
  | [.t d] => some (cok nc d = true, .t (.bl (isInt d)))
  | _ => none
def sIsList (nc : Nat) : OL := pureS fun ws => match ws with
  | [.t d] => some (cok nc d = true, .t (.bl (isLst d || isTup d)))
  | _ => none
def isNum (d : D) : Bool := isC 0 d || isInt d
def sIsNum (nc : Nat) : OL := pureS fun ws => match ws with
  | [.t d] => some (cok nc d = true, .t (.bl (isNum d)))
  | _ => none
/-- a number's Ratio -/
def sTold : OL := pureS fun ws => match ws with
  | [.t (.rat q)] => some (True, .t (.rat q))
  | [.t (.int i)] => some (Sm i, .t (.rat (i : Rat)))
  | _ => none
/-- the new Ratio's fields -/
def sInit : OL := fun ws A Q => match ws with
  | [.loc n, .t (.int a), .t (.int b)] => b ≠ 0 ∧ Sm a ∧ Sm b ∧ A[n]? = some (.live (.ins 0 [])) ∧
    Q (.t .non) (A.set n (.live (.ins 0 [("_top", .int (mkR a b).num), ("_bottom", .int (mkR a b).den)])))
  | _ => False
theorem mon_init : MonL sInit := fun ws A Q Q' k h => by
  unfold sInit at h ⊢
  split at h
  · exact ⟨h.1, h.2.1, h.2.2.1, h.2.2.2.1, k _ _ h.2.2.2.2⟩
  · exact h.elim
def convR (fs : List (Str × D)) : Option D := match fs with
  | [(x, .int n), (y, .int d)] => if x = "_top" ∧ y = "_bottom" ∧ (mkR n d).num = n ∧ (mkR n d).den = d then some (.rat (mkR n d)) else none
  | _ => none
theorem conv_rat : Conv G 0 convR := by
  refine ⟨fun m A H a dx fs vs d h ha r hm => ?_⟩
  unfold convR at h
  split at h
  · rename_i x n y dd
    split at h
    · rename_i hc
      obtain ⟨rfl, rfl, h1, h2⟩ := hc
      cases h
      simp only [RepFs] at r
      obtain ⟨v1, r1, rfl, q1, v2, r2, rfl, q2, rfl⟩ := r
      simp only [Rep] at q1 q2
      subst q1 q2
      simp only [Rep]
      refine ⟨a, dx, rfl, ?_, Fr.of_notin hm⟩
      rw [ha]
      unfold ratF
      rw [h1, h2]
    · cases h
  · cases h
/-- Ratio(a, b) -/
def sMk2 : OK2 := posK (pureS fun ws => match ws with
  | [.t (.int a), .t (.int b)] => some (b ≠ 0 ∧ Sm a ∧ Sm b, .t (.rat (mkR a b)))
  | _ => none)
/-- Ratio(a) -/
def sMk1 : OK2 := posK (pureS fun ws => match ws with
  | [.t (.int a)] => some (Sm a, .t (.rat (a : Rat)))
  | _ => none)
/-- Ratio(bottom=b, top=a) -/
def sMkBT : OK2 := fun _ ys => pureS (fun ws => match ws with
  | [.t (.int b), .t (.int a)] => some (b ≠ 0 ∧ Sm a ∧ Sm b, .t (.rat (mkR a b)))
  | _ => none) ys
theorem mon_posK {F : List W → Option (Prop × W)} : MonK (posK (pureS F)) := fun xs ys A Q Q' h z => mon_pure _ _ _ _ h z
theorem mkR_self (q : Rat) : mkR q.num q.den = q := self_mk q
theorem mkEnd_rat {A : AH} {Q : WK} {a b : Int} (hb : b ≠ 0) : mkEnd 0 A.length convR Q (.t .non) ((A ++ [Cell.live (.ins 0 [])]).set A.length (Cell.live (.ins 0 [("_top", .int (mkR a b).num), ("_bottom", .int (mkR a b).den)]))) ↔ Q (.t (.rat (mkR a b))) A := by
  unfold mkEnd convR
  simp [mkR_self]
theorem mkR_one (a : Int) : mkR a 1 = (a : Rat) := by rw [mkR_eq]; grind
theorem Sm_one : Sm 1 := by
  have : Si 1 1 := by unfold Si; decide
  exact this.sm (by decide)
theorem cal_mk2 {f : Addr} {fd : FuncData} (M : Mk G.K (G.T.at_ 0) f) (F : Fn G k f fd ["self", "top", "bottom"] sInit) (B : Bd G fd ["self", "top", "bottom"] 3 [] [.t (.int 1)] [.p 0, .p 1, .p 2]) : Cal G (k + 1) (.ref (G.T.at_ 0)) 2 [] sMk2 := by
  refine (cal_make M F B conv_rat (fun xs ys h1 h2 => ?_)).weak mon_posK fun xs ys A Q h => ?_
  · match xs, h1 with
    | [a, b, c], _ => rfl
  · unfold sMk2 posK pureS at h
    match xs with
    | [.t (.int a), .t (.int b)] =>
      obtain ⟨⟨h1, h2, h3⟩, h4⟩ := h
      exact ⟨h1, h2, h3, by simp, (mkEnd_rat h1).mpr h4⟩
theorem cal_mk1 {f : Addr} {fd : FuncData} (M : Mk G.K (G.T.at_ 0) f) (F : Fn G k f fd ["self", "top", "bottom"] sInit) (B : Bd G fd ["self", "top", "bottom"] 2 [] [.t (.int 1)] [.p 0, .p 1, .d 0]) : Cal G (k + 1) (.ref (G.T.at_ 0)) 1 [] sMk1 := by
  refine (cal_make M F B conv_rat (fun xs ys h1 h2 => ?_)).weak mon_posK fun xs ys A Q h => ?_
  · match xs, h1 with
    | [a, b], _ => rfl
  · unfold sMk1 posK pureS at h
    match xs with
    | [.t (.int a)] =>
      obtain ⟨h1, h4⟩ := h
      rw [← mkR_one] at h4
      exact ⟨by decide, h1, Sm_one, by simp, (mkEnd_rat (by decide)).mpr h4⟩
theorem cal_mkBT {f : Addr} {fd : FuncData} (M : Mk G.K (G.T.at_ 0) f) (F : Fn G k f fd ["self", "top", "bottom"] sInit) (B : Bd G fd ["self", "top", "bottom"] 1 ["bottom", "top"] [.t (.int 1)] [.p 0, .k 1, .k 0]) : Cal G (k + 1) (.ref (G.T.at_ 0)) 0 ["bottom", "top"] sMkBT := by
  refine (cal_make M F B conv_rat (fun xs ys h1 h2 => ?_)).weak (fun xs ys A Q Q' h z => mon_pure _ _ _ _ h z) fun xs ys A Q h => ?_
  · match xs, h1, ys, h2 with
    | [a], _, [b, c], _ => rfl
  · unfold sMkBT pureS at h
    match ys with
    | [.t (.int b), .t (.int a)] =>
      obtain ⟨⟨h1, h2, h3⟩, h4⟩ := h
      exact ⟨h1, h2, h3, by simp, (mkEnd_rat h1).mpr h4⟩
end
end Hw
namespace Hw
open PySem L2

/-! ### steps of a reading that has been found -/
theorem if_t {c : Bool} {X Y : Prop} (h : c = true) (x : X) : Cif c X Y := by subst h; exact Cif.yes x
theorem if_f {c : Bool} {X Y : Prop} (h : c = false) (y : Y) : Cif c X Y := by subst h; exact Cif.no y
theorem if_2 {c : Bool} {X Y : Prop} (x : c = true → X) (y : c = false → Y) : Cif c X Y := ⟨x, y⟩
theorem rt_end {A B : AH} {Q : WK} {d : D} (hB : B.length = A.length) (h : Q (.t d) B) : (retD A.length Q).rt (.t d) B := by
  rw [retD_eq]
  show Q (.t d) (B.take A.length)
  rw [← hB, List.take_length]
  exact h
theorem nx_end {A B : AH} {Q : WK} {env : Env} (hB : B.length = A.length) (h : Q (.t .non) B) : (retD A.length Q).nx env B := by
  rw [retD_eq]
  show Q (.t .non) (B.take A.length)
  rw [← hB, List.take_length]
  exact h
theorem put_go {c n : Nat} {x : Str} {d : D} {fs : List (Str × D)} {B : AH} {Kn : AH → Prop} (h : B[n]? = some (.live (.ins c fs))) (hl : fs.length < 100) (z : Kn (B.set n (.live (.ins c (putD x d fs))))) : putW c x (.t d) (.loc n) B Kn := by
  unfold putW
  show (match B[n]? with
    | some (.live (.ins c' fs)) => c' = c ∧ fs.length < 100 ∧ Kn (B.set n (.live (.ins c' (putD x d fs))))
    | _ => False)
  rw [h]
  exact ⟨rfl, hl, z⟩
theorem putD_0 {x : Str} {d : D} : putD x d [] = [(x, d)] := rfl
theorem putD_tb {d e : D} : putD "_bottom" d [(("_top" : Str), e)] = [(("_top" : Str), e), (("_bottom" : Str), d)] := by
  unfold putD
  rw [if_neg (by decide +kernel)]; rfl
theorem fld_top {T : Tb} {q : Rat} {B : AH} : fldW T "_top" (.t (.rat q)) B = some (.int q.num) := by
  unfold fldW
  exact if_pos rfl
theorem fld_bottom {T : Tb} {q : Rat} {B : AH} : fldW T "_bottom" (.t (.rat q)) B = some (.int q.den) := by
  show (if (("_bottom" : Str) = "_top") then some (D.int q.num) else if (("_bottom" : Str) = "_bottom") then some (.int q.den) else none) = _
  rw [if_neg (by decide +kernel), if_pos rfl]
theorem get_set {A : AH} {n : Nat} {c c' : Cell} (h : A[n]? = some c) : (A.set n c')[n]? = some c' := by
  rw [List.getElem?_set_self (List.getElem?_eq_some_iff.mp h).1]
/-- a field is read -/
@[irreducible] def fldG (T : Tb) (x : Str) (w : W) (A : AH) (Q : WK) : Prop := match fldW T x w A with
  | some d => Q (.t d) A
  | none => False
def vFldG (T : Tb) (x : Str) (f : Den) : Den := fun env A Q => f env A fun w B => fldG T x w B Q
theorem se_fldG {C : Ctx} {o : Expr} {f : Den} {x : Str} {pos : Pos} (ho : SE C o f) (fo : FldOk C.g x) (hb : ∀ env : PySem.Env, attributeBase o x env (eval o env) = eval o env) : SE C (.Attribute o x pos) (vFldG C.g.T x f) := by
  have e : vFldG C.g.T x f = vFld C.g.T x f := by unfold vFldG vFld fldG; rfl
  rw [e]
  exact se_fld ho fo hb
theorem fldG_top {T : Tb} {q : Rat} {A : AH} {Q : WK} (h : Q (.t (.int q.num)) A) : fldG T "_top" (.t (.rat q)) A Q := by
  unfold fldG; rw [fld_top]; exact h
theorem fldG_bottom {T : Tb} {q : Rat} {A : AH} {Q : WK} (h : Q (.t (.int q.den)) A) : fldG T "_bottom" (.t (.rat q)) A Q := by
  unfold fldG; rw [fld_bottom]; exact h
theorem fn_sets {A : AH} {n : Nat} {c : Nat} {a b : D} {Q : WK} {c0 : Cell} (h : Q (.t .non) (A.set n (.live (.ins c [("_top", a), ("_bottom", b)])))) : Q (.t .non) ((A.set n c0).set n (.live (.ins c (putD "_bottom" b [(("_top" : Str), a)])))) := by
  rw [List.set_set, putD_tb]; exact h
theorem putD_lt {x : Str} {d : D} {k : Nat} : ∀ {fs : List (Str × D)}, fs.length < k → (putD x d fs).length < k + 1
  | [], h => by unfold putD; simp; omega
  | (y, w) :: r, h => by
    unfold putD
    split
    · simp at h ⊢; omega
    · have h' : r.length < k - 1 := by simp at h; omega
      have := putD_lt (x := x) (d := d) h'
      simp at h ⊢; omega
def pSz (q r : Rat) : Prop := Sz 3990 q ∧ Sz 3990 r
def pSz1 (q : Rat) : Prop := Sz 3990 q
theorem bR_cases {P : Rat → Rat → Prop} {F : Rat → Rat → D} {ws : List W} {A : AH} {Q : WK} (h : bR P F ws A Q) : (∃ q r, ws = [.t (.rat q), .t (.rat r)] ∧ P q r ∧ Q (.t (F q r)) A) ∨ (∃ q i, ws = [.t (.rat q), .t (.int i)] ∧ P q (i : Rat) ∧ Q (.t (F q (i : Rat))) A) := by
  unfold bR pureS at h
  split at h
  · rename_i p w e
    dsimp only at e
    split at e
    · rename_i q y
      split at e
      · rename_i r hr
        cases e
        cases y <;> simp [numD] at hr
        · subst hr; exact .inr ⟨_, _, rfl, h⟩
        · subst hr; exact .inl ⟨_, _, rfl, h⟩
      · cases e
    · cases e
  · exact h.elim
theorem bRr_cases {P : Rat → Rat → Prop} {F : Rat → Rat → D} {ws : List W} {A : AH} {Q : WK} (h : bRr P F ws A Q) : ∃ q i, ws = [.t (.rat q), .t (.int i)] ∧ P (i : Rat) q ∧ Q (.t (F (i : Rat) q)) A := by
  unfold bRr pureS at h
  split at h
  · rename_i p w e
    dsimp only at e
    split at e
    · cases e; exact ⟨_, _, rfl, h⟩
    · cases e
  · exact h.elim
theorem uR_cases {P : Rat → Prop} {F : Rat → D} {ws : List W} {A : AH} {Q : WK} (h : uR P F ws A Q) : ∃ q, ws = [.t (.rat q)] ∧ P q ∧ Q (.t (F q)) A := by
  unfold uR pureS at h
  split at h
  · rename_i p w e
    dsimp only at e
    split at e
    · cases e; exact ⟨_, rfl, h⟩
    · cases e
  · exact h.elim
theorem pSz.all {q r : Rat} (h : pSz q r) : Sm q.num ∧ Sm q.den ∧ Sm r.num ∧ Sm r.den ∧ Sm (q.num * r.den + r.num * q.den) ∧ Sm (q.den * r.den) ∧ Sm (q.num * r.num) ∧ Sm (q.num * r.den) ∧ Sm (q.den * r.num) ∧ (q.den * r.den : Int) ≠ 0 := by
  obtain ⟨h1, h2⟩ := h
  exact ⟨h1.num.sm (by decide), h1.den.sm (by decide), h2.num.sm (by decide), h2.den.sm (by decide), (Si.add (h1.num.mul h2.den) (h2.num.mul h1.den)).sm (by decide), (h1.den.mul h2.den).sm (by decide), (h1.num.mul h2.num).sm (by decide),
    (h1.num.mul h2.den).sm (by decide), (h1.den.mul h2.num).sm (by decide), Int.mul_ne_zero (den_ne q) (den_ne r)⟩
theorem pSz1.all {q : Rat} (h : pSz1 q) : Sm q.num ∧ Sm q.den ∧ Sm (-q.num) ∧ (q.den : Int) ≠ 0 := ⟨h.num.sm (by decide), h.den.sm (by decide), h.num.neg.sm (by decide), den_ne q⟩
theorem sm_of_sz {i : Int} (h : Sz 3990 (i : Rat)) : Sm i := h.num.sm (by decide)
theorem sm_lit {i : Int} (h : decide (i.natAbs < 2 ^ 200) = true) : Sm i := by
  have h2 : i.natAbs < 2 ^ 200 := of_decide_eq_true h
  exact Si.sm (n := 200) h2 (by decide)
theorem Sm.neg {i : Int} (h : Sm i) : Sm (-i) := by apply Sm.of; rw [Int.natAbs_neg]; exact h.lt
theorem gcd_sm {a b : Int} (hb : b ≠ 0) (h : Sm b) : Sm ((Nat.gcd a.natAbs b.natAbs : Nat) : Int) := Sm.of (gcd_lt (n := 8000) a b hb h.lt)
end Hw
namespace Hw
open PySem L2

section
variable {C : Ctx} {G : Gc} {k : Nat} {e a b c tg iter elt : Expr} {f g : Den} {ft : DenT} {pos : Pos}
/-! ### f-strings -/
abbrev DenJ := Str → Env → AH → (Str → AH → Prop) → Prop
structure SJ (C : Ctx) (es : List Expr) (f : DenJ) : Prop where
  mono : ∀ acc env A Q Q', (∀ x B, Q x B → Q' x B) → f acc env A Q → f acc env A Q'
  run : ∀ X, C.Has X → ∃ ts, PJ X es ts ∧ ∀ acc σ H (Q : Str → Hp → Prop), (∃ env m A, EnvR C.g.K C.g.T m A H env σ ∧ HR C.g.K C.g.T m A H ∧ f acc env A fun out A' => ∀ m' H', Lt m A H m' A' H' → HR C.g.K C.g.T m' A' H' → Q out H') → tJs ts acc σ H Q
def vJnil : DenJ := fun acc _ A Q => Q acc A
def vJcons (f : Den) (g : DenJ) : DenJ := fun acc env A Q => f env A fun w B => match w with
  | .t (.str y) => acc.length + y.length ≤ 100000 ∧ g (acc ++ y) env B Q
  | _ => False
theorem sj_nil : SJ C [] vJnil := ⟨fun _ _ _ _ _ k h => k _ _ h, fun X hX => ⟨[], .nil, fun acc σ H Q z => by
  obtain ⟨env, m, A, er, hr, h⟩ := z
  exact h m H Lt.refl hr⟩⟩
theorem sj_cons {es : List Expr} {g : DenJ} (ha : SE C a f) (hb : SJ C es g) : SJ C (a :: es) (vJcons f g) := by
  refine ⟨fun acc env A Q Q' k h => ha.mono _ _ _ _ (fun w B z => ?_) h, fun X hX => ?_⟩
  · split at z
    · exact ⟨z.1, hb.mono _ _ _ _ _ k z.2⟩
    · exact z.elim
  · obtain ⟨ts, pj, hg⟩ := hb.run X hX
    refine ⟨_, .cons (ha.run X hX) pj, fun acc σ H Q z => ?_⟩
    obtain ⟨env, m, A, er, hr, h⟩ := z
    refine ⟨env, m, A, er, hr, ha.mono _ _ _ _ (fun w B z v m1 H1 l1 hr1 r1 => ?_) h⟩
    split at z
    · rename_i y
      simp only [RepW, Rep] at r1
      subst r1
      refine ⟨y, rfl, ?_, hg _ _ _ _ ⟨env, m1, B, er.lt l1 hr.len, hr1, hb.mono _ _ _ _ _ (fun out B2 z2 m2 H2 l2 hr2 => z2 m2 H2 (l1.trans hr.len l2) hr2) z.2⟩⟩
      rw [str_app, sizeLine_eq]
      have := z.1
      omega
    · exact z.elim
def vJoin (g : DenJ) : Den := fun env A Q => g Str.empty env A fun out B => Q (.t (.str out)) B
theorem se_join {v1 v2 : Expr} {rest : List Expr} {g : DenJ} (h : SJ C (v1 :: v2 :: rest) g) : SE C (.JoinedStr (v1 :: v2 :: rest) pos) (vJoin g) := by
  refine ⟨fun env A Q Q' k z => h.mono _ _ _ _ _ (fun x B z => k _ _ z) z, fun X hX => ?_⟩
  obtain ⟨ts, pj, hg⟩ := h.run X hX
  refine PE.weak (pe_joined pj) fun σ H Q z => ?_
  obtain ⟨env, m, A, er, hr, z⟩ := z
  refine hg _ _ _ _ ⟨env, m, A, er, hr, h.mono _ _ _ _ _ (fun out B z m' H' l h' => ?_) z⟩
  exact z (.str out) m' H' l h' repStr
theorem se_join1 (h : SE C e f) : SE C (.JoinedStr [e] pos) f := ⟨h.mono, fun X hX => pe_joined1 (h.run X hX)⟩
/-- {x} of a text or an int -/
def vFmt (f : Den) : Den := fun env A Q => f env A fun w B => match w with
  | .t (.str y) => y.length ≤ 100000 ∧ Q (.t (.str y)) B
  | .t (.int i) => i.natAbs < 2 ^ 1900 ∧ Q (.t (.str (toString i))) B
  | _ => False
theorem se_fmt (h : SE C e f) : SE C (.FormattedValue e (-1) none pos) (vFmt f) := by
  refine ⟨fun env A Q Q' k z => h.mono _ _ _ _ (fun w B z => ?_) z, fun X hX => PE.weak (pe_fmt (h.run X hX)) fun σ H Q z => ?_⟩
  · split at z
    · exact ⟨z.1, k _ _ z.2⟩
    · exact ⟨z.1, k _ _ z.2⟩
    · exact z.elim
  · obtain ⟨env, m, A, er, hr, z⟩ := z
    refine ⟨env, m, A, er, hr, h.mono _ _ _ _ (fun w B z v m1 H1 l1 hr1 r1 => ?_) z⟩
    split at z
    · rename_i y
      simp only [RepW, Rep] at r1
      refine .inl ⟨y, r1, by rw [sizeLine_eq]; have := z.1; omega, z.2 _ m1 H1 l1 hr1 repStr⟩
    · rename_i i
      simp only [RepW, Rep] at r1
      exact .inr ⟨i, r1, log1920 z.1, z.2 _ m1 H1 l1 hr1 repStr⟩
    · exact z.elim

/-! ### is of bools, str of an int -/
def isW (neg : Bool) : O2 := fun x y A Q => match x, y with
  | .t (.bl a), .t (.bl b) => Q (.t (.bl (decide (a = b) != neg))) A
  | _, _ => False
theorem mon_isW {neg : Bool} : Mon2 (isW neg) := fun x y A Q Q' k h => by
  unfold isW at h ⊢
  split at h
  · exact k _ _ h
  · exact h.elim
theorem so_is : SO2 G k (compareOp .Is) (isW false) := ⟨mon_isW, fun X hX => OpR.weak op_isBl fun x y H Q z => by
  obtain ⟨m, A, w1, w2, hr, r1, r2, z⟩ := z
  unfold isW at z
  split at z
  · rename_i a b
    simp only [RepW, Rep] at r1 r2
    subst r1 r2
    have := z _ m H Lt.refl hr repBl
    rw [Bool.bne_false] at this
    exact ⟨a, b, rfl, rfl, this⟩
  · exact z.elim⟩
theorem so_isnt : SO2 G k (compareOp .IsNot) (isW true) := ⟨mon_isW, fun X hX => OpR.weak op_notBl fun x y H Q z => by
  obtain ⟨m, A, w1, w2, hr, r1, r2, z⟩ := z
  unfold isW at z
  split at z
  · rename_i a b
    simp only [RepW, Rep] at r1 r2
    subst r1 r2
    have := z _ m H Lt.refl hr repBl
    rw [Bool.bne_true] at this
    exact ⟨a, b, rfl, rfl, this⟩
  · exact z.elim⟩
theorem mon_strI : MonL strI := fun ws A Q Q' k h => by
  unfold strI at h ⊢
  split at h
  · exact ⟨h.1, k _ _ h.2⟩
  · exact h.elim
theorem sl_strI : SOL G k (.type "str") strI := ⟨mon_strI, fun X hX => CallR.weak call_str_int fun xs H Q z => by
  obtain ⟨m, A, ws, hr, r, z⟩ := z
  unfold strI at z
  split at z
  · rename_i i
    obtain ⟨v, rfl, r1⟩ := rep1 r
    simp only [RepW, Rep] at r1
    subst r1
    exact ⟨i, rfl, log1920 z.1, z.2 _ m H Lt.refl hr repStr⟩
  · exact z.elim⟩

def isT : O2 := fun x y A Q => match x, y with
  | .t (.bl a), .t (.bl b) => Q (.t (.bl (decide (a = b)))) A
  | _, _ => False
theorem so_isT : SO2 G k (compareOp .Is) isT := so_is.of fun x y A Q => by
  unfold isT isW
  split <;> simp only [Bool.bne_false]
/-! ### {} -/
theorem se_dic : SE C (.Dict [] [] pos) (vC .dic) := ⟨monC, fun X hX => PE.weak pe_dnewK fun σ H Q z => by
  obtain ⟨env, m, A, er, hr, h⟩ := z
  intro p hp
  exact h (.ref p) m _ (Lt.new hp) (hr.new hp) (by simp only [RepW, Rep]; exact ⟨p, rfl, upd_same, Fr.of_notin (hr.notin hp)⟩)⟩
end
end Hw
namespace Hw
open PySem L2 PyProof.Rows

section
variable {C : Ctx} {G : Gc} {k : Nat} {e a b c tg iter elt : Expr} {f g : Den} {ft : DenT} {pos : Pos}
/-! ### list + list -/
def rCatL (K : PySem.W.Frag) : R2 := fun x y H Q => ∃ l b xs zs, x = .ref l ∧ y = .ref b ∧ SqL K H l xs ∧ SqL K H b zs ∧ xs.length + zs.length ≤ sizeLine ∧ ∀ p, H p = none → Q (.ref p) (upd H p (.lst (xs ++ zs)))
theorem op_catL {X : Cx} : OpR X (binaryOp .Add) (rCatL X.K) := by
  rintro pins s σ H x y v u Q I rx ry ⟨l, b, xs, zs, rfl, rfl, hH, hB, hz, q⟩
  cases rx
  cases ry
  obtain ⟨its, r, ⟨⟨cls, dd, data, sl⟩, n, ho, hc, hdc, hd⟩, hl⟩ := I.list hH
  obtain ⟨its2, r2, ⟨⟨cls2, dd2, data2, sl2⟩, n2, ho2, hc2, hdc2, hd2⟩, hl2⟩ := I.list hB
  simp only at hc hd hc2 hd2
  subst hc hd hc2 hd2
  refine concat_meets ⟨_, ho, rfl⟩ ⟨_, ho2, rfl⟩ noFill_list_add seq_list_add PySem.F.slot_list_add PySem.F.entry_list_add (PySem.F.args_list_add_2 _ _) (list_addW l b its.toArray its2.toArray n n2 dd dd2 sl sl2 (by simpa [← r.length, ← r2.length] using hz)) ⟨ho, ho2, ?_⟩
  rw [show its.toArray ++ its2.toArray = (its ++ its2).toArray from by simp]
  exact ⟨.ref _, _, I.lnew (t' := s.toks) (r.append r2) (by simpa only [List.length_append] using hz), rfl, q _ I.fresh⟩
def addL : O2 := fun x y A Q => match x, y with
  | .t (.lst a), .t (.lst b) => a.length + b.length ≤ 400 ∧ Q (.t (.lst (a ++ b))) A
  | x, y => addW x y A Q
theorem reps_app {K : PySem.W.Frag} {T : Tb} {m : List Addr} {A : AH} {H : Hp} : ∀ {l l' : List D} {vs vs' : List V}, Reps K T m A H l vs → Reps K T m A H l' vs' → Reps K T m A H (l ++ l') (vs ++ vs')
  | [], l', vs, vs', h, h' => by
    simp only [Reps] at h
    subst h
    exact h'
  | d :: l, l', vs, vs', h, h' => by
    simp only [Reps] at h
    obtain ⟨v, q, rfl, r1, r2⟩ := h
    simp only [List.cons_append, Reps]
    exact ⟨v, q ++ vs', rfl, r1, reps_app r2 h'⟩
theorem so_addL : SO2 G k (binaryOp .Add) addL := by
  refine ⟨fun x y A Q Q' k h => ?_, fun X hX => OpR.weak (op_catL.or ((so_add (k := 0)).run X (hX.mono (Nat.zero_le _)))) fun x y H Q z => ?_⟩
  · unfold addL at h ⊢
    split at h
    · exact ⟨h.1, k _ _ h.2⟩
    · exact mon_addW _ _ _ _ _ k h
  · obtain ⟨m, A, w1, w2, hr, r1, r2, z⟩ := z
    unfold addL at z
    split at z
    · simp only [RepW, Rep] at r1 r2
      obtain ⟨p, vs, rfl, h1, q1⟩ := r1
      obtain ⟨p2, vs2, rfl, h2, q2⟩ := r2
      refine .inl ⟨p, p2, vs, vs2, rfl, rfl, by rw [hX.K]; exact lst_sq h1, by rw [hX.K]; exact lst_sq h2, by rw [← q1.length, ← q2.length]; exact len400 z.1, fun a ha => ?_⟩
      refine z.2 (.ref a) m _ (Lt.new ha) (hr.new ha) ?_
      simp only [RepW, Rep]
      exact ⟨a, _, rfl, .inl ⟨.inl upd_same, Fr.of_notin (hr.notin ha)⟩, Reps.lt (Lt.new ha) hr.len _ _ (reps_app q1 q2)⟩
    · exact .inr ⟨m, A, _, _, hr, r1, r2, z⟩

/-! ### zip of two lists -/
def zipD : List D → List D → List W
  | x :: l, y :: r => .t (.tup [x, y]) :: zipD l r
  | _, _ => []
theorem zip_len : ∀ (l r : List D), (zipD l r).length = min l.length r.length
  | [], _ => by simp [zipD]
  | _ :: _, [] => by simp [zipD]
  | x :: l, y :: r => by
    have := zip_len l r
    simp only [zipD, List.length_cons, this]
    omega
theorem zip_get : ∀ {l r : List D} {i : Nat} {w : W}, (zipD l r)[i]? = some w → ∃ x y, l[i]? = some x ∧ r[i]? = some y ∧ w = .t (.tup [x, y])
  | [], _, i, w, h => by simp [zipD] at h
  | _ :: _, [], i, w, h => by simp [zipD] at h
  | x :: l, y :: r, 0, w, h => by
    simp [zipD] at h
    exact ⟨x, y, rfl, rfl, h.symm⟩
  | x :: l, y :: r, i + 1, w, h => by
    simp only [zipD, List.getElem?_cons_succ] at h
    obtain ⟨a, b, h1, h2, h3⟩ := zip_get h
    exact ⟨a, b, by simpa using h1, by simpa using h2, h3⟩
theorem wk_zip {K : PySem.W.Frag} {T : Tb} {m : List Addr} {A : AH} {H : Hp} {p q : Addr} {vs us : List V} {l r : List D} (hl : m.length = A.length) (h1 : (Rd H p (.lst vs) ∧ Fr m A p) ∨ (∀ H', SqL K H' p vs)) (h2 : (Rd H q (.lst us) ∧ Fr m A q) ∨ (∀ H', SqL K H' q us))
    (r1 : Reps K T m A H l vs) (r2 : Reps K T m A H r us) : Wk K T (Itz K p q) m A H (zipD l r) := by
  have z1 := r1.length
  have z2 := r2.length
  have zl := zip_len l r
  have wz := walk_zip (K := K) (a := p) (b := q) (xs := vs) (ys := us) (n := min vs.length us.length) rfl
  refine ⟨fun i m' A' H' lt _ hi => ?_, fun m' A' H' lt _ => ?_, fun i m' A' H' x H'' w lt hr e y => ?_⟩
  · exact wz.goes i H' (by omega) ⟨sq_lt lt h1, sq_lt lt h2⟩
  · rw [show (zipD l r).length = min vs.length us.length by omega]
    exact wz.stops H' ⟨sq_lt lt h1, sq_lt lt h2⟩
  · have hi : i < (zipD l r).length := (List.getElem?_eq_some_iff.mp e).1
    obtain ⟨dx, dy, e1, e2, rfl⟩ := zip_get e
    obtain ⟨T0, vx, vy, rfl, hT, rfl, f1, f2⟩ := wz.yields i H' x H'' (by omega) ⟨sq_lt lt h1, sq_lt lt h2⟩ y
    obtain ⟨v1, g1, q1⟩ := reps_get r1 e1
    obtain ⟨v2, g2, q2⟩ := reps_get r2 e2
    have f1 : vs[i]? = some vx := f1
    have f2 : us[i]? = some vy := f2
    rw [g1] at f1
    rw [g2] at f2
    cases f1
    cases f2
    have l2 : Lt m' A' H' m' A' (upd H' T0 (.tup [vx, vy])) := Lt.new hT
    refine ⟨l2, hr.new hT, ?_⟩
    simp only [RepW, Rep, Reps]
    exact ⟨T0, _, rfl, .inl ⟨.inl upd_same, Fr.of_notin (hr.notin hT)⟩, vx, _, rfl, Rep.lt l2 hr.len _ _ (Rep.lt lt hl _ _ q1), vy, _, rfl, Rep.lt l2 hr.len _ _ (Rep.lt lt hl _ _ q2), rfl⟩
def vZip (g : DenA) : DenI := fun env A Q => g env A fun ws B => match ws with
  | [.t (.lst l), .t (.lst r)] => Q (zipD l r) B
  | _ => False
theorem si_zip {p tpos : Pos} {elts : List Expr} {kk : Nat} {g : DenA} (hg : glOk C.sc "zip" = true) (hm : C.g.mg "zip" = none) (ha : SA C [a, b] g) (hs : ∀ env : PySem.Env, starEach [a, b] env = (false, eval a env) :: starEach [b] env) (h2 : ∀ env : PySem.Env, (backTo pos (starEach [b] env)).any (·.1) = false) :
    SI C (.Tuple elts kk tpos) (.Call (.Name "zip" p) [a, b] [] pos) (vZip g) := by
  refine ⟨fun env A Q Q' k h => ha.mono _ _ _ _ (fun w B z => ?_) h, fun X hX => PI.weak (pi_zip (by show X.env.scope.names.lookup _ = _; rw [hX.sc]; exact (gl_ok hg).1) (by rw [hX.g.mg]; exact hm) (ha.run X hX) (hs X.env) (h2 X.env)) fun σ H R z => ?_⟩
  · split at z
    · exact k _ _ z
    · exact z.elim
  · obtain ⟨env, m, A, er, hr, h⟩ := z
    refine ⟨env, m, A, er, hr, ha.mono _ _ _ _ (fun w B z v m' H' l h' r => ?_) h⟩
    split at z
    · obtain ⟨v1, v2, rfl, q1, q2⟩ := rep2 r
      simp only [RepW, Rep] at q1 q2
      obtain ⟨p1, xs, rfl, s1, t1⟩ := q1
      obtain ⟨p2, ys, rfl, s2, t2⟩ := q2
      refine ⟨p1, p2, xs, ys, rfl, by rw [hX.g.K]; exact lst_sq s1, by rw [hX.g.K]; exact lst_sq s2, ?_⟩
      rw [hX.g.K]
      exact z _ m' H' l h' (wk_zip h'.len s1 s2 t1 t2)
    · exact z.elim

/-! ### a, b, c = x, y, z; tuples of tuples -/
def vPar3 (i j l : Nat) (g : DenA) : DenS := fun D env A => g env A fun ws B => match ws with
  | [u, v, w] => D.nx (((env.set i (some u)).set j (some v)).set l (some w)) B
  | _ => False
theorem ss_pr3 {x y z : Str} {px py pz pt pt2 : Pos} {kt k2 : Nat} {g : DenA} (i j l : Nat) (hi : C.N[i]? = some x) (hj : C.N[j]? = some y) (hl : C.N[l]? = some z) (hij : i ≠ j) (hil : i ≠ l) (hjl : j ≠ l) (hx : loOk C.sc x = true) (hy : loOk C.sc y = true) (hz : loOk C.sc z = true) (ha : SA C [a, b, c] g)
    (hw : ∀ env : PySem.Env, env.scope = C.sc → swappedStores [.Tuple [.Name x px, .Name y py, .Name z pz] kt pt] (.Tuple [a, b, c] k2 pt2) env = pure (some [x, y, z])) (hs : ∀ env : PySem.Env, swapsWithSole [.Tuple [.Name x px, .Name y py, .Name z pz] kt pt] (.Tuple [a, b, c] k2 pt2) pos.line env = pure false) :
    SS C (.Assign [.Tuple [.Name x px, .Name y py, .Name z pz] kt pt] (.Tuple [a, b, c] k2 pt2) pos) (vPar3 i j l g) := by
  refine ⟨fun D D' env A k h => ha.mono _ _ _ _ (fun w B z => ?_) h, fun X hX => PS.weak (ps_par3 (i := i) (j := j) (l := l) hX.g.calm hX.nd (by rw [hX.N]; exact hi) (by rw [hX.N]; exact hj) (by rw [hX.N]; exact hl) hij hil hjl (by rw [hX.sc]; exact of_decide_eq_true hx) (by rw [hX.sc]; exact of_decide_eq_true hy) (by rw [hX.sc]; exact of_decide_eq_true hz) (ha.run X hX) (hw X.env hX.sc) (hs X.env)) fun D σ H z => ?_⟩
  · split at z
    · exact k.nx _ _ z
    · exact z.elim
  · obtain ⟨env, m, A, er, hr, h⟩ := z
    refine ⟨env, m, A, er, hr, ha.mono _ _ _ _ (fun ws B z vs m' H' l h' r => ?_) h⟩
    split at z
    · obtain ⟨v1, r1, rfl, q1, v2, r2, rfl, q2, v3, r3, rfl, q3, e3⟩ := r
      obtain rfl : r3 = [] := e3
      exact ⟨v1, v2, v3, rfl, z _ m' H' l h' ((((er.lt l hr.len).set q1).set q2).set q3)⟩
    · exact z.elim
theorem ss_asgS {tg : Expr} {sl : List Nat} {g : DenG} (he : SE C e f) (hg : SG C tg sl g) (hs : ∀ env : PySem.Env, swapsWithSole [tg] e pos.line env = pure false) (hw : ∀ env : PySem.Env, env.scope = C.sc → swappedStores [tg] e env = pure none)
    (h1 : ∀ env : PySem.Env, (assignEach [tg] env).map (·.2) = [assign tg env]) : SS C (.Assign [tg] e pos) (vAsg f g) := by
  refine ⟨fun D D' env A k h => he.mono _ _ _ _ (fun w B z => hg.mono _ _ _ _ _ k.nx z) h, fun X hX => PS.weak (ps_asg (he.run X hX) (hg.run X hX) (hs X.env) (hw X.env hX.sc) (h1 X.env)) fun D σ H z => ?_⟩
  obtain ⟨env, m, A, er, hr, h⟩ := z
  refine ⟨env, m, A, er, hr, he.mono _ _ _ _ (fun w B z v m' H' l h' r => ?_) h⟩
  exact ⟨env, m', B, w, er.lt l hr.len, h', r, hg.mono _ _ _ _ _ (fun e2 B2 z2 σ2 m2 H2 l2 hr2 er2 _ => z2 σ2 m2 H2 (l.trans hr.len l2) hr2 er2) z⟩
end
end Hw
namespace Hw
open PySem L2

section
variable {C : Ctx} {G : Gc} {k : Nat} {e a b c tg iter elt : Expr} {f g : Den} {ft : DenT} {pos p : Pos}
theorem si_rg1 {g : DenA} (hm : C.g.mg "range" = none) (hg : glOk C.sc "range" = true) (ha : SA C [a] g) (hs : ∀ env : PySem.Env, starEach [a] env = [(false, eval a env)]) : SI C tg (.Call (.Name "range" p) [a] [] pos) (vRange1 g) := si_range1 (gl_ok hg).1 hm ha hs
theorem si_rg2 {g : DenA} (hm : C.g.mg "range" = none) (hg : glOk C.sc "range" = true) (ha : SA C [a, b] g) (hs : ∀ env : PySem.Env, starEach [a, b] env = [(false, eval a env), (false, eval b env)]) (hs2 : ∀ env : PySem.Env, starEach [b] env = [(false, eval b env)]) : SI C tg (.Call (.Name "range" p) [a, b] [] pos) (vRange2 g) := si_range2 (gl_ok hg).1 hm ha hs hs2
theorem se_lc1 {y : Str} {py : Pos} {ifs : List Expr} {scope : Scope} {fi : DenI} (i : Nat) (hi0 : C.N[i]? = some y) (hk : C.sc.kind = .function) (ok : blkC C.N C.sc scope [(y, i)] = true) (hi : SI C (.Name y py) iter fi) (hl : loOk (C.blk scope).sc y = true) (ht : STs (C.blk scope) ifs ft) (he : SE (C.blk scope) elt f)
    (hf : ∀ (env : PySem.Env) x, foldedSetIterable iter env x = pure x) : SE C (.ListComp elt [⟨.Name y py, iter, ifs, 0⟩] scope pos) (vLc fi (dName i) ft f [i]) :=
  se_lc (own := [(y, i)]) hk ok hi (sg_nm i hi0 hl) ht he (by simp) hf
theorem se_lc2 {y z : Str} {py pz pt : Pos} {kt : Nat} {ifs : List Expr} {scope : Scope} {fi : DenI} (i j : Nat) (hi0 : C.N[i]? = some y) (hj0 : C.N[j]? = some z) (hk : C.sc.kind = .function) (ok : blkC C.N C.sc scope [(y, i), (z, j)] = true) (hi : SI C (.Tuple [.Name y py, .Name z pz] kt pt) iter fi) (hl : loOk (C.blk scope).sc y = true) (hl2 : loOk (C.blk scope).sc z = true) (ht : STs (C.blk scope) ifs ft) (he : SE (C.blk scope) elt f)
    (hf : ∀ (env : PySem.Env) x, foldedSetIterable iter env x = pure x) : SE C (.ListComp elt [⟨.Tuple [.Name y py, .Name z pz] kt pt, iter, ifs, 0⟩] scope pos) (vLc fi (dTup 2 (dCons (dName i) (dCons (dName j) dNil))) ft f [i, j]) :=
  se_lc (own := [(y, i), (z, j)]) (sl := [i] ++ ([j] ++ [])) hk ok hi (sg_tup (sgs_cons (sg_nm i hi0 hl) (sgs_cons (sg_nm j hj0 hl2) sgs_nil (fun _ => rfl)) (fun _ => rfl)) (fun _ => rfl) (fun _ => rfl)) ht he (by simp) hf
theorem sg_tp {es : List Expr} {q : Nat} {sl : List Nat} {h : DenGs} (h1 : SGs C es sl h) (hn : ∀ env : PySem.Env, (assignEach es env).length = es.length) (hst : ∀ env : PySem.Env, (assignEach es env).findIdx? (·.1) = none) : SG C (.Tuple es q pos) sl (dTup es.length h) := sg_tup h1 hn hst
end
end Hw
namespace Hw
open PySem L2
/-! ### stores of a written tuple -/
def isSt : Expr → Bool
  | .Starred .. => true
  | _ => false
theorem sw2 {env : PySem.Env} {sc : Scope} {x y : Str} {px py pt pt2 : Pos} {kt k2 : Nat} {a b : Expr} (h : env.scope = sc) (hk : sc.kind = .function) (hx : sc.names.lookup x = some .local) (hy : sc.names.lookup y = some .local) (hne : x ≠ y) (hl : (py.line == px.line) = true)
    (hA : isSt a = false) (hB : isSt b = false) (h3 : [a, b].all (foldedForSure 8) = false) (h4 : [a, b].all (constantsAlone 8) = false) :
    swappedStores [.Tuple [.Name x px, .Name y py] kt pt] (.Tuple [a, b] k2 pt2) env = pure (some [x, y]) := by
  have k1 : env.kindOf x = some .local := by show env.scope.names.lookup _ = _; rw [h]; exact hx
  have k2 : env.kindOf y = some .local := by show env.scope.names.lookup _ = _; rw [h]; exact hy
  have k3 : env.blockKind = .function := by unfold Env.blockKind; rw [h, hk]; rfl
  have hl' : py.line = px.line := by simpa using hl
  have e1 : (PySem.Expr.pos (.Name x px)) = px := rfl
  have e2 : (some NameKind.local == some NameKind.local) = true := rfl
  have e3 : (ScopeKind.function != ScopeKind.function) = false := rfl
  simp only [swappedStores, h3, h4, k1, k2, k3, e1, e2, e3, hl', List.length_cons, List.length_nil, List.head?_cons, Option.map_some, Option.getD_some, List.filterMap_cons, List.filterMap_nil, Bool.true_and, beq_self_eq_true, if_true, List.eraseDups_cons, List.filter_cons, List.filter_nil, bne_self_eq_false]
  have ey : [y].eraseDups.length = 1 := rfl
  simp [hne, Ne.symm hne, ey]
  intro q
  exfalso
  rcases q with q | q
  · cases a <;> first | exact Bool.noConfusion (show false = true from q) | exact Bool.noConfusion (show true = false from hA)
  · cases b <;> first | exact Bool.noConfusion (show false = true from q) | exact Bool.noConfusion (show true = false from hB)
theorem sw3 {env : PySem.Env} {sc : Scope} {x y z : Str} {px py pz pt pt2 : Pos} {kt k2 : Nat} {a b c : Expr} (h : env.scope = sc) (hk : sc.kind = .function) (hx : sc.names.lookup x = some .local) (hy : sc.names.lookup y = some .local) (hz : sc.names.lookup z = some .local) (hxy : x ≠ y) (hxz : x ≠ z) (hyz : y ≠ z) (hl : (py.line == px.line) = true) (hl2 : (pz.line == px.line) = true)
    (hA : isSt a = false) (hB : isSt b = false) (hC : isSt c = false) (h3 : [a, b, c].all (foldedForSure 8) = false) (h4 : [a, b, c].all (constantsAlone 8) = false) :
    swappedStores [.Tuple [.Name x px, .Name y py, .Name z pz] kt pt] (.Tuple [a, b, c] k2 pt2) env = pure (some [x, y, z]) := by
  have k1 : env.kindOf x = some .local := by show env.scope.names.lookup _ = _; rw [h]; exact hx
  have k2 : env.kindOf y = some .local := by show env.scope.names.lookup _ = _; rw [h]; exact hy
  have k4 : env.kindOf z = some .local := by show env.scope.names.lookup _ = _; rw [h]; exact hz
  have k3 : env.blockKind = .function := by unfold Env.blockKind; rw [h, hk]; rfl
  have hl' : py.line = px.line := by simpa using hl
  have hl3 : pz.line = px.line := by simpa using hl2
  have e1 : (PySem.Expr.pos (.Name x px)) = px := rfl
  have e2 : (some NameKind.local == some NameKind.local) = true := rfl
  have e3 : (ScopeKind.function != ScopeKind.function) = false := rfl
  simp only [swappedStores, h3, h4, k1, k2, k3, k4, e1, e2, e3, hl', hl3, List.length_cons, List.length_nil, List.head?_cons, Option.map_some, Option.getD_some, List.filterMap_cons, List.filterMap_nil, Bool.true_and, beq_self_eq_true, if_true, List.eraseDups_cons, List.filter_cons, List.filter_nil, bne_self_eq_false]
  have ez : [z].eraseDups.length = 1 := rfl
  simp [hxy, hxz, hyz, Ne.symm hxy, Ne.symm hxz, Ne.symm hyz, List.eraseDups_cons, ez]
  intro q
  exfalso
  rcases q with q | q | q
  · cases a <;> first | exact Bool.noConfusion (show false = true from q) | exact Bool.noConfusion (show true = false from hA)
  · cases b <;> first | exact Bool.noConfusion (show false = true from q) | exact Bool.noConfusion (show true = false from hB)
  · cases c <;> first | exact Bool.noConfusion (show false = true from q) | exact Bool.noConfusion (show true = false from hC)

def swOk (sc : Scope) (ns : List Str) (ps : List Pos) (es : List Expr) : Bool :=
  (match sc.kind with | .function => true | _ => false) && ns.all (fun x => decide (sc.names.lookup x = some .local)) && (match ps with | [] => true | p :: r => r.all fun q => q.line == p.line) && es.all (fun e => !isSt e) && !(es.all (foldedForSure 8)) && !(es.all (constantsAlone 8))
theorem kind_fn {sc : Scope} (h : (match sc.kind with | .function => true | _ => false) = true) : sc.kind = .function := by
  cases q : sc.kind <;> rw [q] at h <;> first | rfl | exact Bool.noConfusion (show false = true from h)
section
variable {C : Ctx} {a b c e : Expr} {f : Den} {pos : Pos}
theorem ss_two {x y : Str} {px py pt pt2 : Pos} {kt k2 : Nat} {g : DenA} (i j : Nat) (hi : C.N[i]? = some x) (hj : C.N[j]? = some y) (hij : i ≠ j) (hxy : decide (x ≠ y) = true) (ok : swOk C.sc [x, y] [px, py] [a, b] = true) (ha : SA C [a, b] g)
    (hs : ∀ env : PySem.Env, swapsWithSole [.Tuple [.Name x px, .Name y py] kt pt] (.Tuple [a, b] k2 pt2) pos.line env = pure false) :
    SS C (.Assign [.Tuple [.Name x px, .Name y py] kt pt] (.Tuple [a, b] k2 pt2) pos) (vPar i j g) := by
  unfold swOk at ok
  simp only [Bool.and_eq_true, List.all_cons, List.all_nil, Bool.and_true, decide_eq_true_eq, Bool.not_eq_true'] at ok
  obtain ⟨⟨⟨⟨⟨h1, h2, h3⟩, h4⟩, h5, h6⟩, h7⟩, h8⟩ := ok
  exact ss_par i j hi hj hij h2 h3 ha (fun env he => sw2 he (kind_fn h1) h2 h3 (of_decide_eq_true hxy) h4 h5 h6 (by simpa using h7) (by simpa using h8)) hs
theorem ss_three {x y z : Str} {px py pz pt pt2 : Pos} {kt k2 : Nat} {g : DenA} (i j l : Nat) (hi : C.N[i]? = some x) (hj : C.N[j]? = some y) (hl : C.N[l]? = some z) (hij : i ≠ j) (hil : i ≠ l) (hjl : j ≠ l) (hxy : decide (x ≠ y) = true) (hxz : decide (x ≠ z) = true) (hyz : decide (y ≠ z) = true) (ok : swOk C.sc [x, y, z] [px, py, pz] [a, b, c] = true) (ha : SA C [a, b, c] g)
    (hs : ∀ env : PySem.Env, swapsWithSole [.Tuple [.Name x px, .Name y py, .Name z pz] kt pt] (.Tuple [a, b, c] k2 pt2) pos.line env = pure false) :
    SS C (.Assign [.Tuple [.Name x px, .Name y py, .Name z pz] kt pt] (.Tuple [a, b, c] k2 pt2) pos) (vPar3 i j l g) := by
  unfold swOk at ok
  simp only [Bool.and_eq_true, List.all_cons, List.all_nil, Bool.and_true, decide_eq_true_eq, Bool.not_eq_true'] at ok
  obtain ⟨⟨⟨⟨⟨h1, h2, h3, h9⟩, h4, h10⟩, h5, h6, h11⟩, h7⟩, h8⟩ := ok
  exact ss_pr3 i j l hi hj hl hij hil hjl (decide_eq_true h2) (decide_eq_true h3) (decide_eq_true h9) ha (fun env he => sw3 he (kind_fn h1) h2 h3 h9 (of_decide_eq_true hxy) (of_decide_eq_true hxz) (of_decide_eq_true hyz) h4 h10 h5 h6 h11 (by simpa using h7) (by simpa using h8)) hs
/-- two targets that are tuples themselves -/
theorem swn2 {env : PySem.Env} {ts us : List Expr} {k1 k2 kt k3 : Nat} {p1 p2 pt pt2 : Pos} {a b : Expr} : swappedStores [.Tuple [.Tuple ts k1 p1, .Tuple us k2 p2] kt pt] (.Tuple [a, b] k3 pt2) env = pure none := by
  simp only [swappedStores, List.filterMap_cons, List.filterMap_nil, List.length_cons, List.length_nil]
  simp
end
end Hw
namespace Hw
open PySem L2
/-! ### promises of the fractions' class -/
def absR (q : Rat) : Rat := mkR (q.num.natAbs : Int) q.den
def pDiv (q r : Rat) : Prop := pSz q r ∧ r ≠ 0
def pStr (q : Rat) : Prop := Sz 1900 q
/-- "a/b" -/
def ratText (q : Rat) : Str := if (q.den : Int) = 1 then (toString q.num : String) else ((toString q.num : String) : Str) ++ "/" ++ ((toString (q.den : Int) : String) : Str)
def ratRepr (q : Rat) : Str := (("Ratio(" : Str) ++ ((toString q.num : String) : Str) ++ ", " ++ ((toString (q.den : Int) : String) : Str)) ++ ")"
theorem str_nil (a : Str) : Str.empty ++ a = a := by
  show Str.append Str.empty a = a
  unfold Str.append Str.empty
  cases a
  simp
theorem str_assoc (a b c : Str) : a ++ b ++ c = a ++ (b ++ c) := by
  show Str.append (Str.append a b) c = Str.append a (Str.append b c)
  unfold Str.append
  simp
theorem int_len {i : Int} (h : i.natAbs < 2 ^ 1900) : ((toString i : String) : Str).length ≤ 1921 := flat_len (d := .int i) (if_pos h)
def sTop : OL := uR (fun _ => True) fun q => .int q.num
def sBottom : OL := uR (fun _ => True) fun q => .int q.den
def sSign : OL := uR (fun _ => True) fun q => .int q.num.sign
def sWhole : OL := uR (fun _ => True) fun q => .bl ((q.den : Int) == 1)
/-- the sum of a list of numbers from q on -/
def totW : Rat → List D → (Rat → Prop) → Prop
  | q, [], k => k q
  | q, d :: l, k => match numD d with
    | some r => pSz q r ∧ totW (q + r) l k
    | none => False
theorem totW_mono {k k' : Rat → Prop} (hk : ∀ s, k s → k' s) : ∀ (l : List D) (q : Rat), totW q l k → totW q l k'
  | [], q, h => hk _ h
  | d :: l, q, h => by
    unfold totW at h ⊢
    split at h
    · exact ⟨h.1, totW_mono hk l _ h.2⟩
    · exact h.elim
def sTotal : OL := fun ws A Q => match ws with
  | [.t (.cls 0), .t (.lst l)] => totW ((0 : Int) : Rat) l fun s => Q (.t (.rat s)) A
  | [.t (.cls 0), .t (.tup l)] => totW ((0 : Int) : Rat) l fun s => Q (.t (.rat s)) A
  | _ => False
theorem mon_total : MonL sTotal := fun ws A Q Q' k h => by
  unfold sTotal at h ⊢
  split at h
  · exact totW_mono (fun s z => k _ _ z) _ _ h
  · exact totW_mono (fun s z => k _ _ z) _ _ h
  · exact h.elim
theorem tot_loop {D0 : Ed} {a b : Option W} {A : AH} {iw : O2} : ∀ (l : List D) (q : Rat) (x : Option W), totW q l (fun s => ∀ y, D0.nx [a, b, some (.t (.rat s)), y] A) →
    forW (dName 3) (vSet 2 (vBin (opN pSz (fun q r => .rat (q + r)) iw) (vName 2) (vName 3))) D0 (l.map .t) [a, b, some (.t (.rat q)), x] A
  | [], q, x, h => h x
  | d :: l, q, x, h => by
    unfold totW at h
    cases d <;> simp only [numD] at h
    case int i => exact ⟨h.1, tot_loop l (q + i) _ h.2⟩
    case rat r => exact ⟨h.1, tot_loop l (q + r) _ h.2⟩
theorem beq_dec (i j : Int) : (i == j) = decide (i = j) := by by_cases h : i = j <;> simp [h]
theorem sign_cases (i : Int) : (i == 0) = true ∧ i.sign = 0 ∨ (i == 0) = false ∧ decide (0 < i) = true ∧ i.sign = 1 ∨ (i == 0) = false ∧ decide (0 < i) = false ∧ i.sign = -1 := by
  rcases Int.lt_trichotomy i 0 with h | h | h
  · right; right
    refine ⟨by simp; omega, by simp; omega, Int.sign_eq_neg_one_of_neg h⟩
  · left; subst h; exact ⟨rfl, rfl⟩
  · right; left
    exact ⟨by simp; omega, by simp [h], Int.sign_eq_one_of_pos h⟩
theorem abs_eq (i : Int) : (if i < 0 then -i else i) = (i.natAbs : Int) := by split <;> omega
theorem sm_abs {i : Int} (h : Sm i) : Sm (i.natAbs : Int) := by apply Sm.of; rw [Int.natAbs_natCast]; exact h.lt
theorem eqR_eq (q r : Rat) : decide (q = r) = (decide (q.num = r.num) && decide ((q.den : Int) = (r.den : Int))) := by
  by_cases h : q = r
  · subst h; simp
  · have : ¬ (q.num = r.num ∧ (q.den : Int) = (r.den : Int)) := fun z => h (Rat.ext z.1 (by omega))
    simp only [h, decide_false]
    by_cases h1 : q.num = r.num <;> by_cases h2 : (q.den : Int) = (r.den : Int) <;> simp_all
end Hw
namespace Hw
open PySem L2
/-! ### steps: items of lists and tuples -/
theorem at_nat {l : List D} {n : Nat} {d : D} (h : l[n]? = some d) : atI l (n : Int) = some d := by
  have hn : n < l.length := (List.getElem?_eq_some_iff.mp h).1
  unfold atI ixN
  rw [if_pos (by omega), if_pos (by omega)]; simpa using h
theorem at_0 {l : List D} {d : D} (h : l[0]? = some d) : atI l 0 = some d := at_nat (n := 0) h
theorem at_1 {l : List D} {d : D} (h : l[1]? = some d) : atI l 1 = some d := at_nat (n := 1) h
theorem at_2 {l : List D} {d : D} (h : l[2]? = some d) : atI l 2 = some d := at_nat (n := 2) h
theorem at_3 {l : List D} {d : D} (h : l[3]? = some d) : atI l 3 = some d := at_nat (n := 3) h
theorem at_int {l : List D} {i : Int} (h0 : 0 ≤ i) (h1 : i < l.length) : ∃ d, d ∈ l ∧ atI l i = some d := by
  obtain ⟨n, rfl⟩ : ∃ n : Nat, i = n := ⟨i.toNat, by omega⟩
  have hn : n < l.length := by omega
  exact ⟨l[n], List.getElem_mem hn, at_nat (List.getElem?_eq_getElem hn)⟩
theorem ix_tup {l : List D} {j : Int} {d : D} {B : AH} {Q : WK} (h : atI l j = some d) (z : Q (.t d) B) : ixW (.t (.tup l)) (.t (.int j)) B Q := by
  unfold ixW
  show (match atI l j with
    | some d => Q (.t d) B
    | none => False)
  rw [h]; exact z
theorem ix_lst {l : List D} {j : Int} {d : D} {B : AH} {Q : WK} (h : atI l j = some d) (z : Q (.t d) B) : ixW (.t (.lst l)) (.t (.int j)) B Q := by
  unfold ixW
  show (match atI l j with
    | some d => Q (.t d) B
    | none => False)
  rw [h]; exact z
theorem ix_loc {n : Nat} {l : List D} {j : Int} {d : D} {B : AH} {Q : WK} (hb : B[n]? = some (.live (.lst l))) (h : atI l j = some d) (z : Q (.t d) B) : ixW (.loc n) (.t (.int j)) B Q := by
  unfold ixW
  show (match B[n]? with
    | some (.live (.lst l)) => match atI l j with
      | some d => Q (.t d) B
      | none => False
    | _ => False)
  rw [hb]
  show (match atI l j with
    | some d => Q (.t d) B
    | none => False)
  rw [h]; exact z
theorem set_0 {n : Nat} {x : D} {l : List D} {d : D} {B : AH} {Kn : AH → Prop} (hb : B[n]? = some (.live (.lst (x :: l)))) (z : Kn (B.set n (.live (.lst (d :: l))))) : setW (.loc n) (.t (.int 0)) (.t d) B Kn := by
  unfold setW
  show (match B[n]? with
    | some (.live (.lst l)) => match ixN l.length 0 with
      | some jj => Kn (B.set n (.live (.lst (l.set jj d))))
      | none => False
    | _ => False)
  rw [hb]
  show (match ixN (x :: l).length 0 with
    | some jj => Kn (B.set n (.live (.lst ((x :: l).set jj d))))
    | none => False)
  have e : ixN (x :: l).length 0 = some 0 := by unfold ixN; rw [if_pos (by omega), if_pos (by simp)]; rfl
  rw [e]; exact z
theorem set_1 {n : Nat} {x y : D} {l : List D} {d : D} {B : AH} {Kn : AH → Prop} (hb : B[n]? = some (.live (.lst (x :: y :: l)))) (z : Kn (B.set n (.live (.lst (x :: d :: l))))) : setW (.loc n) (.t (.int 1)) (.t d) B Kn := by
  unfold setW
  show (match B[n]? with
    | some (.live (.lst l)) => match ixN l.length 1 with
      | some jj => Kn (B.set n (.live (.lst (l.set jj d))))
      | none => False
    | _ => False)
  rw [hb]
  show (match ixN (x :: y :: l).length 1 with
    | some jj => Kn (B.set n (.live (.lst ((x :: y :: l).set jj d))))
    | none => False)
  have e : ixN (x :: y :: l).length 1 = some 1 := by unfold ixN; rw [if_pos (by omega), if_pos (by simp; omega)]; rfl
  rw [e]; exact z
theorem flat_int {i : Int} (h : i.natAbs < 2 ^ 1900) : flatT (.int i) = some ((toString i : String) : Str) := if_pos h
/-! ### the law's drawing of numbers -/
/-- two numbers that a draw takes from -/
def Pot (A : AH) (j : Nat) : Prop := ∃ a b : Int, 0 ≤ a ∧ 0 ≤ b ∧ b < 2147483648 ∧ A[j]? = some (.live (.lst [.int a, .int b]))
/-- all but the cell j is as before -/
structure Kp (A A' : AH) (j : Nat) : Prop where
  len : A'.length = A.length
  at_ : ∀ i, i ≠ j → A'[i]? = A[i]?
theorem Kp.refl {A : AH} {j : Nat} : Kp A A j := ⟨rfl, fun _ _ => rfl⟩
theorem Kp.trans {A A' A'' : AH} {j : Nat} (h : Kp A A' j) (k : Kp A' A'' j) : Kp A A'' j := ⟨k.len.trans h.len, fun i hi => (k.at_ i hi).trans (h.at_ i hi)⟩
theorem Kp.set {A : AH} {j : Nat} {c : Cell} : Kp A (A.set j c) j := ⟨List.length_set, fun i hi => List.getElem?_set_ne (Ne.symm hi)⟩
theorem Pot.set {A : AH} {j : Nat} {c : Cell} {a b : Int} (h : A[j]? = some c) (ha : 0 ≤ a) (hb : 0 ≤ b) (hb2 : b < 2147483648) : Pot (A.set j (.live (.lst [.int a, .int b]))) j := ⟨a, b, ha, hb, hb2, get_set h⟩
def sDraw : OL := fun ws A Q => match ws with
  | [.loc j, .t (.int n)] => Pot A j ∧ 0 < n ∧ n < 1073741824 ∧ ∀ A' d, Pot A' j → Kp A A' j → 0 ≤ d → d < n → Q (.t (.int d)) A'
  | _ => False
theorem mon_draw : MonL sDraw := fun ws A Q Q' k h => by
  unfold sDraw at h ⊢
  split at h
  · exact ⟨h.1, h.2.1, h.2.2.1, fun A' d h1 h2 h3 h4 => k _ _ (h.2.2.2 A' d h1 h2 h3 h4)⟩
  · exact h.elim
def sPick : OL := fun ws A Q => match ws with
  | [.loc j, .t (.lst l)] => Pot A j ∧ l ≠ [] ∧ l.length < 1000000 ∧ ∀ A' x, Pot A' j → Kp A A' j → x ∈ l → Q (.t x) A'
  | _ => False
theorem mon_pick : MonL sPick := fun ws A Q Q' k h => by
  unfold sPick at h ⊢
  split at h
  · exact ⟨h.1, h.2.1, h.2.2.1, fun A' d h1 h2 h3 => k _ _ (h.2.2.2 A' d h1 h2 h3)⟩
  · exact h.elim
/-- an int that is drawn, as P says -/
def sInt (P : Int → Prop) : OL := fun ws A Q => match ws with
  | [.loc j] => Pot A j ∧ ∀ A' x, Pot A' j → Kp A A' j → P x → Q (.t (.int x)) A'
  | _ => False
theorem mon_int {P : Int → Prop} : MonL (sInt P) := fun ws A Q Q' k h => by
  unfold sInt at h ⊢
  split at h
  · exact ⟨h.1, fun A' d h1 h2 h3 => k _ _ (h.2 A' d h1 h2 h3)⟩
  · exact h.elim
/-- True, whatever has been drawn -/
def sYes : OL := fun ws A Q => match ws with
  | [.loc j] => Pot A j ∧ ∀ A', Pot A' j → Kp A A' j → Q (.t (.bl true)) A'
  | _ => False
theorem mon_yes : MonL sYes := fun ws A Q Q' k h => by
  unfold sYes at h ⊢
  split at h
  · exact ⟨h.1, fun A' h1 h2 => k _ _ (h.2 A' h1 h2)⟩
  · exact h.elim
/-- a new pot -/
def sPot : OL := fun ws A Q => match ws with
  | [.t (.lst l), .t (.int k)] => (∃ ns : List Int, l = ns.map D.int ∧ ns.length ≤ 63) ∧ 0 ≤ k ∧ k < 100 ∧ ∀ A', Pot A' A.length → A'.length = A.length + 1 → (∀ i, i < A.length → A'[i]? = A[i]?) → Q (.loc A.length) A'
  | _ => False
theorem mon_pot : MonL sPot := fun ws A Q Q' k h => by
  unfold sPot at h ⊢
  split at h
  · exact ⟨h.1, h.2.1, h.2.2.1, fun A' h1 h2 h3 => k _ _ (h.2.2.2 A' h1 h2 h3)⟩
  · exact h.elim
def sGcd : OL := pureS fun ws => match ws with
  | [.t (.int a), .t (.int b)] => some (True, .t (.int ((Nat.gcd a.natAbs b.natAbs : Nat) : Int)))
  | _ => none
def sLow : OL := pureS fun ws => match ws with
  | [.t (.int a), .t (.int b)] => some (b ≠ 0 ∧ Sm b, .t (.tup [.int (mkR a b).num, .int (mkR a b).den]))
  | _ => none
theorem gcd_fmod (x y : Int) (hy : y ≠ 0) : Nat.gcd y.natAbs (x.fmod y).natAbs = Nat.gcd x.natAbs y.natAbs := by
  have e : Int.gcd y (x.fmod y) = Int.gcd x y := by
    rw [Int.fmod_def, Int.gcd_comm x y]
    rw [Int.sub_eq_add_neg, ← Int.mul_neg, Int.gcd_add_mul_left_right]
  exact e
theorem fmod_lt (x y : Int) (hy : y ≠ 0) : (x.fmod y).natAbs < y.natAbs := by
  rcases Int.lt_or_gt_of_ne hy with h | h
  · have h1 := Int.fmod_nonneg_of_pos (-x) (b := -y) (by omega)
    have h2 := Int.fmod_lt_of_pos (-x) (b := -y) (by omega)
    rw [Int.neg_fmod_neg] at h1 h2
    omega
  · have h1 := Int.fmod_nonneg_of_pos x h
    have h2 := Int.fmod_lt_of_pos x h
    omega
end Hw
namespace Hw
open PySem L2
def isRat : D → Bool
  | .rat _ => true
  | _ => false
theorem ft_nil : flatTs [] = some [] := rfl
theorem ft_int {i : Int} {l : List D} {ts : List Str} (h : i.natAbs < 2 ^ 1900) (r : flatTs l = some ts) : flatTs (.int i :: l) = some (((toString i : String) : Str) :: ts) := by
  unfold flatTs
  rw [flat_int h, r]
def blT (b : Bool) : Str := if b then "True" else "False"
theorem ft_bl {b : Bool} {l : List D} {ts : List Str} (r : flatTs l = some ts) : flatTs (.bl b :: l) = some (blT b :: ts) := by
  unfold flatTs
  rw [r]
  rfl
theorem rp_lst {c : D → Bool} {S : OK2} {l : List D} {ts : List Str} {A : AH} {Q : WK} (h : flatTs l = some ts) (h2 : l.length ≤ 40) (h3 : l ≠ []) (z : Q (.t (.str (lText ts))) A) : reprW c S [.t (.lst l)] A Q := by
  unfold reprW
  show (match flatTs l with
    | some ts => (l.length ≤ 40 ∧ l ≠ []) ∧ Q (.t (.str (lText ts))) A
    | none => False)
  rw [h]
  exact ⟨⟨h2, h3⟩, z⟩
theorem rp_own {c : D → Bool} {S : OK2} {q : Rat} {A : AH} {Q : WK} (h : c (.rat q) = true) (z : S [.t (.rat q)] [] A fun w B => ∃ z, w = .t (.str z) ∧ Q w B) : reprW c S [.t (.rat q)] A Q := by unfold reprW; exact ⟨h, z⟩
def sIs : OL := pureS fun ws => match ws with
  | [.t (.rat q), .t (.tup [.int a, .int b])] => some (pStr q ∧ a = q.num ∧ b = q.den, .t (.bl true))
  | _ => none
def shownT (a b : Int) : Str := if b = 1 then (toString a : String) else ((toString a : String) : Str) ++ "/" ++ ((toString b : String) : Str)
theorem shown_eq (q : Rat) : shownT q.num q.den = ratText q := rfl
def sShown : OL := pureS fun ws => match ws with
  | [.t (.tup [.int a, .int b])] => some (a.natAbs < 2 ^ 1900 ∧ b.natAbs < 2 ^ 1900, .t (.str (shownT a b)))
  | _ => none
def sOne : OL := pureS fun ws => match ws with
  | [.t (.int a), .t (.int b)] => some (b ≠ 0 ∧ Si 1000 a ∧ Si 1000 b, .t (.bl true))
  | _ => none
def sTwo : OL := pureS fun ws => match ws with
  | [.t (.tup [.int a, .int b]), .t (.tup [.int c, .int d]), .t (.int w)] => some ((b ≠ 0 ∧ d ≠ 0) ∧ (Si 200 a ∧ Si 200 b) ∧ (Si 200 c ∧ Si 200 d) ∧ Si 200 w, .t (.bl true))
  | _ => none
theorem Sz.pstr {n : Nat} {q : Rat} (h : Sz n q) (k : n ≤ 1900) : pStr q := h.up k
theorem abs_rat (q : Rat) : (absR q).num = (q.num.natAbs : Int) ∧ (absR q).den = q.den := by
  have h : Rat.divInt (Rat.mk' (q.num.natAbs : Int) q.den q.den_nz q.reduced).num (Rat.mk' (q.num.natAbs : Int) q.den q.den_nz q.reduced).den = Rat.mk' (q.num.natAbs : Int) q.den q.den_nz q.reduced := Rat.num_divInt_den _
  have e : absR q = Rat.mk' (q.num.natAbs : Int) q.den q.den_nz q.reduced := h
  rw [e]
  exact ⟨rfl, rfl⟩
theorem mk_zero {a b : Int} (hb : b ≠ 0) : ((mkR a b).num == 0) = (a == 0) := by
  have h : mkR a b = 0 ↔ a = 0 := by
    rw [mkR_eq]
    constructor
    · intro h
      by_cases ha : a = 0
      · exact ha
      · exfalso
        have h1 : (a : Rat) ≠ 0 := fun z => ha (Rat.intCast_eq_zero_iff.mp z)
        have h2 : (b : Rat) ≠ 0 := fun z => hb (Rat.intCast_eq_zero_iff.mp z)
        grind
    · intro h; subst h; rw [Rat.intCast_zero]; grind
  rw [beq_dec, beq_dec]
  exact decide_eq_decide.mpr (num_zero.trans h)
theorem neg_num (q : Rat) : 0 - q.num = (-q).num ∧ (q.den : Int) = ((-q).den : Int) := ⟨by rw [Int.zero_sub]; rfl, rfl⟩
theorem sign_lt (i : Int) : i.sign.natAbs < 2 ^ 1900 := by
  have h : i.sign.natAbs ≤ 1 := by rcases Int.lt_trichotomy i 0 with h | h | h
                                   · rw [Int.sign_eq_neg_one_of_neg h]; decide
                                   · subst h; decide
                                   · rw [Int.sign_eq_one_of_pos h]; decide
  exact Nat.lt_of_le_of_lt h (Nat.lt_of_lt_of_le (by decide : 1 < 2 ^ 1) (two_le (by decide)))
theorem ne_self (x : Str) : ¬ ((!(x == x)) = true) := by simp
theorem sgn_text {q : Rat} {i : Int} {b : Bool} (h : q.num.sign = i) : ¬ ((!(lText [((toString q.num.sign : String) : Str), blT b] == lText [((toString i : String) : Str), blT b])) = true) := by rw [h]; exact ne_self _
theorem nt_of {b : Bool} (h : b = false) : ¬ b = true := by rw [h]; exact Bool.false_ne_true
end Hw
namespace Hw
open PySem L2
/-! ### fractions by their tops and bottoms -/
theorem int_ne {b : Int} (h : b ≠ 0) : (b : Rat) ≠ 0 := fun z => h (Rat.intCast_eq_zero_iff.mp z)
theorem mkR_add {a b c d : Int} (hb : b ≠ 0) (hd : d ≠ 0) : mkR a b + mkR c d = mkR (a * d + c * b) (b * d) := by
  have h1 := int_ne hb
  have h2 := int_ne hd
  rw [mkR_eq, mkR_eq, mkR_eq, Rat.intCast_add, Rat.intCast_mul, Rat.intCast_mul, Rat.intCast_mul]
  grind
theorem mkR_sub {a b c d : Int} (hb : b ≠ 0) (hd : d ≠ 0) : mkR a b - mkR c d = mkR (a * d - c * b) (b * d) := by
  have h1 := int_ne hb
  have h2 := int_ne hd
  rw [mkR_eq, mkR_eq, mkR_eq, Rat.intCast_sub, Rat.intCast_mul, Rat.intCast_mul, Rat.intCast_mul]
  grind
theorem mkR_mul {a b c d : Int} (hb : b ≠ 0) (hd : d ≠ 0) : mkR a b * mkR c d = mkR (a * c) (b * d) := by
  have h1 := int_ne hb
  have h2 := int_ne hd
  rw [mkR_eq, mkR_eq, mkR_eq, Rat.intCast_mul, Rat.intCast_mul]
  grind
theorem mkR_div {a b c d : Int} (hb : b ≠ 0) (hc : c ≠ 0) (hd : d ≠ 0) : mkR a b / mkR c d = mkR (a * d) (b * c) := by
  have h1 := int_ne hb
  have h2 := int_ne hd
  have h3 := int_ne hc
  rw [mkR_eq, mkR_eq, mkR_eq, Rat.intCast_mul, Rat.intCast_mul]
  grind
theorem mkR_addw {a b w : Int} (hb : b ≠ 0) : mkR a b + (w : Rat) = mkR (a + w * b) b := by
  have h1 := int_ne hb
  rw [mkR_eq, mkR_eq, Rat.intCast_add, Rat.intCast_mul]
  grind
theorem mkR_subw {a b w : Int} (hb : b ≠ 0) : mkR a b - (w : Rat) = mkR (a - w * b) b := by
  have h1 := int_ne hb
  rw [mkR_eq, mkR_eq, Rat.intCast_sub, Rat.intCast_mul]
  grind
theorem mkR_wsub {a b w : Int} (hb : b ≠ 0) : (w : Rat) - mkR a b = mkR (w * b - a) b := by
  have h1 := int_ne hb
  rw [mkR_eq, mkR_eq, Rat.intCast_sub, Rat.intCast_mul]
  grind
theorem mkR_wmul {a b w : Int} (hb : b ≠ 0) : (w : Rat) * mkR a b = mkR (w * a) b := by
  have h1 := int_ne hb
  rw [mkR_eq, mkR_eq, Rat.intCast_mul]
  grind
theorem mkR_mulw {a b w : Int} (hb : b ≠ 0) : mkR a b * (w : Rat) = mkR (a * w) b := by
  have h1 := int_ne hb
  rw [mkR_eq, mkR_eq, Rat.intCast_mul]
  grind
theorem mkR_wadd {a b w : Int} (hb : b ≠ 0) : (w : Rat) + mkR a b = mkR (w * b + a) b := by
  have h1 := int_ne hb
  rw [mkR_eq, mkR_eq, Rat.intCast_add, Rat.intCast_mul]
  grind
theorem mkR_divw {a b w : Int} (hb : b ≠ 0) (hw : w ≠ 0) : mkR a b / (w : Rat) = mkR a (b * w) := by
  have h1 := int_ne hb
  have h2 := int_ne hw
  rw [mkR_eq, mkR_eq, Rat.intCast_mul]
  grind
theorem nd {q r : Rat} (h : q = r) : r.num = q.num ∧ (r.den : Int) = q.den := by rw [h]; exact ⟨rfl, rfl⟩
/-- what was taken out of both -/
theorem mk_by {x y : Int} (hy : y ≠ 0) : ∃ s : Int, x = (mkR x y).num * s ∧ y = (mkR x y).den * s ∧ s ≠ 0 ∧ (0 < s ↔ 0 < y) := by
  have e1 := mk_num x y hy
  have e2 := mk_den x y hy
  have g0 := gcd_ne x y hy
  have d1 := gcd_dvd1 x y
  have d2 := gcd_dvd2 x y
  generalize hg : ((Nat.gcd x.natAbs y.natAbs : Nat) : Int) = g at *
  have gp : 0 < g := by omega
  by_cases h : y < 0
  · rw [if_pos h] at e1 e2
    have d1' : -g ∣ x := Int.neg_dvd.mpr d1
    have d2' : -g ∣ y := Int.neg_dvd.mpr d2
    rw [fdiv_exact d1'] at e1
    rw [fdiv_exact d2'] at e2
    refine ⟨-g, ?_, ?_, by omega, by omega⟩
    · rw [← e1, Int.ediv_mul_cancel d1']
    · rw [← e2, Int.ediv_mul_cancel d2']
  · rw [if_neg h] at e1 e2
    rw [fdiv_exact d1] at e1
    rw [fdiv_exact d2] at e2
    refine ⟨g, ?_, ?_, by omega, by omega⟩
    · rw [← e1, Int.ediv_mul_cancel d1]
    · rw [← e2, Int.ediv_mul_cancel d2]
theorem mk_neg {x y : Int} (hy : y ≠ 0) : ((mkR x y).num < 0 ↔ if 0 < y then x < 0 else 0 < x) ∧ ((mkR x y).num ≤ 0 ↔ if 0 < y then x ≤ 0 else 0 ≤ x) := by
  obtain ⟨s, h1, h2, h3, h4⟩ := mk_by (x := x) hy
  generalize (mkR x y).num = n at *
  by_cases h : 0 < y
  · have hs := h4.mpr h
    simp only [h, if_true]
    rw [h1]
    constructor
    · constructor
      · intro z; exact Int.mul_neg_of_neg_of_pos z hs
      · intro z; exact Int.lt_of_not_ge fun q => absurd z (Int.not_lt.mpr (Int.mul_nonneg q (Int.le_of_lt hs)))
    · constructor
      · intro z; exact Int.mul_nonpos_of_nonpos_of_nonneg z (Int.le_of_lt hs)
      · intro z; exact Int.not_lt.mp fun q => absurd z (Int.not_le.mpr (Int.mul_pos q hs))
  · have hs : s < 0 := by
      have : ¬ 0 < s := fun z => h (h4.mp z)
      omega
    simp only [h, if_false]
    rw [h1]
    constructor
    · constructor
      · intro z; exact Int.mul_pos_of_neg_of_neg z hs
      · intro z; exact Int.lt_of_not_ge fun q => absurd z (Int.not_lt.mpr (Int.mul_nonpos_of_nonneg_of_nonpos q (Int.le_of_lt hs)))
    · constructor
      · intro z; exact Int.mul_nonneg_of_nonpos_of_nonpos z (Int.le_of_lt hs)
      · intro z; exact Int.not_lt.mp fun q => absurd z (Int.not_le.mpr (Int.mul_neg_of_pos_of_neg q hs))
/-! ### steps: new lists by comprehensions -/
theorem put_lc {n : Nat} {d : D} {acc : List D} {A : AH} {Kn : AH → Prop} (h : A[n]? = some (.live (.lst acc))) (hl : acc.length < 400) (z : Kn (A.set n (.live (.lst (acc ++ [d]))))) : lcPut n (.t d) A Kn := by
  unfold lcPut
  rw [h]
  exact ⟨hl, z⟩
theorem end_lc {n : Nat} {l : List D} {A B : AH} {Q : WK} (h : B[n]? = some (.live (.lst l))) (ht : B.take n = A) (z : Q (.t (.lst l)) A) : lcEnd n Q B := by
  unfold lcEnd
  rw [h, ht]
  exact z
theorem get_app {A : AH} {c : Cell} : (A ++ [c])[A.length]? = some c := by simp
theorem tk_app {A : AH} {c : Cell} : (A ++ [c]).take A.length = A := by simp
theorem tk_set {A B : AH} {n : Nat} {c : Cell} (h : B.take n = A) : (B.set n c).take n = A := by rw [List.take_set_of_le (Nat.le_refl _)]; exact h
end Hw
namespace Hw
open PySem L2
/-! ### a comprehension all of whose values are True -/
theorem lc_yes {n0 i : Nat} {el : Den} {env : Env} {Kn : AH → Prop} (R : W → Prop)
    (step : ∀ w B (K : WK), R w → n0 < B.length → (∀ B', n0 < B'.length → (∀ j, j ≤ n0 → B'[j]? = B[j]?) → K (.t (.bl true)) B') → el (env.set i (some w)) B K) :
    ∀ (ws : List W) (B : AH) (acc : List D), (∀ w ∈ ws, R w) → B[n0]? = some (.live (.lst acc)) → acc.length + ws.length ≤ 400 →
      (∀ B', B'[n0]? = some (.live (.lst (acc ++ List.replicate ws.length (.bl true)))) → (∀ j, j < n0 → B'[j]? = B[j]?) → Kn B') → lcW n0 (dName i) vYes el env ws B Kn
  | [], B, acc, hr, hb, hl, hk => hk B (by simpa using hb) fun _ _ => rfl
  | w :: ws, B, acc, hr, hb, hl, hk => by
    have hlen := (List.getElem?_eq_some_iff.mp hb).1
    rw [List.length_cons] at hl
    show (Cif true (el (env.set i (some w)) B fun y A3 => lcPut n0 y A3 fun A4 => lcW n0 (dName i) vYes el env ws A4 Kn) (lcW n0 (dName i) vYes el env ws B Kn))
    refine Cif.yes ?_
    refine step w B _ (hr w (List.mem_cons_self ..)) hlen fun B' hl' hs => ?_
    have hb' : B'[n0]? = some (.live (.lst acc)) := (hs n0 (Nat.le_refl _)).trans hb
    refine put_lc hb' (by omega) ?_
    refine lc_yes R step ws _ (acc ++ [.bl true]) (fun v hv => hr v (List.mem_cons_of_mem _ hv)) (get_set hb') (by rw [List.length_append, List.length_singleton]; omega) fun B2 h1 h2 => hk B2 ?_ fun j hj => ?_
    · rw [h1, List.append_assoc, List.length_cons, List.replicate_succ]
      rfl
    · rw [h2 j hj, List.getElem?_set_ne (by omega)]
      exact hs j (by omega)
theorem bools_rep' : ∀ n : Nat, bools (List.replicate n (.bl true)) = some (List.replicate n true)
  | 0 => rfl
  | n + 1 => by
    rw [List.replicate_succ, List.replicate_succ]
    unfold bools
    rw [bools_rep' n]
    rfl
theorem all_yes {n : Nat} {A : AH} {Q : WK} (h : Q (.t (.bl true)) A) : allW (fun bs => bs.all id) [.t (.lst (List.replicate n (.bl true)))] A Q := by
  show (match bools (List.replicate n (.bl true)) with
    | some bs => Q (.t (.bl (bs.all id))) A
    | none => False)
  rw [bools_rep' n]
  show Q (.t (.bl ((List.replicate n true).all id))) A
  have e : (List.replicate n true).all id = true := by simp
  rw [e]; exact h
theorem take_eq {A B : AH} (h : ∀ j, j < A.length → B[j]? = A[j]?) (hl : A.length ≤ B.length) : B.take A.length = A := by
  apply List.ext_getElem?
  intro j
  rw [List.getElem?_take]
  split
  · rename_i hj; exact h j hj
  · rename_i hj; exact (List.getElem?_eq_none (by omega)).symm
theorem ups_is {lo : Int} {n : Nat} {w : W} (h : w ∈ ups lo n) : ∃ i : Int, w = .t (.int i) ∧ lo ≤ i ∧ i < lo + n := by
  unfold ups at h
  obtain ⟨i, hi, rfl⟩ := List.mem_map.1 h
  have := List.mem_range.mp hi
  exact ⟨_, rfl, by omega, by omega⟩
def sLaw : OL := pureS fun ws => match ws with
  | [.t (.lst l)] => some ((∃ ns : List Int, l = ns.map D.int ∧ ns.length ≤ 63), .t (.bl true))
  | _ => none
theorem si20 {v : Int} (h : v.natAbs < 1048576) {n : Nat} (k : 20 ≤ n) : Si n v := Si.up (n := 20) h k
theorem si3 {v : Int} (h : v.natAbs < 1048576) {n : Nat} (k : 30 ≤ n) : Si n (3 * v) := Si.up (n := 30) (by unfold Si; omega) k
theorem lc_go {n0 : Nat} {g : DenG} {t : DenT} {el : Den} {env : Env} {w : W} {ws : List W} {A : AH} {Kn : AH → Prop} (h : g w env A fun e1 A1 => t e1 A1 fun b A2 => Cif b (el e1 A2 fun y A3 => lcPut n0 y A3 fun A4 => lcW n0 g t el env ws A4 Kn) (lcW n0 g t el env ws A2 Kn)) : lcW n0 g t el env (w :: ws) A Kn := h
theorem lc_done {n0 : Nat} {g : DenG} {t : DenT} {el : Den} {env : Env} {A : AH} {Kn : AH → Prop} (h : Kn A) : lcW n0 g t el env [] A Kn := h
theorem for_go {g : DenG} {t : DenS} {D : Ed} {env : Env} {w : W} {ws : List W} {A : AH} (h : g w env A fun e B => t (forD D (forW g t D ws)) e B) : forW g t D (w :: ws) env A := h
theorem for_done {g : DenG} {t : DenS} {D : Ed} {env : Env} {A : AH} (h : D.nx env A) : forW g t D [] env A := h
end Hw
namespace Hw
open PySem L2
/-! ### statements read one at a time -/
section
variable {C : Ctx} {st : Stmt} {rest xs ys b : List Stmt} {s : DenS} {D : Ed} {env : Env} {A : AH} {c tg iter : Expr} {ft : DenT} {pos : Pos}
/-- what some reading of the statements keeps -/
structure WpSs (C : Ctx) (sts : List Stmt) (D : Ed) (env : Env) (A : AH) : Prop where
  ex : ∃ t : DenS, SSs C sts t ∧ t D env A
theorem sss_wp : SSs C rest (WpSs C rest) := by
  refine ⟨fun D D' env A k h => ?_, fun X hX => ⟨fun p s σ H D I z => ?_⟩⟩
  · obtain ⟨t, h1, h2⟩ := h
    exact ⟨t, h1, h1.mono _ _ _ _ k h2⟩
  · obtain ⟨env, m, A, er, hr, ⟨t, h1, h2⟩⟩ := z
    exact (h1.run X hX).run p s σ H D I ⟨env, m, A, er, hr, h2⟩
theorem wp_cons (h : SS C st s) (k : s { D with nx := fun e B => WpSs C rest D e B } env A) : WpSs C (st :: rest) D env A := ⟨vSeq s (WpSs C rest), sss_cons h sss_wp, k⟩
theorem wp_nil (h : D.nx env A) : WpSs C [] D env A := ⟨vNext, sss_nil, h⟩
theorem wp_one (h : SS C st s) (k : s D env A) : WpSs C [st] D env A := ⟨s, sss_one h, k⟩
/-- .. from the i-th on -/
structure WpAt (C : Ctx) (b : List Stmt) (i : Nat) (D : Ed) (env : Env) (A : AH) : Prop where
  go : WpSs C (b.drop i) D env A
theorem sss_at : SSs C b (WpAt C b 0) := ⟨fun D D' env A k h => ⟨sss_wp.mono _ _ _ _ k h.go⟩, fun X hX => PSs.weak (sss_wp.run X hX) fun D σ H z => by
  obtain ⟨env, m, A, er, hr, h⟩ := z
  exact ⟨env, m, A, er, hr, h.go⟩⟩
theorem at_cons {i : Nat} {l : List Stmt} (e : b.drop i = st :: l) (e2 : b.drop (i + 1) = l) (h : SS C st s) (k : s { D with nx := fun e B => WpAt C b (i + 1) D e B } env A) : WpAt C b i D env A := by
  refine ⟨?_⟩
  rw [e]
  refine wp_cons h (h.mono { D with nx := fun e B => WpAt C b (i + 1) D e B } _ _ _ ⟨fun e B z => ?_, fun _ _ z => z, fun _ _ z => z, fun _ _ z => z⟩ k)
  show WpSs C l D e B
  rw [← e2]
  exact z.go
theorem wp_at {i : Nat} (hi : b[i]? = some st) (h : SS C st s) (k : s { D with nx := fun e B => WpAt C b (i + 1) D e B } env A) : WpAt C b i D env A := by
  obtain ⟨hl, e⟩ := List.getElem?_eq_some_iff.mp hi
  exact at_cons (by rw [List.drop_eq_getElem_cons hl, e]) rfl h k
theorem wp_end {i : Nat} (hi : b[i]? = none) (h : D.nx env A) : WpAt C b i D env A := by
  refine ⟨?_⟩
  rw [List.drop_eq_nil_of_le (by simpa using hi)]
  exact wp_nil h
theorem wp_env {i : Nat} {e' : Env} (h : e' = env) (k : WpAt C b i D e' A) : WpAt C b i D env A := h ▸ k
theorem ss_ifL (hc : ST C c ft) : SS C (.If c xs ys pos) (vIfS ft (WpSs C xs) (WpSs C ys)) := ss_if hc sss_wp sss_wp
theorem ss_whileL (hc : ST C c ft) : SS C (.While c xs [] pos) (vWhile ft (WpSs C xs)) := ss_while hc sss_wp
theorem nn_nil {α : Type} : ([] : List α).length = 0 := rfl
theorem nn_cons {α : Type} {a : α} {l : List α} {n : Nat} (h : l.length = n) : (a :: l).length = n + 1 := by rw [List.length_cons, h]
theorem nn_s {α : Type} {l : List α} {n : Nat} (h : l.length = n) : l.length + 1 = n + 1 := by rw [h]
theorem ks_nil : ksOf [] = [] := rfl
theorem ks_cons {x : Str} {e : Expr} {p : Pos} {l : List Keyword} {ks : List Str} (h : ksOf l = ks) : ksOf (⟨some x, e, p⟩ :: l) = x :: ks := by rw [← h]; rfl
theorem se_fncR {e : Expr} {es : List Expr} {kws : List Keyword} {x : Str} {p : Pos} {gp gk : DenA} {g : Gc} {k n : Nat} {ks : List Str} {S : OK2} (hn : (e :: es).length = n) (hks : ksOf kws = ks) (F : Fnc g k x n ks S) (hC : C.g = g) (hk : lvOk k C.lev = true) (hg : glOk C.sc x = true) (hp : SA C (e :: es) gp) (hkw : SK C kws gk) (sh : ∀ env, Shp (e :: es) kws (ksOf kws) pos env) (he : ∀ env : PySem.Env, starEach (e :: es) env = (false, eval e env) :: starEach es env) :
    SE C (.Call (.Name x p) (e :: es) kws pos) (vCall n ks.length S gp gk) := by
  subst hC hn hks
  exact se_fnc F hk hg hp hkw sh he
theorem se_fnc0R {kws : List Keyword} {x : Str} {p : Pos} {gk : DenA} {g : Gc} {k : Nat} {ks : List Str} {S : OK2} (hks : ksOf kws = ks) (F : Fnc g k x 0 ks S) (hC : C.g = g) (hk : lvOk k C.lev = true) (hg : glOk C.sc x = true) (hkw : SK C kws gk) (sh : ∀ env, Shp [] kws (ksOf kws) pos env) :
    SE C (.Call (.Name x p) [] kws pos) (vCall 0 ks.length S vNil gk) := by
  subst hC hks
  exact se_fnc0 F hk hg hkw sh
theorem se_bifR {e : Expr} {es : List Expr} {x : Str} {p : Pos} {r : OL} {ga : DenA} {g : Gc} {k : Nat} (F : Bif g k x r) (hC : C.g = g) (hk : lvOk k C.lev = true) (hg : glOk C.sc x = true) (ha : SA C (e :: es) ga) (hs : ∀ env : PySem.Env, starEach (e :: es) env = (false, eval e env) :: starEach es env)
    (h2 : ∀ env : PySem.Env, ((backTo pos (starEach es env)).any (·.1)) = false) : SE C (.Call (.Name x p) (e :: es) [] pos) (vCB r ga) := by
  subst hC
  exact se_bif F hk hg ha hs h2
theorem se_namR {x : Str} {p : Pos} {d : Hw.D} {g : Gc} (F : Nam g x d) (hC : C.g = g) (hg : glOk C.sc x = true) : SE C (.Name x p) (vC d) := by
  subst hC
  exact se_nam F hg
theorem se_prpR {o : Expr} {x : Str} {f : Den} {pt : Hw.D → Bool} {S : OL} {g : Gc} {k : Nat} (P : Prp g k x pt S) (hC : C.g = g) (hk : lvOk (k + 1) C.lev = true) (ho : SE C o f) (hb : ∀ env : PySem.Env, attributeBase o x env (eval o env) = eval o env) : SE C (.Attribute o x pos) (vProp pt S f) := by
  subst hC
  exact se_prp P hk ho hb
theorem se_fldR {o : Expr} {x : Str} {f : Den} {g : Gc} (ho : SE C o f) (F : FldOk g x) (hC : C.g = g) (hb : ∀ env : PySem.Env, attributeBase o x env (eval o env) = eval o env) : SE C (.Attribute o x pos) (vFldG g.T x f) := by
  subst hC
  exact se_fldG ho F hb
theorem se_mthR {e o : Expr} {es : List Expr} {kws : List Keyword} {m : Str} {apos : Pos} {f : Den} {gp gk : DenA} {g : Gc} {k n : Nat} {ks : List Str} {S : OK2} {pt : Hw.D → Bool} (pl : PySem.Env → Sem Bool) (hn : (e :: es).length + 1 = n) (hks : ksOf kws = ks) (F : Mth g k m pt n ks S) (hC : C.g = g) (hk : lvOk k C.lev = true) (ho : SE C o f) (hp : SA C (e :: es) gp) (hkw : SK C kws gk) (sh : ∀ env, Shp (e :: es) kws (ksOf kws) pos env) (he : ∀ env : PySem.Env, starEach (e :: es) env = (false, eval e env) :: starEach es env)
    (ms : ∀ env, MShp o m apos (e :: es) kws pos (pl env) env) : SE C (.Call (.Attribute o m apos) (e :: es) kws pos) (vMeth pt n ks.length S f gp gk) := by
  subst hC hn hks
  exact se_mth pl F hk ho hp hkw sh he ms
theorem se_mth0R {o : Expr} {kws : List Keyword} {m : Str} {apos : Pos} {f : Den} {gk : DenA} {g : Gc} {k : Nat} {ks : List Str} {S : OK2} {pt : Hw.D → Bool} (pl : PySem.Env → Sem Bool) (hks : ksOf kws = ks) (F : Mth g k m pt 1 ks S) (hC : C.g = g) (hk : lvOk k C.lev = true) (ho : SE C o f) (hkw : SK C kws gk) (sh : ∀ env, Shp [] kws (ksOf kws) pos env)
    (ms : ∀ env, MShp o m apos [] kws pos (pl env) env) : SE C (.Call (.Attribute o m apos) [] kws pos) (vMeth pt 1 ks.length S f vNil gk) := by
  subst hC hks
  exact se_mth0 pl F hk ho hkw sh ms
theorem se_cmtR {e o : Expr} {es : List Expr} {kws : List Keyword} {m : Str} {apos : Pos} {gp gk : DenA} {g : Gc} {k n c : Nat} {ks : List Str} {S : OK2} (pl : PySem.Env → Sem Bool) (ho : SE C o (vC (.cls c))) (hn : (e :: es).length + 1 = n) (hks : ksOf kws = ks) (F : Cmt g k c m n ks S) (hC : C.g = g) (hk : lvOk k C.lev = true) (hp : SA C (e :: es) gp) (hkw : SK C kws gk) (sh : ∀ env, Shp (e :: es) kws (ksOf kws) pos env) (he : ∀ env : PySem.Env, starEach (e :: es) env = (false, eval e env) :: starEach es env)
    (ms : ∀ env, MShp o m apos (e :: es) kws pos (pl env) env) : SE C (.Call (.Attribute o m apos) (e :: es) kws pos) (vCm c n ks.length S gp gk) := by
  subst hC hn hks
  exact se_cmt pl ho F hk hp hkw sh he ms
theorem se_cmt0R {o : Expr} {kws : List Keyword} {m : Str} {apos : Pos} {gk : DenA} {g : Gc} {k c : Nat} {ks : List Str} {S : OK2} (pl : PySem.Env → Sem Bool) (ho : SE C o (vC (.cls c))) (hks : ksOf kws = ks) (F : Cmt g k c m 1 ks S) (hC : C.g = g) (hk : lvOk k C.lev = true) (hkw : SK C kws gk) (sh : ∀ env, Shp [] kws (ksOf kws) pos env)
    (ms : ∀ env, MShp o m apos [] kws pos (pl env) env) : SE C (.Call (.Attribute o m apos) [] kws pos) (vCm c 1 ks.length S vNil gk) := by
  subst hC hks
  exact se_cmt0 pl ho F hk hkw sh ms
/-- a comprehension, a loop, as the walk sees them -/
structure LcG (g : DenG) (t : DenT) (el : Den) (env : Env) (ws : List W) (B : AH) (Q : WK) : Prop where
  go : lcW B.length g t el env ws (B ++ [.live (.lst [])]) (lcEnd B.length Q)
structure ForG (g : DenG) (t : DenS) (D : Ed) (ws : List W) (env : Env) (A : AH) : Prop where
  go : forW g t D ws env A
def vLcG (fi : DenI) (g : DenG) (t : DenT) (el : Den) (vs : List Nat) : Den := fun env A Q => fi env A fun ws B => LcG g t el (wipeE env vs) ws B Q
def vForG (fi : DenI) (g : DenG) (t : DenS) : DenS := fun D env A => fi env A fun ws B => ForG g t D ws env B
theorem SE.weak {e : Expr} {f f' : Den} (h : SE C e f) (k : ∀ env A Q, f' env A Q ↔ f env A Q) : SE C e f' :=
  ⟨fun env A Q Q' q z => (k _ _ _).mpr (h.mono _ _ _ _ q ((k _ _ _).mp z)), fun X hX => PE.weak (h.run X hX) fun σ H Q z => by
    obtain ⟨env, m, A, er, hr, z⟩ := z
    exact ⟨env, m, A, er, hr, (k _ _ _).mp z⟩⟩
theorem SS.weak {f f' : DenS} (h : SS C st f) (k : ∀ D env A, f' D env A ↔ f D env A) : SS C st f' :=
  ⟨fun D D' env A q z => (k _ _ _).mpr (h.mono _ _ _ _ q ((k _ _ _).mp z)), fun X hX => PS.weak (h.run X hX) fun D σ H z => by
    obtain ⟨env, m, A, er, hr, z⟩ := z
    exact ⟨env, m, A, er, hr, (k _ _ _).mp z⟩⟩
theorem lcG_iff {fi : DenI} {g : DenG} {t : DenT} {el : Den} {vs : List Nat} (hm : MonI fi) (env : Env) (A : AH) (Q : WK) : vLcG fi g t el vs env A Q ↔ vLc fi g t el vs env A Q :=
  ⟨fun z => hm _ _ _ _ (fun _ _ q => q.go) z, fun z => hm _ _ _ _ (fun _ _ q => ⟨q⟩) z⟩
theorem forG_iff {fi : DenI} {g : DenG} {t : DenS} (hm : MonI fi) (D : Ed) (env : Env) (A : AH) : vForG fi g t D env A ↔ vFor fi g t D env A :=
  ⟨fun z => hm _ _ _ _ (fun _ _ q => q.go) z, fun z => hm _ _ _ _ (fun _ _ q => ⟨q⟩) z⟩
theorem se_lcG1 {elt : Expr} {f : Den} {y : Str} {py : Pos} {ifs : List Expr} {scope : Scope} {fi : DenI} (i : Nat) (hi0 : C.N[i]? = some y) (hk : C.sc.kind = .function) (ok : blkC C.N C.sc scope [(y, i)] = true) (hi : SI C (.Name y py) iter fi) (hl : loOk (C.blk scope).sc y = true) (ht : STs (C.blk scope) ifs ft) (he : SE (C.blk scope) elt f)
    (hf : ∀ (env : PySem.Env) x, foldedSetIterable iter env x = pure x) : SE C (.ListComp elt [⟨.Name y py, iter, ifs, 0⟩] scope pos) (vLcG fi (dName i) ft f [i]) := (se_lc1 i hi0 hk ok hi hl ht he hf).weak (lcG_iff hi.mono)
theorem se_lcG2 {elt : Expr} {f : Den} {y z : Str} {py pz pt : Pos} {kt : Nat} {ifs : List Expr} {scope : Scope} {fi : DenI} (i j : Nat) (hi0 : C.N[i]? = some y) (hj0 : C.N[j]? = some z) (hk : C.sc.kind = .function) (ok : blkC C.N C.sc scope [(y, i), (z, j)] = true) (hi : SI C (.Tuple [.Name y py, .Name z pz] kt pt) iter fi) (hl : loOk (C.blk scope).sc y = true) (hl2 : loOk (C.blk scope).sc z = true) (ht : STs (C.blk scope) ifs ft) (he : SE (C.blk scope) elt f)
    (hf : ∀ (env : PySem.Env) x, foldedSetIterable iter env x = pure x) : SE C (.ListComp elt [⟨.Tuple [.Name y py, .Name z pz] kt pt, iter, ifs, 0⟩] scope pos) (vLcG fi (dTup 2 (dCons (dName i) (dCons (dName j) dNil))) ft f [i, j]) := (se_lc2 i j hi0 hj0 hk ok hi hl hl2 ht he hf).weak (lcG_iff hi.mono)
theorem ss_forG {sl : List Nat} {fi : DenI} {g : DenG} (hi : SI C tg iter fi) (hg : SG C tg sl g) (hs : ∀ (env : PySem.Env) x, foldedSetIterable iter env x = pure x) : SS C (.For tg iter xs [] pos) (vForG fi g (WpSs C xs)) := (ss_for hi hg sss_wp hs).weak (forG_iff hi.mono)
theorem ss_forL {sl : List Nat} {fi : DenI} {g : DenG} (hi : SI C tg iter fi) (hg : SG C tg sl g) (hs : ∀ (env : PySem.Env) x, foldedSetIterable iter env x = pure x) : SS C (.For tg iter xs [] pos) (vFor fi g (WpSs C xs)) := ss_for hi hg sss_wp hs
/-- a statement whose ways meet again: they differ by x alone -/
theorem wp_cutE {α : Type} {i : Nat} (P : α → Prop) (F : α → Env → Env) (hi : b[i]? = some st) (h : SS C st s) (k : s { D with nx := fun e B => B = A ∧ ∃ x, P x ∧ e = F x env } env A) (r : ∀ x, P x → WpAt C b (i + 1) D (F x env) A) : WpAt C b i D env A := by
  refine wp_at hi h (h.mono { D with nx := fun e B => B = A ∧ ∃ x, P x ∧ e = F x env } _ _ _ ⟨fun e B z => ?_, fun _ _ z => z, fun _ _ z => z, fun _ _ z => z⟩ k)
  obtain ⟨rfl, x, hx, rfl⟩ := z
  exact r x hx
/-- a test that is never met: nothing changes -/
theorem wp_no {i : Nat} (hi : b[i]? = some (.If c xs [] pos)) (hc : ST C c ft) (k : ft env A fun v B => v = false ∧ B = A) (r : WpAt C b (i + 1) D env A) : WpAt C b i D env A := by
  refine wp_at hi (ss_ifL hc) (hc.mono _ _ _ _ (fun v B z => ?_) k)
  obtain ⟨rfl, rfl⟩ := z
  exact Cif.no (wp_nil r)
theorem wp_yes {i : Nat} (hi : b[i]? = some (.If c xs ys pos)) (hc : ST C c ft) (k : ft env A fun v B => v = true ∧ B = A) (r : WpSs C xs { D with nx := fun e B => WpAt C b (i + 1) D e B } env A) : WpAt C b i D env A := by
  refine wp_at hi (ss_ifL hc) (hc.mono _ _ _ _ (fun v B z => ?_) k)
  obtain ⟨rfl, rfl⟩ := z
  exact Cif.yes r
theorem rk_end {Q : WK} {w : W} (h : Q w A) : (retK Q).rt w A := by rw [retK_eq]; exact h
theorem wp_mon : MonS (WpSs C xs) := sss_wp.mono
theorem fn_bodyW {G : Gc} {x qual : Str} {params : Arguments} {body : List Stmt} {scope : Scope} {dvs : List V} {f : Addr} {fd : FuncData} {N ps : List Str} {k : Nat} {S : OL} (F : FunD G.K x qual params body scope dvs [] f fd) (sc : FnScope N ps scope)
    (hm : MonL S) (h : ∀ ws A Q, ws.length = ps.length → S ws A Q → WpAt ⟨G, N, scope, k, true⟩ body 0 (retD A.length Q) (startE N ws) A) : Fn G (k + 1) f fd ps S := fn_body F sc hm sss_at fun ws A Q hl hS => by rw [← retD_eq]; exact h ws A Q hl hS
theorem fn_bodyKW {G : Gc} {x qual : Str} {params : Arguments} {body : List Stmt} {scope : Scope} {dvs : List V} {f : Addr} {fd : FuncData} {N ps : List Str} {k : Nat} {S : OL} (F : FunD G.K x qual params body scope dvs [] f fd) (sc : FnScope N ps scope)
    (hm : MonL S) (h : ∀ ws A Q, ws.length = ps.length → S ws A Q → WpAt ⟨G, N, scope, k, true⟩ body 0 (retK Q) (startE N ws) A) : Fn G (k + 1) f fd ps S := fn_bodyK F sc hm sss_at fun ws A Q hl hS => by rw [← retK_eq]; exact h ws A Q hl hS
end
/-! ### comprehensions whose values are told one by one -/
/-- P of the lists' elements at the same place -/
def Each {α β : Type} (P : α → β → Prop) : List α → List β → Prop
  | [], [] => True
  | a :: l, b :: r => P a b ∧ Each P l r
  | _, _ => False
theorem Each.mono {α β : Type} {P P' : α → β → Prop} (k : ∀ a b, P a b → P' a b) : ∀ {l : List α} {r : List β}, Each P l r → Each P' l r
  | [], [], _ => trivial
  | a :: l, b :: r, h => ⟨k _ _ h.1, Each.mono k h.2⟩
  | [], _ :: _, h => h.elim
  | _ :: _, [], h => h.elim
theorem Each.len {α β : Type} {P : α → β → Prop} : ∀ {l : List α} {r : List β}, Each P l r → l.length = r.length
  | [], [], _ => rfl
  | a :: l, b :: r, h => by rw [List.length_cons, List.length_cons, Each.len h.2]
  | [], _ :: _, h => h.elim
  | _ :: _, [], h => h.elim
theorem Each.map {α β : Type} {P : α → β → Prop} {f : α → β} : ∀ {l : List α}, (∀ a ∈ l, P a (f a)) → Each P l (l.map f)
  | [], _ => trivial
  | a :: l, h => ⟨h a (List.mem_cons_self ..), Each.map fun b hb => h b (List.mem_cons_of_mem _ hb)⟩
theorem each_nil {α β : Type} {P : α → β → Prop} : Each P [] [] := trivial
theorem each_cons {α β : Type} {P : α → β → Prop} {a : α} {b : β} {l : List α} {r : List β} (h : P a b) (k : Each P l r) : Each P (a :: l) (b :: r) := ⟨h, k⟩
section
variable {n0 : Nat} {g : DenG} {el : Den} {env : Env} {Kn : AH → Prop}
/-- one value of a comprehension: nothing else changes -/
def LcOne (n0 : Nat) (g : DenG) (el : Den) (env : Env) (B0 : AH) (w : W) (d : D) : Prop := ∀ (B : AH) (K : WK), n0 < B.length → (∀ j, j < n0 → B[j]? = B0[j]?) → K (.t d) B → g w env B fun e1 A1 => el e1 A1 K
theorem lc_walk (hg : MonG g) {B0 : AH} : ∀ (ws : List W) (ds acc : List D) (B : AH), Each (LcOne n0 g el env B0) ws ds → (∀ j, j < n0 → B[j]? = B0[j]?) → B[n0]? = some (.live (.lst acc)) → acc.length + ds.length ≤ 400 →
    Kn (B.set n0 (.live (.lst (acc ++ ds)))) → lcW n0 g vYes el env ws B Kn
  | [], [], acc, B, _, hj, hb, hl, hk => by
    have e : B.set n0 (.live (.lst (acc ++ []))) = B := by
      rw [List.append_nil]
      apply List.ext_getElem?; intro j
      by_cases q : n0 = j
      · subst q
        rw [List.getElem?_set_self (List.getElem?_eq_some_iff.mp hb).1, hb]
      · rw [List.getElem?_set_ne q]
    rw [e] at hk
    exact hk
  | w :: ws, d :: ds, acc, B, h, hj, hb, hl, hk => by
    have hlen := (List.getElem?_eq_some_iff.mp hb).1
    rw [List.length_cons] at hl
    refine hg _ _ _ _ _ (fun e1 A1 z => ?_) (h.1 B (fun y A3 => lcPut n0 y A3 fun A4 => lcW n0 g vYes el env ws A4 Kn) hlen hj ?_)
    · show (Cif true (el e1 A1 fun y A3 => lcPut n0 y A3 fun A4 => lcW n0 g vYes el env ws A4 Kn) (lcW n0 g vYes el env ws A1 Kn))
      exact Cif.yes z
    · refine put_lc hb (by omega) ?_
      refine lc_walk hg ws ds (acc ++ [d]) _ h.2 (fun j q => ?_) (get_set hb) (by rw [List.length_append, List.length_singleton]; omega) ?_
      · rw [List.getElem?_set_ne (by omega)]
        exact hj j q
      · rw [List.set_set, List.append_assoc]
        exact hk
  | [], _ :: _, _, _, h, _, _, _, _ => h.elim
  | _ :: _, [], _, _, h, _, _, _, _ => h.elim
theorem lc_each {ws : List W} {ds : List D} {B : AH} {Q : WK} (hg : MonG g) (h : Each (LcOne B.length g el env B) ws ds) (hl : ds.length ≤ 400) (z : Q (.t (.lst ds)) B) : LcG g vYes el env ws B Q := by
  constructor
  refine lc_walk hg ws ds [] _ h (fun j q => List.getElem?_append_left q) get_app (by simpa using hl) ?_
  refine end_lc (l := ds) (by simpa using get_set (c := Cell.live (.lst [])) get_app) (take_eq (fun j q => ?_) (by simp)) z
  rw [List.getElem?_set_ne (by omega), List.getElem?_append_left q]
theorem mon_dName {i : Nat} : MonG (dName i) := fun _ _ _ _ _ k h => k _ _ h
theorem mon_dNil : MonGs dNil := fun _ _ _ _ _ k h => ⟨h.1, k _ _ h.2⟩
theorem mon_dCons {g : DenG} {h : DenGs} (h1 : MonG g) (h2 : MonGs h) : MonGs (dCons g h) := fun ws env A Q Q' k z => by
  cases ws with
  | nil => exact z
  | cons w r => exact h1 _ _ _ _ _ (fun e B z => h2 _ _ _ _ _ k z) z
theorem mon_dTup {n : Nat} {h : DenGs} (h1 : MonGs h) : MonG (dTup n h) := fun w env A Q Q' k z => by
  unfold dTup at z ⊢
  split at z
  · exact ⟨z.1, h1 _ _ _ _ _ k z.2⟩
  · exact z.elim
/-- a loop by what holds ahead of each turn -/
theorem for_inv {t : DenS} {D : Ed} (hg : MonG g) (ht : MonS t) {ws : List W} (I : Nat → Env → AH → Prop) {env : Env} {A : AH} (h0 : I 0 env A)
    (turn : ∀ i w e B, ws[i]? = some w → I i e B → g w e B fun e1 B1 => t (forD D (I (i + 1))) e1 B1) (hz : ∀ e B, I ws.length e B → D.nx e B) : ForG g t D ws env A := by
  constructor
  have go : ∀ (l : List W) (i : Nat) e B, ws.drop i = l → i ≤ ws.length → I i e B → forW g t D l e B := by
    intro l
    induction l with
    | nil =>
      intro i e B hd hi h
      have e1 : ws.length ≤ i := by simpa using hd
      obtain rfl : i = ws.length := by omega
      exact hz _ _ h
    | cons w l ih =>
      intro i e B hd hi h
      have hlt : i < ws.length := by
        have := congrArg List.length hd
        rw [List.length_drop, List.length_cons] at this
        omega
      have e2 := List.drop_eq_getElem_cons hlt
      rw [hd] at e2
      obtain ⟨e3, e4⟩ := List.cons.inj e2
      have ew : ws[i]? = some w := by rw [List.getElem?_eq_getElem hlt, e3]
      refine for_go (hg _ _ _ _ _ (fun e1 B1 z => ?_) (turn i w e B ew h))
      refine ht (forD D (I (i + 1))) (forD D (forW g t D l)) _ _ ⟨fun e5 B5 q => ih (i + 1) e5 B5 e4.symm hlt q, fun _ _ q => q, fun _ _ q => q, fun e5 B5 q => ih (i + 1) e5 B5 e4.symm hlt q⟩ z
  exact go ws 0 env A rfl (Nat.zero_le _) h0
theorem tot_loop0 {D0 : Ed} {a b : Option W} {A : AH} (t : DenS) (stp : ∀ {D1 : Ed} {B : AH} {a b : Option W} (q : Rat) (d : D) (r : Rat), numD d = some r → pSz q r → D1.nx [a, b, some (.t (.rat (q + r))), some (.t d)] B → t D1 [a, b, some (.t (.rat q)), some (.t d)] B) :
    ∀ (l : List D) (q : Rat) (x : Option W), totW q l (fun s => ∀ y, D0.nx [a, b, some (.t (.rat s)), y] A) → forW (dName 3) t D0 (l.map .t) [a, b, some (.t (.rat q)), x] A
  | [], q, x, h => h x
  | d :: l, q, x, h => by
    unfold totW at h
    split at h
    · rename_i r hr
      exact for_go (stp (D1 := forD D0 (forW (dName 3) t D0 (l.map .t))) q d r hr h.1 (tot_loop0 t stp l _ _ h.2))
    · exact h.elim
theorem tot_loop2 {D0 : Ed} {a b : Option W} {A : AH} (t : DenS) (stp : ∀ {D1 : Ed} {B : AH} {a b : Option W} (q : Rat) (d : D) (r : Rat), numD d = some r → pSz q r → D1.nx [a, b, some (.t (.rat (q + r))), some (.t d)] B → t D1 [a, b, some (.t (.rat q)), some (.t d)] B)
    (l : List D) (q : Rat) (x : Option W) (h : totW q l (fun s => ∀ y, D0.nx [a, b, some (.t (.rat s)), y] A)) : ForG (dName 3) t D0 (l.map .t) [a, b, some (.t (.rat q)), x] A := ⟨tot_loop0 t stp l q x h⟩
end
end Hw
namespace Hw
open PySem L2
/-! ### orders and sameness of fractions, by their tops and bottoms -/
theorem mkR_same {a b c d : Int} (hb : b ≠ 0) (hd : d ≠ 0) : mkR a b = mkR c d ↔ a * d = c * b := by
  have h1 := int_ne hb
  have h2 := int_ne hd
  rw [mkR_eq, mkR_eq]
  constructor
  · intro h
    have e : (a : Rat) * (d : Rat) = (c : Rat) * (b : Rat) := by grind
    rw [← Rat.intCast_mul, ← Rat.intCast_mul] at e
    exact Rat.intCast_inj.mp e
  · intro h
    have e : (a : Rat) * (d : Rat) = (c : Rat) * (b : Rat) := by rw [← Rat.intCast_mul, ← Rat.intCast_mul, h]
    grind
def Sg (s y : Int) : Prop := (s = 1 ∧ 0 < y) ∨ (s = -1 ∧ y < 0)
theorem ord4 {a b c d s : Int} (hb : b ≠ 0) (hd : d ≠ 0) (hs : Sg s (b * d)) : decide ((mkR a b - mkR c d).num < 0) = decide (a * d * s < c * b * s) ∧ decide ((mkR a b - mkR c d).num ≤ 0) = decide (a * d * s ≤ c * b * s) ∧ decide (mkR a b = mkR c d) = (a * d * s == c * b * s) := by
  have e := mkR_sub (a := a) (c := c) hb hd
  have n := mk_neg (x := a * d - c * b) (Int.mul_ne_zero hb hd)
  rw [← e] at n
  rw [beq_dec]
  refine ⟨decide_eq_decide.mpr (n.1.trans ?_), decide_eq_decide.mpr (n.2.trans ?_), decide_eq_decide.mpr ((mkR_same hb hd).trans ?_)⟩
  all_goals
    rcases hs with ⟨rfl, h⟩ | ⟨rfl, h⟩
    · simp only [Int.mul_one, if_pos h]
      try omega
    · first | rw [if_neg (by omega)] | skip
      simp only [Int.mul_neg, Int.mul_one]
      omega
theorem ord2 {a b w s : Int} (hb : b ≠ 0) (hs : Sg s b) : decide ((mkR a b - (w : Rat)).num < 0) = decide (a * s < w * (if b < 0 then -b else b)) ∧ decide ((mkR a b - (w : Rat)).num ≤ 0) = decide (a * s ≤ w * (if b < 0 then -b else b)) := by
  have e := mkR_subw (a := a) (w := w) hb
  have n := mk_neg (x := a - w * b) hb
  rw [← e] at n
  refine ⟨decide_eq_decide.mpr (n.1.trans ?_), decide_eq_decide.mpr (n.2.trans ?_)⟩
  all_goals
    rcases hs with ⟨rfl, h⟩ | ⟨rfl, h⟩
    · rw [if_pos h, if_neg (by omega), Int.mul_one]
      omega
    · rw [if_neg (by omega), if_pos h, Int.mul_neg, Int.mul_neg, Int.mul_one]
      omega
theorem sg_cases {y : Int} (h : y ≠ 0) : decide (0 < y) = true ∧ Sg 1 y ∨ decide (0 < y) = false ∧ Sg (-1) y := by
  rcases Int.lt_or_gt_of_ne h with q | q
  · exact .inr ⟨by simp; omega, .inr ⟨rfl, q⟩⟩
  · exact .inl ⟨by simp [q], .inl ⟨rfl, q⟩⟩
theorem mkR_ne {a b : Int} (ha : a ≠ 0) (hb : b ≠ 0) : mkR a b ≠ 0 := by
  have h1 := int_ne hb
  have h2 := int_ne ha
  rw [mkR_eq]
  grind
theorem two_pos_lt : ((0 : Int) : Rat).num.natAbs < 2 ^ 200 := Nat.two_pow_pos 200
theorem two_pos_lt2 : ((0 : Int) : Rat).den < 2 ^ 200 := Nat.lt_of_lt_of_le (by decide : 1 < 2 ^ 1) (two_le (by decide))
theorem nself (x : Str) : (!(x == x)) = false := by simp
theorem sgn_t {q : Rat} {i : Int} {b : Bool} (h : q.num.sign = i) : (!(lText [((toString q.num.sign : String) : Str), blT b] == lText [((toString i : String) : Str), blT b])) = false := by rw [h]; exact nself _
theorem lt_eq {t : List Str} {t' : List Str} (h : t = t') : (!(lText t == lText t')) = false := by rw [h]; simp
end Hw
namespace Hw
open PySem L2 PyProof.Rows
/-! ### the end: from the law's promise to the walk -/
section
variable {P : Program} {w : World} {K : PySem.W.Frag} {mg mb : Str → Option Value} {k : Nat} {fa a : Addr} {fd : FuncData} {x : Str} {s : Shared} {vs : List Value} {ns : List Int}
theorem ints_reps {K : PySem.W.Frag} {T : Tb} {m : List Addr} {A : AH} {H : Hp} : ∀ ns : List Int, Reps K T m A H (ns.map D.int) (ns.map V.int)
  | [] => by simp only [List.map_nil, Reps]
  | n :: ns => by
    simp only [List.map_cons, Reps]
    exact ⟨_, _, rfl, by simp only [Rep], ints_reps ns⟩
/-- what is asked behind the law's call -/
def WellEnded (s s' : Shared) (r : Result) : Prop := r = .ok (.ret (.bool true)) ∧ OldK s.heap s'.heap ∧ s'.os = s.os ∧ AllBare s'.gens
/-- from a heap in which at most the script is told -/
theorem hw_core {H : Hp} (kx : K.In s.heap) (g1 : s.heap.Ns mainGlobals mg) (g2 : s.heap.Ns builtinsNs mb) (g3 : ∀ y : Str, y ≠ "__name__" → mb y = bootBuiltins y) (g4 : s.heap.NoLimit) (g5 : s.gens = #[])
    (ha : s.heap.get? a = some { cls := .type "list", data := .seq vs.toArray }) (hr : Room k callerA) (hl : ns.length ≤ 63)
    (F : ∀ base : Heap, K.In base → base.Ns mainGlobals mg → ∃ T, Run ⟨P, w, K, mg, base, T, true⟩ k fa fd [x] sLaw)
    (hb : ∀ (s : Shared) (u : Value), BindsTo s fd ⟨[u], []⟩ [(x, u)]) (hO : Only H)
    (hS : (Rd H a (.lst (ns.map V.int))) ∨ ∀ H', SqL K H' a (ns.map V.int)) (hok : HOk P w H s.heap) (hA : ∀ b, H b ≠ none → b = a) (hK : H a ≠ none → K.lookup a = none) :
    codeAny (model P w) callerA (.call (.ref fa) ⟨[.ref a], []⟩) (fun r s' => WellEnded s s' r) s := by
  have tracked : ∀ {b : Addr}, H b ≠ none → b = a := fun {b} h => hA b h
  have dictNot : ∀ {b : Addr} {o : Obj} {es : Array DictEntry} {ep : Nat}, s.heap.get? b = some o → o.data = .dict es ep → H b = none := by
    intro b o es ep e d
    by_cases q : H b = none
    · exact q
    · obtain rfl := tracked q
      rw [ha] at e
      cases e
      exact nomatch d
  have carry : ∀ {b : Addr} {mm : Str → Option Value}, s.heap.Ns b mm → (hidT s.heap H).Ns b mm := by
    rintro b mm ⟨o, es, ep, e, d, r⟩
    exact ⟨o, es, ep, hidT_get e (dictNot e d), d, r⟩
  have kb : K.In (hidT s.heap H) := by
    intro b o e
    refine hidT_get (kx b o e) ?_
    by_cases q : H b = none
    · exact q
    · have := tracked q
      subst this
      rw [hK q] at e
      cases e
  obtain ⟨mc, l1, l2⟩ := g4
  obtain ⟨T, R⟩ := F _ kb (carry g1)
  have E0 : Env0 P w K mg (hidT s.heap H) callerA [] s H := {
    frames := rfl
    mod := ⟨kb, carry g1, ⟨mb, carry g2, g3⟩, ⟨mc, carry l1, l2⟩⟩
    bs := fun b o e => of_hidT e
    bsz := Nat.le_of_eq (hidT_size _ _)
    funs := trivial
    frf := fun b hb => absurd (show b ∈ ([] : List Addr) from hb) (by simp)
    hok := hok
    bare := .of_eq g5 }
  have start : tRL K T sLaw [.ref a] H (fun v _ => v = .bl true) := by
    refine ⟨[], [], [.t (.lst (ns.map D.int))], ⟨rfl, List.nodup_nil, fun _ h => (nomatch h), fun i a c h => by simp at h⟩, ⟨_, _, rfl, ?_, rfl⟩, ?_⟩
    · simp only [RepW, Rep]
      refine ⟨a, _, rfl, ?_, ints_reps ns⟩
      rcases hS with h | h
      · exact .inl ⟨h, fun i h => by simp at h⟩
      · exact .inr h
    · refine ⟨⟨ns, rfl, hl⟩, fun v m' H' _ _ r => ?_⟩
      simpa only [RepW, Rep] using r
  refine codeAny_mono (R callerA [] s H ⟨[.ref a], []⟩ [.ref a] [.ref a] _ hr (fun _ => rfl) E0 (hb s (.ref a)) (.cons rfl .nil) rfl start) ?_
  rintro (e | fl) s' h
  · exact h.elim
  · cases fl with
    | ret u =>
      obtain ⟨v, H', os, bare, un, hok', rv, rfl⟩ := h
      obtain rfl : u = Value.bool true := rv
      refine ⟨rfl, OldK.of_keep (fun b o e => ?_), os, bare⟩
      rcases hO b with q | ⟨ob, xs, q⟩
      · exact un.keep b o e q (fun z => nomatch (show b ∈ ([] : List Addr) from z)) (by simp)
      · obtain ⟨e1, _⟩ := hok b _ q
        obtain ⟨e2, _⟩ := hok' b _ (un.frzs b ob _ q)
        rw [e] at e1
        cases e1
        exact e2
    | next => exact h.elim
    | brk => exact h.elim
    | cont => exact h.elim
theorem hw_call (kx : K.In s.heap) (g1 : s.heap.Ns mainGlobals mg) (g2 : s.heap.Ns builtinsNs mb) (g3 : ∀ y : Str, y ≠ "__name__" → mb y = bootBuiltins y) (g4 : s.heap.NoLimit) (g5 : s.gens = #[])
    (ha : s.heap.get? a = some { cls := .type "list", data := .seq vs.toArray }) (hi : IntsAre vs ns) (hr : Room k callerA) (hl : ns.length ≤ 63)
    (F : ∀ base : Heap, K.In base → base.Ns mainGlobals mg → ∃ T, Run ⟨P, w, K, mg, base, T, true⟩ k fa fd [x] sLaw)
    (hb : ∀ (s : Shared) (u : Value), BindsTo s fd ⟨[u], []⟩ [(x, u)]) : codeAny (model P w) callerA (.call (.ref fa) ⟨[.ref a], []⟩) (fun r s' => WellEnded s s' r) s := by
  have rv := vals_ints hi
  have z : ns.length ≤ sizeLine := Nat.le_trans hl (by rw [sizeLine_eq]; decide)
  have zv := hi.length
  cases q : K.lookup a with
  | none =>
    refine hw_core kx g1 g2 g3 g4 g5 ha hr hl F hb (H := fun b => if b = a then some (.frz { cls := .type "list", data := .seq vs.toArray } (.lst (ns.map V.int))) else none) ?_ (.inl (.inr ⟨_, if_pos rfl⟩)) ?_ ?_ fun _ => q
    · intro b
      by_cases e : b = a
      · exact .inr ⟨_, _, if_pos e⟩
      · exact .inl (if_neg e)
    · intro b u e
      by_cases h : b = a
      · have e := (if_pos h).symm.trans e
        cases e
        subst h
        refine ⟨ha, ?_, vs, _, rv, ha⟩
        rw [List.length_map]
        exact z
      · have e := (if_neg h).symm.trans e
        cases e
    · intro b e
      by_cases h : b = a
      · exact h
      · exact absurd (if_neg h) e
  | some o =>
    have e := kx a o q
    rw [ha] at e
    cases e
    refine hw_core kx g1 g2 g3 g4 g5 ha hr hl F hb (H := fun _ => none) (fun _ => .inl rfl) (.inr fun H' => .inr ⟨_, vs.toArray, _, q, rfl, rfl, rfl, ?_, by simpa using rv⟩) (fun b u e => nomatch e) (fun b e => absurd rfl e) fun e => absurd rfl e
    rw [List.size_toArray]
    omega
end
theorem hw_walk {l : PySem.W.OpenLaw} {k : Nat} {q : Program} {loose : List Str} {XP : (Str → Option Value) → Heap → Prop} {YP : World → Heap → Prop} {d : DefRec} {K : Params → PySem.W.Frag} {x : Str}
    (hn : l.most = some 63) (hdf : d.params.defaults = []) (hr : Room k callerA) (hY : ∀ (w : World) (h : Heap), YP w h → (K w.params).In h)
    (F : ∀ (w : World) (mg : Str → Option Value) (fa : Addr) (h : Heap),
      (K w.params).In h → h.Ns mainGlobals mg → mg d.name = some (.ref fa) →
      ∃ fd : FuncData, (∀ (s : Shared) (u : Value), BindsTo s fd ⟨[u], []⟩ [(x, u)]) ∧ ∀ base : Heap, (K w.params).In base → base.Ns mainGlobals mg → ∃ T, Run ⟨l.prog, w, K w.params, mg, base, T, true⟩ k fa fd [x] sLaw) :
    PySem.W.WalkO q loose XP YP l.row.toRowW d []
      (fun f vs => PySem.call f vs) := by
  refine Att.attach_call hn hdf ?_
  intro w s₀ s₁ mg mb fa o pm cd doc a vs ns G Y ho hd hcd hmg hobj hints hlen hg
  have kx := hY w _ Y
  obtain ⟨fd, hb, R⟩ := F w mg fa _ kx G.T.g hmg
  exact hw_call kx G.T.g G.T.b G.T.builtins G.T.nolimit hg hobj hints hr hlen R hb
end Hw
namespace Hw
open PySem L2
section
variable {G : Gc} {k n : Nat} {f : Addr} {fd : FuncData} {ps ks : List Str} {S : OL} {l : List Src} {u : Value}
theorem Cal.weakL {S S' : OK2} (F : Cal G k u n ks S) (hm : MonK S') (h : ∀ xs ys A Q, xs.length = n → ys.length = ks.length → S' xs ys A Q → S xs ys A Q) : Cal G k u n ks S' :=
  ⟨hm, F.kp, fun X hX pins s σ H us ws vs zs Q m A xs ys I r1 r2 hr q1 q2 e1 e2 hs => F.run X hX pins s σ H us ws vs zs Q m A xs ys I r1 r2 hr q1 q2 e1 e2 (h _ _ _ _ e1 e2 hs)⟩
theorem cal_p (F : Fn G k f fd ps S) (B : Bd G fd ps n [] [] l) (hl : ps.length = n) (ha : ∀ xs : List W, xs.length = n → arr xs [] [] l = xs) : Cal G k (.ref f) n [] (posK S) := by
  refine (cal_fn F B fun xs ys h1 h2 => ?_).weakL (fun xs ys A Q Q' h z => F.mono _ _ _ _ h z) fun xs ys A Q h1 h2 z => ?_
  · obtain rfl : ys = [] := List.length_eq_zero_iff.mp h2
    rw [ha xs h1, h1, hl]
  · obtain rfl : ys = [] := List.length_eq_zero_iff.mp h2
    rw [ha xs h1]
    exact z
theorem cal_k (F : Fn G k f fd ps S) (B : Bd G fd ps n ks [] l) (hl : ps.length = n + ks.length) (ha : ∀ xs ys : List W, xs.length = n → ys.length = ks.length → arr xs ys [] l = xs ++ ys) : Cal G k (.ref f) n ks (fun xs ys => S (xs ++ ys)) := by
  refine (cal_fn F B fun xs ys h1 h2 => ?_).weakL (fun xs ys A Q Q' h z => F.mono _ _ _ _ h z) fun xs ys A Q h1 h2 z => ?_
  · rw [ha xs ys h1 h2, List.length_append, h1, h2, hl]
  · rw [ha xs ys h1 h2]
    exact z
theorem cal_k0 (F : Fn G k f fd ps S) (B : Bd G fd ps 0 ks [] l) (hl : ps.length = ks.length) (ha : ∀ ys : List W, ys.length = ks.length → arr [] ys [] l = ys) : Cal G k (.ref f) 0 ks (fun _ ys => S ys) := by
  refine (cal_fn F B fun xs ys h1 h2 => ?_).weakL (fun xs ys A Q Q' h z => F.mono _ _ _ _ h z) fun xs ys A Q h1 h2 z => ?_
  · obtain rfl : xs = [] := List.length_eq_zero_iff.mp h1
    rw [ha ys h2, h2, hl]
  · obtain rfl : xs = [] := List.length_eq_zero_iff.mp h1
    rw [ha ys h2]
    exact z
theorem ak0 : ∀ ys : List W, ys.length = 1 → arr [] ys [] [.k 0] = ys := fun ys h => by
  match ys, h with
  | [a], _ => rfl
theorem kit_rt {K : PySem.W.Frag} {C : Addr} {n : String} (h : PySem.W.kitMeta n = true) (s : PySem.W.subIn K (.ref C) (.type n) = some false) : PySem.W.kitOne K (.ref C) (.type n) = some false := by
  unfold PySem.W.kitOne PySem.W.kitCls
  rw [if_neg (by simp)]
  show (if PySem.W.kitMeta n = true then _ else _) = _
  rw [if_pos h, s]
theorem kit_tr {K : PySem.W.Frag} {C : Addr} {n : String} (h1 : PySem.W.isClsIn K C = true) (h2 : PySem.W.typeIn K (.ref C) = some (.type "type")) (s : PySem.W.subIn K (.type n) (.ref C) = some false) : PySem.W.kitOne K (.type n) (.ref C) = some false := by
  unfold PySem.W.kitOne PySem.W.kitCls
  rw [if_neg (by simp)]
  show (if ((PySem.W.clsIn K C).isSome && PySem.W.typeIn K (.ref C) == some (.type "type")) = true then _ else _) = _
  have h3 : (PySem.W.clsIn K C).isSome = true := h1
  rw [h2, h3, if_pos (by simp), s]
theorem kit_rr {K : PySem.W.Frag} {C : Addr} : PySem.W.kitOne K (.ref C) (.ref C) = some true := by
  unfold PySem.W.kitOne
  rw [if_pos (by simp)]
theorem kit_r2 {K : PySem.W.Frag} {C C' : Addr} (hc : C ≠ C') (h1 : PySem.W.isClsIn K C' = true) (h2 : PySem.W.typeIn K (.ref C') = some (.type "type")) (s : PySem.W.subIn K (.ref C) (.ref C') = some false) : PySem.W.kitOne K (.ref C) (.ref C') = some false := by
  unfold PySem.W.kitOne PySem.W.kitCls
  rw [if_neg (by simpa using hc)]
  show (if ((PySem.W.clsIn K C').isSome && PySem.W.typeIn K (.ref C') == some (.type "type")) = true then _ else _) = _
  have h3 : (PySem.W.clsIn K C').isSome = true := h1
  rw [h2, h3, if_pos (by simp), s]
theorem len0 {α : Type} {l : List α} (h : l.length = 0) : l = [] := List.length_eq_zero_iff.mp h
theorem len1 {α : Type} {l : List α} (h : l.length = 1) : ∃ a, l = [a] := by
  match l, h with
  | [a], _ => exact ⟨a, rfl⟩
theorem len2 {α : Type} {l : List α} (h : l.length = 2) : ∃ a b, l = [a, b] := by
  match l, h with
  | [a, b], _ => exact ⟨a, b, rfl⟩
theorem len3 {α : Type} {l : List α} (h : l.length = 3) : ∃ a b c, l = [a, b, c] := by
  match l, h with
  | [a, b, c], _ => exact ⟨a, b, c, rfl⟩
theorem ar0 : ∀ xs : List W, xs.length = 0 → arr xs [] [] [] = xs := fun xs h => by rw [len0 h]; rfl
theorem ar1 : ∀ xs : List W, xs.length = 1 → arr xs [] [] [.p 0] = xs := fun xs h => by obtain ⟨a, rfl⟩ := len1 h; rfl
theorem ar2 : ∀ xs : List W, xs.length = 2 → arr xs [] [] [.p 0, .p 1] = xs := fun xs h => by obtain ⟨a, b, rfl⟩ := len2 h; rfl
theorem ar3 : ∀ xs : List W, xs.length = 3 → arr xs [] [] [.p 0, .p 1, .p 2] = xs := fun xs h => by obtain ⟨a, b, c, rfl⟩ := len3 h; rfl
theorem ak01 : ∀ xs ys : List W, xs.length = 0 → ys.length = 1 → arr xs ys [] [.k 0] = xs ++ ys := fun xs ys h h2 => by obtain ⟨a, rfl⟩ := len1 h2; rw [len0 h]; rfl
theorem ak11 : ∀ xs ys : List W, xs.length = 1 → ys.length = 1 → arr xs ys [] [.p 0, .k 0] = xs ++ ys := fun xs ys h h2 => by obtain ⟨a, rfl⟩ := len1 h2; obtain ⟨b, rfl⟩ := len1 h; rfl
theorem ins_rat {m : Str} (cl : Cls G.K (G.T.at_ 0)) (h1 : (m == ("_top" : Str)) = false) (h2 : (m == ("_bottom" : Str)) = false) : Ins G isRat (G.T.at_ 0) m := by
  refine ⟨cl, fun d mm A H v hd r => ?_⟩
  cases d <;> first | exact Bool.noConfusion hd | skip
  simp only [Rep] at r
  obtain ⟨a, dx, rfl, h, _⟩ := r
  refine ⟨a, dx, _, rfl, h, ?_⟩
  unfold ratF
  simp [List.lookup, h1, h2]
theorem str_rat {nm : Str} (at_ : PySem.W.findIn G.K (.ref (G.T.at_ 0)) nm = some (some (.ref f))) (fn : PySem.W.isFn G.K (.ref f) = true) : OwnStr G isRat nm f (G.T.at_ 0) := by
  refine ⟨at_, fn, fun d mm A H v hd r => ?_⟩
  cases d <;> first | exact Bool.noConfusion hd | skip
  simp only [Rep] at r
  obtain ⟨a, dx, rfl, h, _⟩ := r
  exact ⟨a, dx, _, rfl, h⟩
theorem bif_b {x : Str} {id : String} {r : OL} (h : G.mg x = none) (hb : bootBuiltins x = some (.builtin id)) (s : SOL G k (.builtin id) r) : Bif G k x r := ⟨.inl ⟨id, h, hb, s⟩⟩
theorem bif_t {x : Str} {Ty : String} {r : OL} (h : G.mg x = none) (hb : bootBuiltins x = some (.type Ty)) (s : SOL G k (.type Ty) r) : Bif G k x r := ⟨.inr (.inr ⟨Ty, h, hb, s⟩)⟩
theorem bif_m {x : Str} {id : String} {r : OL} (h : G.mg x = some (.builtin id)) (s : SOL G k (.builtin id) r) : Bif G k x r := ⟨.inr (.inl ⟨id, h, s⟩)⟩
theorem nam_t {x : Str} {Ty : String} (h : G.mg x = none) (hb : bootBuiltins x = some (.type Ty)) : Nam G x (.ty Ty) := ⟨.inr ⟨Ty, h, hb, rfl⟩⟩
theorem nam_c {x : Str} {c : Nat} (h : G.mg x = some (.ref (G.T.at_ c))) : Nam G x (.cls c) := ⟨.inl ⟨c, h, rfl⟩⟩
theorem so_eqNT {nc : Nat} (h0 : 0 < nc) (O : OwnEq G 0 nc f) (cal : Cal G k (.ref f) 2 [] (posK (sEqR nc))) : SO2 G k (compareOp .Eq) (eqNT nc) := (so_eqN h0 O cal).of eqNT_iff
theorem so_neNT {nc : Nat} (h0 : 0 < nc) (O : OwnEq G 0 nc f) (cal : Cal G k (.ref f) 2 [] (posK (sEqR nc))) : SO2 G (k + 2) (compareOp .NotEq) (neNT nc) := (so_neN h0 O cal).of neNT_iff
end
end Hw
namespace Hw
open PySem L2 PyProof.Rows SeqAt
open SeqRoads2 MeetsSeq MeetsSeq2 MeetsSeq3
open AutoSeq1 (wpAny_loadPart')   -- the objects' parts
/-! ### == item by item, where an item's own == may make things: what P says of the state goes on -/
section
variable {prog : Program} {w : World} {P : Shared → Prop} {l b : Addr} {items items2 : Array Value} {n n2 : Nat} {dd dd2 : Option Addr} {sl sl2 : Array (Option Value)} {e : Nat → Bool}
def EqEv (prog : Program) (w : World) (A : Around) (P : Shared → Prop) (y x : Value) (k : Bool) : Prop :=
  ∀ (E : Value → Shared → Prop) (Q : Bool → Shared → Prop) (s : Shared), P s → (∀ s', P s' → Q k s') → wpAny (model prog w) A (eqBool y x) Q E s
/-- the two lists stand wherever P holds; what stands in them is told by Pr -/
def LBoth (P : Shared → Prop) (l b : Addr) (N N2 : Nat) (Pr : Nat → Value → Value → Prop) : Prop :=
  ∀ s, P s → ∃ (items items2 : Array Value) (n n2 : Nat) (dd dd2 : Option Addr) (sl sl2 : Array (Option Value)), s.heap.get? l = some { cls := .type "list", dict := dd, data := .seq items n, slots := sl } ∧ s.heap.get? b = some { cls := .type "list", dict := dd2, data := .seq items2 n2, slots := sl2 } ∧
    items.size = N ∧ items2.size = N2 ∧ ∀ j (h1 : j < items.size) (h2 : j < items2.size), Pr j items[j] items2[j]
def LPairs (prog : Program) (w : World) (A : Around) (P : Shared → Prop) (Pr : Nat → Value → Value → Prop) (e : Nat → Bool) : Prop := ∀ j y x, Pr j y x → EqEv prog w A P y x (e j)
def Pairs (prog : Program) (w : World) (A : Around) (P : Shared → Prop) (items items2 : Array Value) (e : Nat → Bool) : Prop :=
  ∀ j (h1 : j < items.size) (h2 : j < items2.size), EqEv prog w A P items[j] items2[j] (e j)
def tupRes (items items2 : Array Value) (e : Nat → Bool) : Bool := (List.range (min items.size items2.size)).all e && items.size == items2.size
theorem zip_front {xs ys : Array Value} {i : Nat} {y x : Value} {rest : List (Value × Value)} (h : (y, x) :: rest = (xs.toList.zip ys.toList).drop i) : ∃ (h1 : i < xs.size) (h2 : i < ys.size), y = xs[i] ∧ x = ys[i] ∧ rest = (xs.toList.zip ys.toList).drop (i + 1) := by
  have front : (xs.toList.zip ys.toList)[i]? = some (y, x) := by
    have z := congrArg List.head? h
    rw [List.head?_drop] at z
    exact z.symm
  obtain ⟨f1, f2⟩ := List.getElem?_zip_eq_some.mp front
  rw [Array.getElem?_toList, Array.getElem?_eq_some_iff] at f1 f2
  obtain ⟨h1, e1⟩ := f1
  obtain ⟨h2, e2⟩ := f2
  have more := congrArg List.tail h
  rw [List.tail_drop] at more
  exact ⟨h1, h2, e1.symm, e2.symm, more⟩
theorem zip_back {xs ys : Array Value} {i : Nat} (h : [] = (xs.toList.zip ys.toList).drop i) : min xs.size ys.size ≤ i := by
  have z := List.drop_eq_nil_iff.mp h.symm
  rw [List.length_zip, Array.length_toList, Array.length_toList] at z
  exact z
theorem all_from {m i : Nat} (h : i < m) : ((List.range m).drop i).all e = (e i && ((List.range m).drop (i + 1)).all e) := by
  have z : (List.range m).drop i = (List.range m)[i]'(by simpa using h) :: (List.range m).drop (i + 1) := List.drop_eq_getElem_cons _
  rw [z, List.getElem_range, List.all_cons]
theorem all_gone {m i : Nat} (h : m ≤ i) : ((List.range m).drop i).all e = true := by
  rw [List.drop_of_length_le (by rw [List.length_range]; exact h)]
  rfl
theorem ev_tup_eq : MeetsIn prog w (Builtin.«tuple.__eq__» ⟨[.ref l, .ref b], []⟩)
    (fun A R s => P s ∧ (s.heap.get? l = some { cls := .type "tuple", dict := dd, data := .seq items n, slots := sl } ∧ s.heap.get? b = some { cls := .type "tuple", dict := dd2, data := .seq items2 n2, slots := sl2 }) ∧ Pairs prog w A.in1 P items items2 e ∧ ∀ s', P s' → R (.ok (.ret (.bool (tupRes items items2 e)))) s') := by
  rintro A R ⟨hp, gs, dr, tk, os⟩ ⟨p0, ⟨at1, at2⟩, pair, due0⟩
  have sub := PyProof.Rows.sub_tuple_tuple
  wp_walk using wpAny_loadPart' at1, wpAny_loadPart' at2, wpAny_forIn_list _ (fun rest c s1 => c.1 = none ∧ P s1 ∧ ∃ i, rest = (items.toList.zip items2.toList).drop i ∧
    ∀ s2, P s2 → R (.ok (.ret (.bool (((List.range (min items.size items2.size)).drop i).all e && items.size == items2.size)))) s2) _
  case turn =>
    rintro ⟨y, x⟩ rest c s1 ⟨hc, p1, i, here, due⟩
    obtain ⟨h1, h2, rfl, rfl, more⟩ := zip_front here
    rw [all_from (Nat.lt_min.mpr ⟨h1, h2⟩)] at due
    refine wpAny_bind (pair i h1 h2 _ _ s1 p1 fun s2 p2 => ?_)
    cases q : e i with
    | true =>
      simp only [q, Bool.true_and] at due
      wp_walk
      exact ⟨rfl, p2, i + 1, more, due⟩
    | false =>
      simp only [q, Bool.false_and] at due
      wp_walk
      exact due s2 p2
  case fin =>
    rintro ⟨none_yet, b2⟩ s1 ⟨hc, p1, i, here, due⟩
    obtain rfl : none_yet = none := hc
    rw [all_gone (zip_back here), Bool.true_and] at due
    wp_walk
    simpa only [Builtin.Tuple.tupleCompareSizes] using due s1 p1
  case h =>
    refine ⟨rfl, p0, 0, rfl, ?_⟩
    rw [List.drop_zero]
    exact due0
theorem ev_tup_ne : MeetsIn prog w (Builtin.«tuple.__ne__» ⟨[.ref l, .ref b], []⟩)
    (fun A R s => P s ∧ (s.heap.get? l = some { cls := .type "tuple", dict := dd, data := .seq items n, slots := sl } ∧ s.heap.get? b = some { cls := .type "tuple", dict := dd2, data := .seq items2 n2, slots := sl2 }) ∧ Pairs prog w A.in1 P items items2 e ∧ ∀ s', P s' → R (.ok (.ret (.bool (!tupRes items items2 e)))) s') := by
  rintro A R ⟨hp, gs, dr, tk, os⟩ ⟨p0, ⟨at1, at2⟩, pair, due0⟩
  have sub := PyProof.Rows.sub_tuple_tuple
  wp_walk using wpAny_loadPart' at1, wpAny_loadPart' at2, wpAny_forIn_list _ (fun rest c s1 => c.1 = none ∧ P s1 ∧ ∃ i, rest = (items.toList.zip items2.toList).drop i ∧
    ∀ s2, P s2 → R (.ok (.ret (.bool (!(((List.range (min items.size items2.size)).drop i).all e && items.size == items2.size))))) s2) _
  case turn =>
    rintro ⟨y, x⟩ rest c s1 ⟨hc, p1, i, here, due⟩
    obtain ⟨h1, h2, rfl, rfl, more⟩ := zip_front here
    rw [all_from (Nat.lt_min.mpr ⟨h1, h2⟩)] at due
    refine wpAny_bind (pair i h1 h2 _ _ s1 p1 fun s2 p2 => ?_)
    cases q : e i with
    | true =>
      simp only [q, Bool.true_and] at due
      wp_walk
      exact ⟨rfl, p2, i + 1, more, due⟩
    | false =>
      simp only [q, Bool.false_and, Bool.not_false] at due
      wp_walk
      exact due s2 p2
  case fin =>
    rintro ⟨none_yet, b2⟩ s1 ⟨hc, p1, i, here, due⟩
    obtain rfl : none_yet = none := hc
    rw [all_gone (zip_back here), Bool.true_and] at due
    wp_walk
    simpa [Builtin.Tuple.tupleCompareSizes, bne] using due s1 p1
  case h =>
    refine ⟨rfl, p0, 0, rfl, ?_⟩
    rw [List.drop_zero]
    exact due0
variable {N N2 : Nat} {Pr : Nat → Value → Value → Prop}
def lstRes (N N2 : Nat) (e : Nat → Bool) : Bool := N == N2 && (List.range N).all e
theorem arr_in {xs : Array Value} {i : Nat} (h : i < xs.size) : xs[((i : Nat) : Int).toNat]? = some xs[i] := by
  rw [Int.toNat_natCast]; exact Array.getElem?_eq_getElem h
theorem arr_out {xs : Array Value} {i : Nat} (h : xs.size ≤ i) : xs[((i : Nat) : Int).toNat]? = none := by
  rw [Int.toNat_natCast]; exact Array.getElem?_eq_none h
/-- the lists' loop, its i-th turn and all behind it: f what is told of the truth (== as it is, != turned about), k the word for it -/
theorem ev_lst_loop (hP : LBoth P l b N N2 Pr) (hsz : N = N2) (left : Nat) :
    ∀ i : Nat, i + left = N → MeetsIn prog w (Builtin.«list.__eq__.loop» ⟨[.ref l, .ref b, rawInt i, rawInt 2], []⟩)
      (fun A R s => P s ∧ LPairs prog w A.in1 P Pr e ∧ ∀ s', P s' → R (.ok (.ret (.bool (((List.range N).drop i).all e)))) s') := by
  induction left with
  | zero =>
    rintro i at_end A R s ⟨p0, pair, due⟩
    obtain ⟨xs, ys, n, n2, d1, d2, t1, t2, at1, at2, z1, z2, pr⟩ := hP s p0
    rw [all_gone (by omega)] at due
    have due := due s p0
    obtain ⟨hp, gs, dr, tk, os⟩ := s
    wp_walk using wpAny_loadPart' at1, wpAny_loadPart' at2
    rw [arr_out (xs := xs) (by omega), arr_out (xs := ys) (by omega)]
    wp_walk using wpAny_loadPart' at1, wpAny_loadPart' at2
    have even : xs.size = ys.size := by omega
    rw [even]
    show R (.ok (.ret (.bool (ys.size == ys.size)))) _
    rw [beq_self_eq_true]
    exact due
  | succ left ih =>
    rintro i at_ A R s ⟨p0, pair, due⟩
    obtain ⟨xs, ys, n, n2, d1, d2, t1, t2, at1, at2, z1, z2, pr⟩ := hP s p0
    have in1 : i < xs.size := by omega
    have in2 : i < ys.size := by omega
    rw [all_from (by omega)] at due
    obtain ⟨hp, gs, dr, tk, os⟩ := s
    wp_walk using wpAny_loadPart' at1, wpAny_loadPart' at2
    rw [arr_in in1, arr_in in2]
    refine wpAny_bind (pair i _ _ (pr i in1 in2) _ _ _ p0 fun s2 p2 => ?_)
    cases q : e i with
    | true =>
      simp only [q, Bool.true_and] at due
      wp_walk
      refine ⟨plainId_quiet plain_eq_loop _, codeAny_builtin entry_eq_loop ?_⟩
      rw [Around.under_plainId plain_eq_loop]
      exact ih (i + 1) (by omega) A R _ ⟨p2, pair, due⟩
    | false =>
      obtain ⟨xs', ys', n', n2', d1', d2', t1', t2', at1', at2', z1', z2', _⟩ := hP s2 p2
      simp only [q, Bool.false_and] at due
      have due := due s2 p2
      obtain ⟨hp, gs, dr, tk, os⟩ := s2
      wp_walk using wpAny_loadPart' at1', wpAny_loadPart' at2'
      rw [arr_in (xs := xs') (by omega), arr_in (xs := ys') (by omega)]
      wp_walk
      exact due
theorem ev_lst_eq (hP : LBoth P l b N N2 Pr) : MeetsIn prog w (Builtin.«list.__eq__» ⟨[.ref l, .ref b], []⟩)
    (fun A R s => P s ∧ (N = N2 → LPairs prog w A.in1 P Pr e) ∧ ∀ s', P s' → R (.ok (.ret (.bool (lstRes N N2 e)))) s') := by
  rintro A R s ⟨p0, pair, due⟩
  obtain ⟨xs, ys, n, n2, d1, d2, t1, t2, at1, at2, z1, z2, pr⟩ := hP s p0
  have sub := PyProof.Rows.sub_list_list
  rcases Nat.decEq N N2 with hsz | hsz
  · have other : (xs.size != ys.size) = true := by simp [z1, z2, hsz]
    have due := due s p0
    obtain ⟨hp, gs, dr, tk, os⟩ := s
    wp_walk using wpAny_loadPart' at1, wpAny_loadPart' at2
    have no : lstRes N N2 e = false := by unfold lstRes; rw [beq_eq_false_iff_ne.mpr hsz, Bool.false_and]
    rw [no] at due
    exact due
  · have other : ¬ (xs.size != ys.size) = true := by simp [z1, z2, hsz]
    obtain ⟨hp, gs, dr, tk, os⟩ := s
    wp_walk using wpAny_loadPart' at1, wpAny_loadPart' at2
    refine ⟨plainId_quiet plain_eq_loop _, codeAny_builtin entry_eq_loop ?_⟩
    rw [Around.under_plainId plain_eq_loop]
    refine ev_lst_loop hP hsz N 0 (Nat.zero_add _) A R _ ⟨p0, pair hsz, fun s1 p1 => ?_⟩
    have z := due s1 p1
    unfold lstRes at z
    rw [beq_iff_eq.mpr hsz, Bool.true_and] at z
    exact z
theorem ev_lst_loopN (hP : LBoth P l b N N2 Pr) (hsz : N = N2) (left : Nat) :
    ∀ i : Nat, i + left = N → MeetsIn prog w (Builtin.«list.__eq__.loop» ⟨[.ref l, .ref b, rawInt i, rawInt 3], []⟩)
      (fun A R s => P s ∧ LPairs prog w A.in1 P Pr e ∧ ∀ s', P s' → R (.ok (.ret (.bool (!((List.range N).drop i).all e)))) s') := by
  induction left with
  | zero =>
    rintro i at_end A R s ⟨p0, pair, due⟩
    obtain ⟨xs, ys, n, n2, d1, d2, t1, t2, at1, at2, z1, z2, pr⟩ := hP s p0
    rw [all_gone (by omega)] at due
    have due := due s p0
    obtain ⟨hp, gs, dr, tk, os⟩ := s
    wp_walk using wpAny_loadPart' at1, wpAny_loadPart' at2
    rw [arr_out (xs := xs) (by omega), arr_out (xs := ys) (by omega)]
    wp_walk using wpAny_loadPart' at1, wpAny_loadPart' at2
    have even : xs.size = ys.size := by omega
    rw [even]
    show R (.ok (.ret (.bool (ys.size != ys.size)))) _
    simpa using due
  | succ left ih =>
    rintro i at_ A R s ⟨p0, pair, due⟩
    obtain ⟨xs, ys, n, n2, d1, d2, t1, t2, at1, at2, z1, z2, pr⟩ := hP s p0
    have in1 : i < xs.size := by omega
    have in2 : i < ys.size := by omega
    rw [all_from (by omega)] at due
    obtain ⟨hp, gs, dr, tk, os⟩ := s
    wp_walk using wpAny_loadPart' at1, wpAny_loadPart' at2
    rw [arr_in in1, arr_in in2]
    refine wpAny_bind (pair i _ _ (pr i in1 in2) _ _ _ p0 fun s2 p2 => ?_)
    cases q : e i with
    | true =>
      simp only [q, Bool.true_and] at due
      wp_walk
      refine ⟨plainId_quiet plain_eq_loop _, codeAny_builtin entry_eq_loop ?_⟩
      rw [Around.under_plainId plain_eq_loop]
      exact ih (i + 1) (by omega) A R _ ⟨p2, pair, due⟩
    | false =>
      obtain ⟨xs', ys', n', n2', d1', d2', t1', t2', at1', at2', z1', z2', _⟩ := hP s2 p2
      simp only [q, Bool.false_and, Bool.not_false] at due
      have due := due s2 p2
      obtain ⟨hp, gs, dr, tk, os⟩ := s2
      wp_walk using wpAny_loadPart' at1', wpAny_loadPart' at2'
      rw [arr_in (xs := xs') (by omega), arr_in (xs := ys') (by omega)]
      wp_walk
      exact due
theorem ev_lst_ne (hP : LBoth P l b N N2 Pr) : MeetsIn prog w (Builtin.«list.__ne__» ⟨[.ref l, .ref b], []⟩)
    (fun A R s => P s ∧ (N = N2 → LPairs prog w A.in1 P Pr e) ∧ ∀ s', P s' → R (.ok (.ret (.bool (!lstRes N N2 e)))) s') := by
  rintro A R s ⟨p0, pair, due⟩
  obtain ⟨xs, ys, n, n2, d1, d2, t1, t2, at1, at2, z1, z2, pr⟩ := hP s p0
  have sub := PyProof.Rows.sub_list_list
  rcases Nat.decEq N N2 with hsz | hsz
  · have other : (xs.size != ys.size) = true := by simp [z1, z2, hsz]
    have due := due s p0
    obtain ⟨hp, gs, dr, tk, os⟩ := s
    wp_walk using wpAny_loadPart' at1, wpAny_loadPart' at2
    have no : lstRes N N2 e = false := by unfold lstRes; rw [beq_eq_false_iff_ne.mpr hsz, Bool.false_and]
    rw [no] at due
    exact due
  · have other : ¬ (xs.size != ys.size) = true := by simp [z1, z2, hsz]
    obtain ⟨hp, gs, dr, tk, os⟩ := s
    wp_walk using wpAny_loadPart' at1, wpAny_loadPart' at2
    refine ⟨plainId_quiet plain_eq_loop _, codeAny_builtin entry_eq_loop ?_⟩
    rw [Around.under_plainId plain_eq_loop]
    refine ev_lst_loopN hP hsz N 0 (Nat.zero_add _) A R _ ⟨p0, pair hsz, fun s1 p1 => ?_⟩
    have z := due s1 p1
    unfold lstRes at z
    rw [beq_iff_eq.mpr hsz, Bool.true_and] at z
    exact z
end
end Hw
namespace Hw
open PySem L2 PyProof.Rows SeqAt
/-! ### == of trees -/
def eqPairs (f : D → D → Option Bool) : List D → List D → Option Bool
  | x :: l, y :: r => match f x y, eqPairs f l r with
    | some a, some b => some (a && b)
    | _, _ => none
  | _, _ => some true
def eqD (oe : D → D → Option Bool) : Nat → D → D → Option Bool
  | n + 1, .tup l, .tup r => (eqPairs (eqD oe n) l r).map (· && l.length == r.length)
  | n + 1, .lst l, .lst r => if l.length = r.length then eqPairs (eqD oe n) l r else some false
  | _, d, d' => oe d d'
/-- what the pairs at the place j come to -/
def prAt (f : D → D → Option Bool) (l r : List D) (j : Nat) : Bool := match l[j]?, r[j]? with
  | some x, some y => (f x y).getD false
  | _, _ => false
theorem all_shift (f : Nat → Bool) : ∀ n : Nat, (List.range (n + 1)).all f = (f 0 && (List.range n).all fun j => f (j + 1)) := fun n => by
  rw [List.range_succ_eq_map]
  rw [List.all_cons, List.all_map]
  rfl
theorem eqPairs_all {f : D → D → Option Bool} : ∀ {l r : List D} {b : Bool}, eqPairs f l r = some b → (List.range (min l.length r.length)).all (prAt f l r) = b ∧ ∀ (j : Nat) x y, l[j]? = some x → r[j]? = some y → ∃ c, f x y = some c ∧ prAt f l r j = c
  | [], r, b, h => by
    simp only [eqPairs] at h
    cases h
    exact ⟨by simp, fun j x y h => by simp at h⟩
  | x :: l, [], b, h => by
    simp only [eqPairs] at h
    cases h
    exact ⟨by simp, fun j x y _ h => by simp at h⟩
  | x :: l, y :: r, b, h => by
    simp only [eqPairs] at h
    split at h
    · rename_i a c ha hc
      cases h
      obtain ⟨h1, h2⟩ := eqPairs_all hc
      refine ⟨?_, fun j x' y' e1 e2 => ?_⟩
      · rw [List.length_cons, List.length_cons, Nat.succ_min_succ, all_shift]
        have e0 : prAt f (x :: l) (y :: r) 0 = a := by simp [prAt, ha]
        have e1 : (fun j => prAt f (x :: l) (y :: r) (j + 1)) = prAt f l r := by funext j; simp [prAt]
        rw [e0, e1, h1]
      · cases j with
        | zero =>
          simp at e1 e2
          subst e1 e2
          exact ⟨a, ha, by simp [prAt, ha]⟩
        | succ j =>
          simp at e1 e2
          obtain ⟨c', g1, g2⟩ := h2 j x' y' e1 e2
          exact ⟨c', g1, by simpa [prAt] using g2⟩
    · cases h
/-- the leaves' == -/
structure LeafEq (G : Gc) (k : Nat) (oe : D → D → Option Bool) : Prop where
  ex : ∃ r0 : O2, SO2 G k (compareOp .Eq) r0 ∧ ∀ d d' r A (Q : WK), oe d d' = some r → Q (.t (.bl r)) A → r0 (.t d) (.t d') A Q
  same : ∀ m A H d d' v r, oe d d' = some r → Rep G.K G.T m A H d v → Rep G.K G.T m A H d' v → r = true
theorem relV_inj {v v' : V} {u : Value} (h : L2.RelV v u) (h' : L2.RelV v' u) : v = v' := by
  cases v <;> cases v' <;> simp only [L2.RelV] at h h' <;> (try obtain ⟨t, rfl⟩ := h) <;> (try subst h) <;> (try obtain ⟨t', h'⟩ := h') <;> first | rfl | (cases h'; rfl) | (cases h')
theorem rep_nofl {K : PySem.W.Frag} {T : Tb} {m : List Addr} {A : AH} {H : Hp} {d : D} {v : V} (h : Rep K T m A H d v) (b : UInt64) : v ≠ .flt b := by
  intro e
  subst e
  cases d <;> simp [Rep] at h
/-- one comparison within == -/
theorem eqBool_step {M : Model} {Ar : Around} {E : Value → Shared → Prop} {Q : Bool → Shared → Prop} {s : Shared} {u u' : Value} (hne : (u == u') = false) (hnf : ∀ b t, u ≠ .float b t)
    (h : wpAny M Ar (richCompare .Eq u u') (fun w s' => ∃ k, w = .bool k ∧ Q k s') E s) : wpAny M Ar (eqBool u u') Q E s := by
  unfold eqBool
  refine wpAny_holding ?_
  refine wpAny_ite_split (fun hab => by rw [hne] at hab; cases hab) (fun _ => ?_)
  have fin : wpAny M Ar (richCompare .Eq u u' >>= fun w => truthOfDropped w) Q E s := by
    refine wpAny_bind (wpAny_mono h (fun w s' q => ?_) fun _ _ q => q)
    obtain ⟨k, rfl, q⟩ := q
    exact wpAny_truthy_bool q
  cases u <;> first | exact (hnf _ _ rfl).elim | exact fin
theorem eqBool_same {M : Model} {Ar : Around} {E : Value → Shared → Prop} {Q : Bool → Shared → Prop} {s : Shared} {u : Value} (h : Q true s) : wpAny M Ar (eqBool u u) Q E s := by
  unfold eqBool
  refine wpAny_holding ?_
  refine wpAny_ite_split (fun _ => ?_) (fun hab => absurd (beq_self_eq_true u) hab)
  apply wpAny_bind; exact wpAny_rule (wpAny_pure h)
section
variable {G : Gc} {k : Nat} {oe : D → D → Option Bool} {X : Cx} {pins : List (Addr × Obj)} {σ : L2.St} {m : List Addr} {A : AH} {H : Hp}
/-- a later state -/
def Later (G : Gc) (X : Cx) (pins : List (Addr × Obj)) (σ : L2.St) (m : List Addr) (A : AH) (H : Hp) (s : Shared) : Prop := ∃ m' H', Inv X pins σ H' s ∧ Lt m A H m' A H' ∧ HR G.K G.T m' A H'
theorem reps_same {f : D → D → Option Bool} {K : PySem.W.Frag} {T : Tb} (hf : ∀ d d' v r, f d d' = some r → Rep K T m A H d v → Rep K T m A H d' v → r = true) : ∀ {l r : List D} {vs : List V} {b : Bool}, eqPairs f l r = some b → Reps K T m A H l vs → Reps K T m A H r vs → b = true
  | [], r, vs, b, h, _, _ => by simp only [eqPairs] at h; cases h; rfl
  | x :: l, [], vs, b, h, _, _ => by simp only [eqPairs] at h; cases h; rfl
  | x :: l, y :: r, vs, b, h, h1, h2 => by
    simp only [eqPairs] at h
    simp only [Reps] at h1 h2
    obtain ⟨v, q, rfl, p1, p2⟩ := h1
    obtain ⟨v', q', e, p3, p4⟩ := h2
    cases e
    split at h
    · rename_i a c ha hc
      cases h
      rw [hf _ _ _ _ ha p1 p3, reps_same hf hc p2 p4]
      rfl
    · cases h
theorem eqD_same (L : LeafEq G k oe) {s : Shared} (hX : X.K = G.K) (I : Inv X pins σ H s) : ∀ (n : Nat) (d d' : D) (v : V) (r : Bool), eqD oe n d d' = some r → Rep G.K G.T m A H d v → Rep G.K G.T m A H d' v → r = true
  | 0, d, d', v, r, h, h1, h2 => L.same m A H d d' v r (by simpa [eqD] using h) h1 h2
  | n + 1, d, d', v, r, h, h1, h2 => by
    unfold eqD at h
    split at h
    · rename_i n0 l1 l2 en
      obtain rfl : n = n0 := by omega
      simp only [Rep] at h1 h2
      obtain ⟨a, vs, rfl, q1, r1⟩ := h1
      obtain ⟨a', vs', e, q2, r2⟩ := h2
      cases e
      have ev := I.tuple_inj (by rw [hX]; exact tup_sq q1) (by rw [hX]; exact tup_sq q2)
      subst ev
      rw [Option.map_eq_some_iff] at h
      obtain ⟨b, hb, rfl⟩ := h
      have hz : l1.length = l2.length := r1.length.trans r2.length.symm
      rw [reps_same (eqD_same L hX I n) hb r1 r2, hz]
      simp
    · rename_i n0 l1 l2 en
      obtain rfl : n = n0 := by omega
      simp only [Rep] at h1 h2
      obtain ⟨a, vs, rfl, q1, r1⟩ := h1
      obtain ⟨a', vs', e, q2, r2⟩ := h2
      cases e
      have ev := I.list_inj (by rw [hX]; exact lst_sq q1) (by rw [hX]; exact lst_sq q2)
      subst ev
      have hz : l1.length = l2.length := r1.length.trans r2.length.symm
      rw [if_pos hz] at h
      exact reps_same (eqD_same L hX I n) h r1 r2
    · exact L.same m A H _ _ v r h h1 h2
/-- the rooms below -/
theorem room_in1 {j : Nat} {Ar : Around} (r : Room (j + 1) Ar) : Room j Ar.in1 := r.in1
theorem ev_deep (L : LeafEq G k oe) (hX : G.Has k X) (hm : m.length = A.length) : ∀ (n : Nat) (Ar : Around) (d d' : D) (v v' : V) (u u' : Value) (r : Bool), Room (k + n) Ar → Ar.handled = X.A.handled → Ar.frames = X.A.frames → Ar.guards = X.A.guards →
    eqD oe n d d' = some r → Rep G.K G.T m A H d v → Rep G.K G.T m A H d' v' → L2.RelV v u → L2.RelV v' u' →
    ∀ s, Later G X pins σ m A H s → ((u == u') = false ∨ True) → ∀ (E : Value → Shared → Prop), wpAny (model X.prog X.w) Ar (richCompare .Eq u u') (fun w s' => w = .bool r ∧ Later G X pins σ m A H s') E s
  | n, Ar, d, d', v, v', u, u', r, hr, h1, h2, h3, he, rd, rd', rv, rv', s, hs, _, E => by
    have leaf : oe d d' = some r → wpAny (model X.prog X.w) Ar (richCompare .Eq u u') (fun w s' => w = .bool r ∧ Later G X pins σ m A H s') E s := by
      intro ho
      obtain ⟨m1, H1, I, l1, hr1⟩ := hs
      obtain ⟨r0, so, hq⟩ := L.ex
      have hX1 : G.Has k (toA X Ar) := has_to hX (hr.mono (Nat.le_add_right _ _)) h3
      have I1 : Inv (toA X Ar) pins σ H1 s := inv_to I h1 h2
      refine wpAny_mono ((so.run _ hX1) pins s σ H1 v v' u u' (fun w H2 => w = .bl r ∧ ∃ m2, Lt m A H m2 A H2 ∧ HR G.K G.T m2 A H2) I1 rv rv' ⟨m1, A, .t d, .t d', hr1, Rep.lt l1 hm d v rd, Rep.lt l1 hm d' v' rd', hq _ _ _ _ _ ho ?_⟩) (fun w s' q => ?_) fun e s' q => ?_
      · intro w m2 H2 l2 hr2 rw2
        exact ⟨by simpa only [RepW, Rep] using rw2, m2, l1.trans hm l2, hr2⟩
      · obtain ⟨w', H2, I2, rw2, rfl, m2, l2, hr2⟩ := q
        exact ⟨rw2, m2, H2, inv_back I2 h1 h2, l2, hr2⟩
      · have q' : X.xe e s' := q
        rw [hX.nox] at q'
        exact q'.elim
    cases n with
    | zero => exact leaf (by simpa [eqD] using he)
    | succ n =>
      have pair : ∀ (l1 l2 : List D) (vs1 vs2 : List V), Reps G.K G.T m A H l1 vs1 → Reps G.K G.T m A H l2 vs2 → ∀ (j : Nat) (x y : D) (c : Bool) (y1 y2 : Value) (v1 v2 : V), l1[j]? = some x → l2[j]? = some y → eqD oe n x y = some c → vs1[j]? = some v1 → vs2[j]? = some v2 → L2.RelV v1 y1 → L2.RelV v2 y2 →
          EqEv X.prog X.w Ar.in1 (Later G X pins σ m A H) y1 y2 c := by
        intro l1 l2 vs1 vs2 p1 p2 j x y c y1 y2 v1 v2 e1 e2 hc g1 g2 w1 w2 E' Q' s1 hs1 hQ
        obtain ⟨w1', t1, q1⟩ := reps_get p1 e1
        obtain ⟨w2', t2, q2⟩ := reps_get p2 e2
        rw [g1] at t1
        rw [g2] at t2
        cases t1
        cases t2
        by_cases hab : y1 = y2
        · subst hab
          have hv := relV_inj w1 w2
          subst hv
          obtain ⟨m1, H1, I, ll, hr1⟩ := hs1
          have hr' := eqD_same (m := m1) (A := A) L hX.K I n x y v1 c hc (Rep.lt ll hm _ _ q1) (Rep.lt ll hm _ _ q2)
          subst hr'
          exact eqBool_same (hQ s1 ⟨m1, H1, I, ll, hr1⟩)
        · refine eqBool_step (by simpa using hab) (fun b t e => ?_) (wpAny_mono (ev_deep L hX hm n Ar.in1 x y v1 v2 y1 y2 c (Room.in1 (by rw [Nat.add_assoc]; exact hr)) h1 h2 h3 hc q1 q2 w1 w2 s1 hs1 (.inr trivial) E') (fun w s' q => ⟨c, q.1, hQ s' q.2⟩) fun _ _ q => q)
          subst e
          cases v1 <;> first | exact (rep_nofl q1 _ rfl).elim | simp [L2.RelV] at w1
      unfold eqD at he
      split at he
      · rename_i n0 l1 l2 en
        obtain rfl : n = n0 := by omega
        rw [Option.map_eq_some_iff] at he
        obtain ⟨b, hb, rfl⟩ := he
        obtain ⟨a1, a2⟩ := eqPairs_all hb
        simp only [Rep] at rd rd'
        obtain ⟨a, vs, rfl, q1, r1⟩ := rd
        obtain ⟨a', vs', rfl, q2, r2⟩ := rd'
        have eu : u = Value.ref a := rv
        have eu' : u' = Value.ref a' := rv'
        subst eu eu'
        have hs0 := hs
        obtain ⟨m1, H1, I, ll, hr1⟩ := hs
        have sq1 : SqT X.K H1 a vs := by rw [hX.K]; exact tup_sq (by rcases q1 with ⟨z1, z2⟩ | z; exact .inl ⟨ll.rd z1 z2, ll.frR hm z1 z2⟩; exact .inr z)
        have sq2 : SqT X.K H1 a' vs' := by rw [hX.K]; exact tup_sq (by rcases q2 with ⟨z1, z2⟩ | z; exact .inl ⟨ll.rd z1 z2, ll.frR hm z1 z2⟩; exact .inr z)
        obtain ⟨its, w1, ⟨⟨c1, dd1, dt1, sl1⟩, o1, k1, n1, t1⟩, _⟩ := I.tuple sq1
        obtain ⟨its2, w2, ⟨⟨c2, dd2, dt2, sl2⟩, o2, k2, n2, t2⟩, _⟩ := I.tuple sq2
        simp only at k1 t1 k2 t2
        subst k1 t1 k2 t2
        have z1 : its.length = l1.length := by rw [← w1.length, ← r1.length]
        have z2 : its2.length = l2.length := by rw [← w2.length, ← r2.length]
        refine wpAny_richCompare_same_room (op := .Eq) (T := "tuple") ⟨_, o1, rfl⟩ ⟨_, o2, rfl⟩ PySem.F.slot_tuple_eq (call_meetsIn PySem.F.slot_tuple_eq ⟨_, o1, rfl⟩ PySem.F.entry_tuple_eq (PySem.F.args_tuple_eq_2 _ _) (ev_tup_eq (e := prAt (eqD oe n) l1 l2) (P := Later G X pins σ m A H)) ⟨hs0, ⟨o1, o2⟩, fun j g1 g2 => ?_, fun s' hs' => ?_⟩) hr.units0
        · have g1' : j < its.length := by simpa using g1
          have g2' : j < its2.length := by simpa using g2
          obtain ⟨c, hc, hp⟩ := a2 j (l1[j]'(by omega)) (l2[j]'(by omega)) (List.getElem?_eq_getElem _) (List.getElem?_eq_getElem _)
          rw [hp]
          obtain ⟨x1, y1, e1, e2⟩ : ∃ x1 y1, vs[j]? = some x1 ∧ vs'[j]? = some y1 := ⟨_, _, List.getElem?_eq_getElem (by rw [w1.length]; exact g1'), List.getElem?_eq_getElem (by rw [w2.length]; exact g2')⟩
          obtain ⟨u1, f1, f2⟩ := Vals.get w1 e1
          obtain ⟨u2, f3, f4⟩ := Vals.get w2 e2
          have b1 : its.toArray[j] = u1 := by simpa [List.getElem?_eq_getElem g1'] using f1
          have b2 : its2.toArray[j] = u2 := by simpa [List.getElem?_eq_getElem g2'] using f3
          rw [b1, b2]
          exact pair l1 l2 vs vs' r1 r2 j _ _ c u1 u2 x1 y1 (List.getElem?_eq_getElem (by omega)) (List.getElem?_eq_getElem (by omega)) hc e1 e2 f2 f4
        · refine ⟨(fun x => nomatch x), ?_, hs'⟩
          unfold tupRes
          rw [List.size_toArray, List.size_toArray, z1, z2, a1]
      · rename_i n0 l1 l2 en
        obtain rfl : n = n0 := by omega
        simp only [Rep] at rd rd'
        obtain ⟨a, vs, rfl, q1, r1⟩ := rd
        obtain ⟨a', vs', rfl, q2, r2⟩ := rd'
        have eu : u = Value.ref a := rv
        have eu' : u' = Value.ref a' := rv'
        subst eu eu'
        have both : LBoth (Later G X pins σ m A H) a a' l1.length l2.length (fun j y x => ∃ v1 v2, vs[j]? = some v1 ∧ vs'[j]? = some v2 ∧ L2.RelV v1 y ∧ L2.RelV v2 x) := by
          rintro s1 ⟨m1, H1, I, ll, hr1⟩
          have sq1 : SqL X.K H1 a vs := by rw [hX.K]; exact lst_sq (by rcases q1 with ⟨z1, z2⟩ | z; exact .inl ⟨ll.rd z1 z2, ll.frR hm z1 z2⟩; exact .inr z)
          have sq2 : SqL X.K H1 a' vs' := by rw [hX.K]; exact lst_sq (by rcases q2 with ⟨z1, z2⟩ | z; exact .inl ⟨ll.rd z1 z2, ll.frR hm z1 z2⟩; exact .inr z)
          obtain ⟨its, w1, ⟨⟨c1, dd1, dt1, sl1⟩, n1, o1, k1, _, t1⟩, _⟩ := I.list sq1
          obtain ⟨its2, w2, ⟨⟨c2, dd2, dt2, sl2⟩, n2, o2, k2, _, t2⟩, _⟩ := I.list sq2
          simp only at k1 t1 k2 t2
          subst k1 t1 k2 t2
          refine ⟨its.toArray, its2.toArray, _, _, _, _, _, _, o1, o2, by rw [List.size_toArray, ← w1.length, ← r1.length], by rw [List.size_toArray, ← w2.length, ← r2.length], fun j g1 g2 => ?_⟩
          have g1' : j < its.length := by simpa using g1
          have g2' : j < its2.length := by simpa using g2
          obtain ⟨x1, y1, e1, e2⟩ : ∃ x1 y1, vs[j]? = some x1 ∧ vs'[j]? = some y1 := ⟨_, _, List.getElem?_eq_getElem (by rw [w1.length]; exact g1'), List.getElem?_eq_getElem (by rw [w2.length]; exact g2')⟩
          obtain ⟨u1, f1, f2⟩ := Vals.get w1 e1
          obtain ⟨u2, f3, f4⟩ := Vals.get w2 e2
          have b1 : its.toArray[j] = u1 := by simpa [List.getElem?_eq_getElem g1'] using f1
          have b2 : its2.toArray[j] = u2 := by simpa [List.getElem?_eq_getElem g2'] using f3
          rw [b1, b2]
          exact ⟨x1, y1, e1, e2, f2, f4⟩
        obtain ⟨items, items2, n1, n2, dd, dd2, sl, sl2, o1, o2, _⟩ := both s hs
        refine wpAny_richCompare_same_room (op := .Eq) (T := "list") ⟨_, o1, rfl⟩ ⟨_, o2, rfl⟩ PySem.F.slot_list_eq (call_meetsIn PySem.F.slot_list_eq ⟨_, o1, rfl⟩ PySem.F.entry_list_eq (PySem.F.args_list_eq_2 _ _) (ev_lst_eq (e := prAt (eqD oe n) l1 l2) both) ⟨hs, fun hz => ?_, fun s' hs' => ?_⟩) hr.units0
        · rw [if_pos hz] at he
          obtain ⟨a1, a2⟩ := eqPairs_all he
          rintro j y x ⟨x1, y1, e1, e2, f2, f4⟩
          have j1 : j < l1.length := by rw [r1.length]; exact (List.getElem?_eq_some_iff.mp e1).1
          have j2 : j < l2.length := by rw [r2.length]; exact (List.getElem?_eq_some_iff.mp e2).1
          obtain ⟨c, hc, hp⟩ := a2 j _ _ (List.getElem?_eq_getElem j1) (List.getElem?_eq_getElem j2)
          rw [hp]
          exact pair l1 l2 vs vs' r1 r2 j _ _ c y x x1 y1 (List.getElem?_eq_getElem j1) (List.getElem?_eq_getElem j2) hc e1 e2 f2 f4
        · refine ⟨(fun x => nomatch x), ?_, hs'⟩
          unfold lstRes
          by_cases hz : l1.length = l2.length
          · rw [if_pos hz] at he
            obtain ⟨a1, a2⟩ := eqPairs_all he
            rw [← hz, Nat.min_self] at a1
            rw [hz, beq_self_eq_true, Bool.true_and, ← hz, a1]
          · rw [if_neg hz] at he
            cases he
            simp [hz]
      · exact leaf he
theorem ev_item (L : LeafEq G k oe) (hX : G.Has k X) (hm : m.length = A.length) {n : Nat} {Ar : Around} (hr : Room (k + n) Ar) (h1 : Ar.handled = X.A.handled) (h2 : Ar.frames = X.A.frames) (h3 : Ar.guards = X.A.guards) {l1 l2 : List D} {vs1 vs2 : List V} (p1 : Reps G.K G.T m A H l1 vs1) (p2 : Reps G.K G.T m A H l2 vs2) {j : Nat} {x y : D} {c : Bool} {y1 y2 : Value} {v1 v2 : V}
    (e1 : l1[j]? = some x) (e2 : l2[j]? = some y) (hc : eqD oe n x y = some c) (g1 : vs1[j]? = some v1) (g2 : vs2[j]? = some v2) (w1 : L2.RelV v1 y1) (w2 : L2.RelV v2 y2) : EqEv X.prog X.w Ar (Later G X pins σ m A H) y1 y2 c := by
  intro E' Q' s1 hs1 hQ
  obtain ⟨w1', t1, q1⟩ := reps_get p1 e1
  obtain ⟨w2', t2, q2⟩ := reps_get p2 e2
  rw [g1] at t1
  rw [g2] at t2
  cases t1
  cases t2
  by_cases hab : y1 = y2
  · subst hab
    have hv := relV_inj w1 w2
    subst hv
    obtain ⟨m1, H1, I, ll, hr1⟩ := hs1
    have hr' := eqD_same (m := m1) (A := A) L hX.K I n x y v1 c hc (Rep.lt ll hm _ _ q1) (Rep.lt ll hm _ _ q2)
    subst hr'
    exact eqBool_same (hQ s1 ⟨m1, H1, I, ll, hr1⟩)
  · refine eqBool_step (by simpa using hab) (fun b t e => ?_) (wpAny_mono (ev_deep L hX hm n Ar x y v1 v2 y1 y2 c hr h1 h2 h3 hc q1 q2 w1 w2 s1 hs1 (.inr trivial) E') (fun w s' q => ⟨c, q.1, hQ s' q.2⟩) fun _ _ q => q)
    subst e
    cases v1 <;> first | exact (rep_nofl q1 _ rfl).elim | simp [L2.RelV] at w1
theorem ev_ne_tup (L : LeafEq G k oe) (hX : G.Has k X) (hm : m.length = A.length) {n : Nat} {Ar : Around} {l1 l2 : List D} {v v' : V} {u u' : Value} {r : Bool} (hr : Room (k + n + 1) Ar) (h1 : Ar.handled = X.A.handled) (h2 : Ar.frames = X.A.frames) (h3 : Ar.guards = X.A.guards)
    (he : eqD oe (n + 1) (.tup l1) (.tup l2) = some r) (rd : Rep G.K G.T m A H (.tup l1) v) (rd' : Rep G.K G.T m A H (.tup l2) v') (rv : L2.RelV v u) (rv' : L2.RelV v' u') (s : Shared) (hs : Later G X pins σ m A H s) (E : Value → Shared → Prop) :
    wpAny (model X.prog X.w) Ar (richCompare .NotEq u u') (fun w s' => w = .bool (!r) ∧ Later G X pins σ m A H s') E s := by
  unfold eqD at he
  rw [Option.map_eq_some_iff] at he
  obtain ⟨b, hb, rfl⟩ := he
  obtain ⟨a1, a2⟩ := eqPairs_all hb
  simp only [Rep] at rd rd'
  obtain ⟨a, vs, rfl, q1, r1⟩ := rd
  obtain ⟨a', vs', rfl, q2, r2⟩ := rd'
  have eu : u = Value.ref a := rv
  have eu' : u' = Value.ref a' := rv'
  subst eu eu'
  have hs0 := hs
  obtain ⟨m1, H1, I, ll, hr1⟩ := hs
  have sq1 : SqT X.K H1 a vs := by rw [hX.K]; exact tup_sq (by rcases q1 with ⟨z1, z2⟩ | z; exact .inl ⟨ll.rd z1 z2, ll.frR hm z1 z2⟩; exact .inr z)
  have sq2 : SqT X.K H1 a' vs' := by rw [hX.K]; exact tup_sq (by rcases q2 with ⟨z1, z2⟩ | z; exact .inl ⟨ll.rd z1 z2, ll.frR hm z1 z2⟩; exact .inr z)
  obtain ⟨its, w1, ⟨⟨c1, dd1, dt1, sl1⟩, o1, k1, n1, t1⟩, _⟩ := I.tuple sq1
  obtain ⟨its2, w2, ⟨⟨c2, dd2, dt2, sl2⟩, o2, k2, n2, t2⟩, _⟩ := I.tuple sq2
  simp only at k1 t1 k2 t2
  subst k1 t1 k2 t2
  have z1 : its.length = l1.length := by rw [← w1.length, ← r1.length]
  have z2 : its2.length = l2.length := by rw [← w2.length, ← r2.length]
  refine wpAny_richCompare_same_room (op := .NotEq) (T := "tuple") ⟨_, o1, rfl⟩ ⟨_, o2, rfl⟩ PySem.F.slot_tuple_ne (call_meetsIn PySem.F.slot_tuple_ne ⟨_, o1, rfl⟩ PySem.F.entry_tuple_ne (PySem.F.args_tuple_ne_2 _ _) (ev_tup_ne (e := prAt (eqD oe n) l1 l2) (P := Later G X pins σ m A H)) ⟨hs0, ⟨o1, o2⟩, fun j g1 g2 => ?_, fun s' hs' => ?_⟩) hr.units0
  · have g1' : j < its.length := by simpa using g1
    have g2' : j < its2.length := by simpa using g2
    obtain ⟨c, hc, hp⟩ := a2 j (l1[j]'(by omega)) (l2[j]'(by omega)) (List.getElem?_eq_getElem _) (List.getElem?_eq_getElem _)
    rw [hp]
    obtain ⟨x1, y1, e1, e2⟩ : ∃ x1 y1, vs[j]? = some x1 ∧ vs'[j]? = some y1 := ⟨_, _, List.getElem?_eq_getElem (by rw [w1.length]; exact g1'), List.getElem?_eq_getElem (by rw [w2.length]; exact g2')⟩
    obtain ⟨u1, f1, f2⟩ := Vals.get w1 e1
    obtain ⟨u2, f3, f4⟩ := Vals.get w2 e2
    have b1 : its.toArray[j] = u1 := by simpa [List.getElem?_eq_getElem g1'] using f1
    have b2 : its2.toArray[j] = u2 := by simpa [List.getElem?_eq_getElem g2'] using f3
    rw [b1, b2]
    exact ev_item L hX hm hr.in1 h1 h2 h3 r1 r2 (List.getElem?_eq_getElem (by omega)) (List.getElem?_eq_getElem (by omega)) hc e1 e2 f2 f4
  · refine ⟨(fun x => nomatch x), ?_, hs'⟩
    unfold tupRes
    rw [List.size_toArray, List.size_toArray, z1, z2, a1]
theorem ev_ne_lst (L : LeafEq G k oe) (hX : G.Has k X) (hm : m.length = A.length) {n : Nat} {Ar : Around} {l1 l2 : List D} {v v' : V} {u u' : Value} {r : Bool} (hr : Room (k + n + 1) Ar) (h1 : Ar.handled = X.A.handled) (h2 : Ar.frames = X.A.frames) (h3 : Ar.guards = X.A.guards)
    (he : eqD oe (n + 1) (.lst l1) (.lst l2) = some r) (rd : Rep G.K G.T m A H (.lst l1) v) (rd' : Rep G.K G.T m A H (.lst l2) v') (rv : L2.RelV v u) (rv' : L2.RelV v' u') (s : Shared) (hs : Later G X pins σ m A H s) (E : Value → Shared → Prop) :
    wpAny (model X.prog X.w) Ar (richCompare .NotEq u u') (fun w s' => w = .bool (!r) ∧ Later G X pins σ m A H s') E s := by
  unfold eqD at he
  simp only [Rep] at rd rd'
  obtain ⟨a, vs, rfl, q1, r1⟩ := rd
  obtain ⟨a', vs', rfl, q2, r2⟩ := rd'
  have eu : u = Value.ref a := rv
  have eu' : u' = Value.ref a' := rv'
  subst eu eu'
  have both : LBoth (Later G X pins σ m A H) a a' l1.length l2.length (fun j y x => ∃ v1 v2, vs[j]? = some v1 ∧ vs'[j]? = some v2 ∧ L2.RelV v1 y ∧ L2.RelV v2 x) := by
    rintro s1 ⟨m1, H1, I, ll, hr1⟩
    have sq1 : SqL X.K H1 a vs := by rw [hX.K]; exact lst_sq (by rcases q1 with ⟨z1, z2⟩ | z; exact .inl ⟨ll.rd z1 z2, ll.frR hm z1 z2⟩; exact .inr z)
    have sq2 : SqL X.K H1 a' vs' := by rw [hX.K]; exact lst_sq (by rcases q2 with ⟨z1, z2⟩ | z; exact .inl ⟨ll.rd z1 z2, ll.frR hm z1 z2⟩; exact .inr z)
    obtain ⟨its, w1, ⟨⟨c1, dd1, dt1, sl1⟩, n1, o1, k1, _, t1⟩, _⟩ := I.list sq1
    obtain ⟨its2, w2, ⟨⟨c2, dd2, dt2, sl2⟩, n2, o2, k2, _, t2⟩, _⟩ := I.list sq2
    simp only at k1 t1 k2 t2
    subst k1 t1 k2 t2
    refine ⟨its.toArray, its2.toArray, _, _, _, _, _, _, o1, o2, by rw [List.size_toArray, ← w1.length, ← r1.length], by rw [List.size_toArray, ← w2.length, ← r2.length], fun j g1 g2 => ?_⟩
    have g1' : j < its.length := by simpa using g1
    have g2' : j < its2.length := by simpa using g2
    obtain ⟨x1, y1, e1, e2⟩ : ∃ x1 y1, vs[j]? = some x1 ∧ vs'[j]? = some y1 := ⟨_, _, List.getElem?_eq_getElem (by rw [w1.length]; exact g1'), List.getElem?_eq_getElem (by rw [w2.length]; exact g2')⟩
    obtain ⟨u1, f1, f2⟩ := Vals.get w1 e1
    obtain ⟨u2, f3, f4⟩ := Vals.get w2 e2
    have b1 : its.toArray[j] = u1 := by simpa [List.getElem?_eq_getElem g1'] using f1
    have b2 : its2.toArray[j] = u2 := by simpa [List.getElem?_eq_getElem g2'] using f3
    rw [b1, b2]
    exact ⟨x1, y1, e1, e2, f2, f4⟩
  obtain ⟨items, items2, n1, n2, dd, dd2, sl, sl2, o1, o2, _⟩ := both s hs
  refine wpAny_richCompare_same_room (op := .NotEq) (T := "list") ⟨_, o1, rfl⟩ ⟨_, o2, rfl⟩ PySem.F.slot_list_ne (call_meetsIn PySem.F.slot_list_ne ⟨_, o1, rfl⟩ PySem.F.entry_list_ne (PySem.F.args_list_ne_2 _ _) (ev_lst_ne (e := prAt (eqD oe n) l1 l2) both) ⟨hs, fun hz => ?_, fun s' hs' => ?_⟩) hr.units0
  · rw [if_pos hz] at he
    obtain ⟨a1, a2⟩ := eqPairs_all he
    rintro j y x ⟨x1, y1, e1, e2, f2, f4⟩
    have j1 : j < l1.length := by rw [r1.length]; exact (List.getElem?_eq_some_iff.mp e1).1
    have j2 : j < l2.length := by rw [r2.length]; exact (List.getElem?_eq_some_iff.mp e2).1
    obtain ⟨c, hc, hp⟩ := a2 j _ _ (List.getElem?_eq_getElem j1) (List.getElem?_eq_getElem j2)
    rw [hp]
    exact ev_item L hX hm hr.in1 h1 h2 h3 r1 r2 (List.getElem?_eq_getElem j1) (List.getElem?_eq_getElem j2) hc e1 e2 f2 f4
  · refine ⟨(fun x => nomatch x), ?_, hs'⟩
    unfold lstRes
    by_cases hz : l1.length = l2.length
    · rw [if_pos hz] at he
      obtain ⟨a1, a2⟩ := eqPairs_all he
      rw [← hz, Nat.min_self] at a1
      rw [hz, beq_self_eq_true, Bool.true_and, ← hz, a1]
    · rw [if_neg hz] at he
      cases he
      simp [hz]
/-- == and != of trees at the top -/
def eqDT (oe : D → D → Option Bool) (n : Nat) (base : O2) : O2 := fun x y A Q => match x, y with
  | .t (.tup l), .t (.tup r) => match eqD oe (n + 1) (.tup l) (.tup r) with
    | some b => Q (.t (.bl b)) A
    | none => False
  | .t (.lst l), .t (.lst r) => match eqD oe (n + 1) (.lst l) (.lst r) with
    | some b => Q (.t (.bl b)) A
    | none => False
  | x, y => base x y A Q
def neDT (oe : D → D → Option Bool) (n : Nat) (base : O2) : O2 := fun x y A Q => match x, y with
  | .t (.tup l), .t (.tup r) => match eqD oe (n + 1) (.tup l) (.tup r) with
    | some b => Q (.t (.bl (!b))) A
    | none => False
  | .t (.lst l), .t (.lst r) => match eqD oe (n + 1) (.lst l) (.lst r) with
    | some b => Q (.t (.bl (!b))) A
    | none => False
  | x, y => base x y A Q
def isSeq2 : D → D → Bool
  | .tup _, .tup _ => true
  | .lst _, .lst _ => true
  | _, _ => false
theorem mon_eqDT {n : Nat} {base : O2} (hb : Mon2 base) : Mon2 (eqDT oe n base) := fun x y A Q Q' kk h => by
  unfold eqDT at h ⊢
  split at h <;> (try split at h) <;> first | exact kk _ _ h | exact h.elim | exact hb _ _ _ _ _ kk h
theorem mon_neDT {n : Nat} {base : O2} (hb : Mon2 base) : Mon2 (neDT oe n base) := fun x y A Q Q' kk h => by
  unfold neDT at h ⊢
  split at h <;> (try split at h) <;> first | exact kk _ _ h | exact h.elim | exact hb _ _ _ _ _ kk h
theorem so_eqDT {n j : Nat} {base : O2} (L : LeafEq G k oe) (hj : j ≤ k + n + 1) (so : SO2 G j (compareOp .Eq) base) : SO2 G (k + n + 1) (compareOp .Eq) (eqDT oe n base) := by
  refine ⟨mon_eqDT so.mono, fun X hX pins s σ H v v' u u' Q I rv rv' z => ?_⟩
  obtain ⟨m, A, w1, w2, hr, r1, r2, z⟩ := z
  have go : ∀ (d d' : D) (b : Bool), eqD oe (n + 1) d d' = some b → Rep G.K G.T m A H d v → Rep G.K G.T m A H d' v' → (∀ w m' H', Lt m A H m' A H' → HR G.K G.T m' A H' → RepW G.K G.T m' A H' (.t (.bl b)) w → Q w H') → wpAny (model X.prog X.w) X.A (compareOp .Eq u u') (EP X pins σ Q) X.xe s := by
    intro d d' b he q1 q2 hq
    refine wpAny_mono (ev_deep L (hX.mono (by omega)) hr.len (n + 1) X.A d d' v v' u u' b hX.room rfl rfl rfl he q1 q2 rv rv' s ⟨m, H, I, Lt.refl, hr⟩ (.inr trivial) X.xe) (fun w s' q => ?_) fun _ _ q => q
    obtain ⟨rfl, m', H', I', l', hr'⟩ := q
    exact ⟨.bl b, H', I', rfl, hq _ m' H' l' hr' (by simp only [RepW, Rep])⟩
  unfold eqDT at z
  split at z
  · split at z
    · rename_i b hb
      exact go _ _ b hb r1 r2 z
    · exact z.elim
  · split at z
    · rename_i b hb
      exact go _ _ b hb r1 r2 z
    · exact z.elim
  · exact so.run X (hX.mono hj) pins s σ H v v' u u' Q I rv rv' ⟨m, A, _, _, hr, r1, r2, z⟩
theorem so_neDT {n j : Nat} {base : O2} (L : LeafEq G k oe) (hj : j ≤ k + n + 1) (so : SO2 G j (compareOp .NotEq) base) : SO2 G (k + n + 1) (compareOp .NotEq) (neDT oe n base) := by
  refine ⟨mon_neDT so.mono, fun X hX pins s σ H v v' u u' Q I rv rv' z => ?_⟩
  obtain ⟨m, A, w1, w2, hr, r1, r2, z⟩ := z
  have fin : ∀ b : Bool, (∀ w m' H', Lt m A H m' A H' → HR G.K G.T m' A H' → RepW G.K G.T m' A H' (.t (.bl (!b))) w → Q w H') → ∀ w s', (w = Value.bool (!b) ∧ Later G X pins σ m A H s') → EP X pins σ Q w s' := by
    rintro b hq w s' ⟨rfl, m', H', I', l', hr'⟩
    exact ⟨.bl (!b), H', I', rfl, hq _ m' H' l' hr' (by simp only [RepW, Rep])⟩
  unfold neDT at z
  split at z
  · split at z
    · rename_i b hb
      exact wpAny_mono (ev_ne_tup L (hX.mono (by omega)) hr.len hX.room rfl rfl rfl hb r1 r2 rv rv' s ⟨m, H, I, Lt.refl, hr⟩ X.xe) (fin b z) fun _ _ q => q
    · exact z.elim
  · split at z
    · rename_i b hb
      exact wpAny_mono (ev_ne_lst L (hX.mono (by omega)) hr.len hX.room rfl rfl rfl hb r1 r2 rv rv' s ⟨m, H, I, Lt.refl, hr⟩ X.xe) (fin b z) fun _ _ q => q
    · exact z.elim
  · exact so.run X (hX.mono hj) pins s σ H v v' u u' Q I rv rv' ⟨m, A, _, _, hr, r1, r2, z⟩
end
end Hw
namespace Hw
open PySem L2 PyProof.Rows
section
variable {C : Ctx} {G : Gc} {k : Nat} {e a b c tg iter elt o : Expr} {f g : Den} {ft : DenT} {pos p apos : Pos}
/-! ### tuple(..), sum(..) -/
def tupB : OL := fun ws A Q => match ws with
  | [.t (.lst l)] => Q (.t (.tup l)) A
  | [.t (.tup l)] => Q (.t (.tup l)) A
  | [.loc n] => match A[n]? with
    | some (.live (.lst l)) => Q (.t (.tup l)) A
    | _ => False
  | _ => False
theorem mon_tupB : MonL tupB := fun ws A Q Q' k h => by
  unfold tupB at h ⊢
  split at h <;> (try split at h) <;> first | exact k _ _ h | exact h.elim
theorem sl_tuple : SOL G k (.type "tuple") tupB := ⟨mon_tupB, fun X hX => CallR.weak call_tuple_of fun xs H Q z => by
  obtain ⟨m, A, ws, hr, r, z⟩ := z
  have mk : ∀ {l : List D} {vs : List V}, Reps G.K G.T m A H l vs → (∀ v m' H', Lt m A H m' A H' → HR G.K G.T m' A H' → RepW G.K G.T m' A H' (.t (.tup l)) v → Q v H') → ∀ q, H q = none → Q (.ref q) (upd H q (.tup vs)) := by
    intro l vs rs z q hq
    refine z (.ref q) m _ (Lt.new hq) (hr.new hq) ?_
    simp only [RepW, Rep]
    exact ⟨q, vs, rfl, .inl ⟨.inl upd_same, Fr.of_notin (hr.notin hq)⟩, Reps.lt (Lt.new hq) hr.len _ _ rs⟩
  unfold tupB at z
  split at z
  · obtain ⟨v, rfl, q1⟩ := rep1 r
    simp only [RepW, Rep] at q1
    obtain ⟨p, vs, rfl, h1, q1⟩ := q1
    exact ⟨p, vs, rfl, .inl ⟨by rw [hX.K]; exact lst_sq h1, mk q1 z⟩⟩
  · obtain ⟨v, rfl, q1⟩ := rep1 r
    have q0 := q1
    simp only [RepW, Rep] at q1
    obtain ⟨p, vs, rfl, h1, q1⟩ := q1
    exact ⟨p, vs, rfl, .inr ⟨by rw [hX.K]; exact tup_sq h1, z _ m H Lt.refl hr q0⟩⟩
  · split at z
    · rename_i n x l hc
      obtain ⟨v, rfl, q1⟩ := rep1 r
      obtain ⟨p, rfl, hp⟩ := q1
      obtain ⟨vs, h1, q1⟩ := hr.cell n p _ hp hc
      exact ⟨p, vs, rfl, .inl ⟨SqL.of h1, mk q1 z⟩⟩
    · exact z.elim
  · exact z.elim⟩
def intsD : List D → Option (List Int)
  | [] => some []
  | .int i :: l => (intsD l).map (i :: ·)
  | _ => none
theorem ints_rep {K : PySem.W.Frag} {T : Tb} {m : List Addr} {A : AH} {H : Hp} : ∀ {l : List D} {ns : List Int} {vs : List V}, intsD l = some ns → Reps K T m A H l vs → vs = ns.map V.int
  | [], ns, vs, e, r => by
    simp only [intsD] at e
    cases e
    simp only [Reps] at r
    rw [r]; rfl
  | .int i :: l, ns, vs, e, r => by
    simp only [intsD] at e
    rw [Option.map_eq_some_iff] at e
    obtain ⟨ns', e', rfl⟩ := e
    simp only [Reps] at r
    obtain ⟨v, q, rfl, r1, r2⟩ := r
    simp only [Rep] at r1
    rw [r1, ints_rep e' r2]; rfl
def sumW : OL := fun ws A Q => match ws with
  | [.t (.lst l)] => match intsD l with
    | some ns => Q (.t (.int ns.sum)) A
    | none => False
  | _ => False
theorem mon_sumW : MonL sumW := fun ws A Q Q' k h => by
  unfold sumW at h ⊢
  split at h <;> (try split at h) <;> first | exact k _ _ h | exact h.elim
theorem sl_sum : SOL G k (.builtin "sum") sumW := ⟨mon_sumW, fun X hX => CallR.weak (cr_sum hX.calm) fun xs H Q z => by
  obtain ⟨m, A, ws, hr, r, z⟩ := z
  unfold sumW at z
  split at z
  · split at z
    · rename_i ns hn
      obtain ⟨v, rfl, q1⟩ := rep1 r
      simp only [RepW, Rep] at q1
      obtain ⟨p, vs, rfl, h1, q1⟩ := q1
      have ev := ints_rep hn q1
      subst ev
      exact ⟨p, ns, rfl, by rw [hX.K]; exact lst_sq h1, z _ m H Lt.refl hr repInt⟩
    · exact z.elim
  · exact z.elim⟩
/-! ### a, b, .. = a tuple or a list -/
def dSeq (n : Nat) (h : DenGs) : DenG := fun w env A Q => match w with
  | .t (.tup l) => l.length = n ∧ h (l.map .t) env A Q
  | .t (.lst l) => l.length = n ∧ h (l.map .t) env A Q
  | _ => False
theorem sg_seq {es : List Expr} {q n : Nat} {sl : List Nat} {h : DenGs} (h1 : SGs C es sl h) (hn : ∀ env : PySem.Env, (assignEach es env).length = n) (hst : ∀ env : PySem.Env, (assignEach es env).findIdx? (·.1) = none) : SG C (.Tuple es q pos) sl (dSeq n h) := by
  refine ⟨fun w env A Q Q' k z => ?_, fun X hX => ⟨fun p s σ H v u Q I r z => ?_⟩⟩
  · unfold dSeq at z ⊢
    split at z
    · exact ⟨z.1, h1.mono _ _ _ _ _ k z.2⟩
    · exact ⟨z.1, h1.mono _ _ _ _ _ k z.2⟩
    · exact z.elim
  · obtain ⟨env, m, A, w, er, hr, rw, z⟩ := z
    unfold dSeq at z
    split at z
    · simp only [RepW, Rep] at rw
      obtain ⟨pp, vs, rfl, hq, rs⟩ := rw
      exact (pg_tup (k := q) (pos := pos) hX.g.calm (h1.run X hX) (hn X.env) (hst X.env)).run p s σ H _ u Q I r ⟨pp, vs, rfl, by rw [hX.g.K]; exact tup_sq hq, by rw [← rs.length]; exact z.1, env, m, A, _, er, hr, reps_ws rs, z.2⟩
    · simp only [RepW, Rep] at rw
      obtain ⟨pp, vs, rfl, hq, rs⟩ := rw
      exact (pg_unl (k := q) (pos := pos) hX.g.calm (h1.run X hX) (hn X.env) (hst X.env)).run p s σ H _ u Q I r ⟨pp, vs, rfl, by rw [hX.g.K]; exact lst_sq hq, by rw [← rs.length]; exact z.1, env, m, A, _, er, hr, reps_ws rs, z.2⟩
    · exact z.elim
theorem mon_dSeq {n : Nat} {h : DenGs} (h1 : MonGs h) : MonG (dSeq n h) := fun w env A Q Q' k z => by
  unfold dSeq at z ⊢
  split at z
  · exact ⟨z.1, h1 _ _ _ _ _ k z.2⟩
  · exact ⟨z.1, h1 _ _ _ _ _ k z.2⟩
  · exact z.elim
/-! ### enumerate of a list -/
def enumD : Nat → List D → List W
  | _, [] => []
  | i, x :: l => .t (.tup [.int i, x]) :: enumD (i + 1) l
theorem enum_len : ∀ (l : List D) (i : Nat), (enumD i l).length = l.length
  | [], _ => rfl
  | x :: l, i => by simp only [enumD, List.length_cons, enum_len l]
theorem enum_get : ∀ {l : List D} {i j : Nat} {w : W}, (enumD i l)[j]? = some w → ∃ x, l[j]? = some x ∧ w = .t (.tup [.int ((i + j : Nat) : Int), x])
  | [], i, j, w, h => by simp [enumD] at h
  | x :: l, i, 0, w, h => by
    simp [enumD] at h
    exact ⟨x, rfl, by rw [← h]; simp⟩
  | x :: l, i, j + 1, w, h => by
    simp only [enumD, List.getElem?_cons_succ] at h
    obtain ⟨y, h1, h2⟩ := enum_get h
    exact ⟨y, by simpa using h1, by rw [h2, Nat.add_assoc, Nat.add_comm 1 j]⟩
theorem wk_enum {K : PySem.W.Frag} {T : Tb} {m : List Addr} {A : AH} {H : Hp} {q : Addr} {vs : List V} {l : List D} (hl : m.length = A.length) (h1 : (Rd H q (.lst vs) ∧ Fr m A q) ∨ (∀ H', SqL K H' q vs)) (r1 : Reps K T m A H l vs) : Wk K T (Ite K q) m A H (enumD 0 l) := by
  have z1 := r1.length
  have zl := enum_len l 0
  have wz := walk_enum (K := K) (a := q) (xs := vs)
  refine ⟨fun i m' A' H' lt _ hi => wz.goes i H' (by omega) (sq_lt lt h1), fun m' A' H' lt _ => ?_, fun i m' A' H' x H'' w lt hr e y => ?_⟩
  · rw [show (enumD 0 l).length = vs.length by omega]
    exact wz.stops H' (sq_lt lt h1)
  · have hi : i < (enumD 0 l).length := (List.getElem?_eq_some_iff.mp e).1
    obtain ⟨dy, e2, rfl⟩ := enum_get e
    obtain ⟨T0, vx, vy, rfl, hT, rfl, f1, f2⟩ := wz.yields i H' x H'' (by omega) (sq_lt lt h1) y
    obtain ⟨v2, g2, q2⟩ := reps_get r1 e2
    have f1 : some (V.int (i : Nat)) = some vx := f1
    have f2 : vs[i]? = some vy := f2
    rw [g2] at f2
    cases f1
    cases f2
    have l2 : Lt m' A' H' m' A' (upd H' T0 (.tup [.int (i : Nat), vy])) := Lt.new hT
    refine ⟨l2, hr.new hT, ?_⟩
    simp only [RepW, Rep, Reps, Nat.zero_add]
    exact ⟨T0, _, rfl, .inl ⟨.inl upd_same, Fr.of_notin (hr.notin hT)⟩, _, _, rfl, rfl, _, _, rfl, Rep.lt l2 hr.len _ _ (Rep.lt lt hl _ _ q2), rfl⟩
def vEnum (g : DenA) : DenI := fun env A Q => g env A fun ws B => match ws with
  | [.t (.lst l)] => Q (enumD 0 l) B
  | _ => False
theorem si_enum {tpos : Pos} {elts : List Expr} {kk : Nat} {g : DenA} {gg : Gc} (hm : gg.mg "enumerate" = none) (hC : C.g = gg) (hg : glOk C.sc "enumerate" = true) (ha : SA C [a] g) (hs : ∀ env : PySem.Env, starEach [a] env = [(false, eval a env)]) :
    SI C (.Tuple elts kk tpos) (.Call (.Name "enumerate" p) [a] [] pos) (vEnum g) := by
  subst hC
  refine ⟨fun env A Q Q' k h => ha.mono _ _ _ _ (fun w B z => ?_) h, fun X hX => PI.weak (pi_enum (by show X.env.scope.names.lookup _ = _; rw [hX.sc]; exact (gl_ok hg).1) (by rw [hX.g.mg]; exact hm) (ha.run X hX) (hs X.env)) fun σ H R z => ?_⟩
  · split at z
    · exact k _ _ z
    · exact z.elim
  · obtain ⟨env, m, A, er, hr, h⟩ := z
    refine ⟨env, m, A, er, hr, ha.mono _ _ _ _ (fun w B z v m' H' l h' r => ?_) h⟩
    split at z
    · obtain ⟨v1, rfl, q1⟩ := rep1 r
      simp only [RepW, Rep] at q1
      obtain ⟨p1, xs, rfl, s1, t1⟩ := q1
      refine ⟨p1, xs, rfl, by rw [hX.g.K]; exact lst_sq s1, ?_⟩
      rw [hX.g.K]
      exact z _ m' H' l h' (wk_enum h'.len s1 t1)
    · exact z.elim
end
end Hw
namespace Hw
open PySem L2 PyProof.Rows
section
variable {C : Ctx} {G : Gc} {k : Nat} {e a b c tg iter elt o : Expr} {f g : Den} {ft : DenT} {pos p apos cpos p2 : Pos}
/-! ### xs.append(e) -/
@[irreducible] def appW (w : W) (y : W) (B : AH) (Q : WK) : Prop := match w, y with
  | .loc n, .t d => match B[n]? with
    | some (.live (.lst l)) => l.length < 400 ∧ Q (.t .non) (B.set n (.live (.lst (l ++ [d]))))
    | _ => False
  | _, _ => False
theorem appW_mono {w y : W} {B : AH} {Q Q' : WK} (k : ∀ w B, Q w B → Q' w B) (h : appW w y B Q) : appW w y B Q' := by
  unfold appW at h ⊢
  split at h <;> (try split at h) <;> first | exact ⟨h.1, k _ _ h.2⟩ | exact h.elim
theorem app_go {n : Nat} {d : D} {l : List D} {B : AH} {Q : WK} (h : B[n]? = some (.live (.lst l))) (hl : l.length < 400) (z : Q (.t .non) (B.set n (.live (.lst (l ++ [d]))))) : appW (.loc n) (.t d) B Q := by
  unfold appW
  show (match B[n]? with
    | some (.live (.lst l)) => l.length < 400 ∧ Q (.t .non) (B.set n (.live (.lst (l ++ [d]))))
    | _ => False)
  rw [h]
  exact ⟨hl, z⟩
def vApp (f g : Den) : Den := fun env A Q => f env A fun w B => (match w with | .loc n => ∃ l, B[n]? = some (.live (.lst l)) | _ => False) ∧ g env B fun y B2 => appW w y B2 Q
theorem se_app (ho : SE C o f) (ha : SE C a g) (hbase : ∀ env : PySem.Env, attributeBase o "append" env (eval o env) = eval o env)
    (hfew : ∀ env : PySem.Env, ((backTo cpos (starEach [a] env)).all (fun x => !x.1) && (backToKw cpos (keywordEach [] env)).all (fun x => x.1.isSome) && decide ([a].length + ([] : List Keyword).length + (if ([] : List Keyword).isEmpty then 0 else 1) < 30)) = true)
    (hline : (apos.endLine == cpos.line) = true) (hs : ∀ env : PySem.Env, starEach [a] env = (false, eval a env) :: starEach [] env) (hplain : ∀ env : PySem.Env, (backTo cpos (starEach [] env)).any (·.1) = false) :
    SE C (.Call (.Attribute o "append" apos) [a] [] cpos) (vApp f g) := by
  refine ⟨fun env A Q Q' k h => ho.mono _ _ _ _ (fun w B z => ⟨z.1, ha.mono _ _ _ _ (fun y B2 z2 => appW_mono k z2) z.2⟩) h, fun X hX => PE.weak (pe_bm PySem.F.plainAttrs_list PySem.F.slot_list_append PySem.F.type_list_append mt_append (ho.run X hX) (pa_cons (ha.run X hX) pa_nil (hs X.env)) (hbase X.env) (hfew X.env) hline (hs X.env) (hplain X.env)) fun σ H Q z => ?_⟩
  obtain ⟨env, m, A, er, hr, h⟩ := z
  refine ⟨env, m, A, er, hr, ho.mono _ _ _ _ (fun w B z v1 m1 H1 l1 hr1 r1 => ?_) h⟩
  obtain ⟨z0, z⟩ := z
  cases w with
  | t d => exact z0.elim
  | loc n =>
    obtain ⟨l0, hl0⟩ := z0
    obtain ⟨q, rfl, hq⟩ := r1
    obtain ⟨vs0, h0, _⟩ := hr1.cell n q _ hq hl0
    refine ⟨.inl ⟨rfl, vs0, SqL.of h0⟩, env, m1, B, er.lt l1 hr.len, hr1, ha.mono _ _ _ _ (fun y B2 z2 v2 m2 H2 l2 hr2 r2 => ?_) z⟩
    unfold appW at z2
    split at z2
    · rename_i n' d e1
      cases e1
      split at z2
      · rename_i l hc
        have hq2 := l2.mget hq
        obtain ⟨vs, h2, rs⟩ := hr2.cell n q _ hq2 hc
        have lp : Lt m2 B2 H2 m2 (B2.set n (.live (.lst (l ++ [d])))) (upd H2 q (.lst (vs ++ [v2]))) := Lt.put hr2.nd hq2 hc
        refine ⟨q, vs, v2, rfl, rfl, h2, by rw [← rs.length]; exact Nat.lt_of_lt_of_le z2.1 (len400 (Nat.le_refl _)), ?_⟩
        refine z2.2 .non m2 _ (l1.trans hr.len (l2.trans hr1.len lp)) (hr2.put hq2 hc ⟨vs ++ [v2], upd_same, ?_⟩) (by simp only [RepW, Rep])
        refine reps_app (Reps.lt lp hr2.len _ _ rs) ?_
        simp only [Reps]
        exact ⟨v2, [], rfl, RepW.lt lp hr2.len (.t d) _ r2, rfl⟩
      · exact z2.elim
    · exact z2.elim
/-! ### slices with written bounds -/
def cutD (xs : List D) (lo hi : Option Int) : List D := (xs.drop (HT.sIx xs.length 0 lo)).take (HT.sIx xs.length xs.length hi - HT.sIx xs.length 0 lo)
theorem reps_drop {K : PySem.W.Frag} {T : Tb} {m : List Addr} {A : AH} {H : Hp} : ∀ (n : Nat) {l : List D} {vs : List V}, Reps K T m A H l vs → Reps K T m A H (l.drop n) (vs.drop n)
  | 0, l, vs, h => h
  | n + 1, [], vs, h => by simp only [Reps] at h; subst h; simp [Reps]
  | n + 1, x :: l, vs, h => by
    simp only [Reps] at h
    obtain ⟨v, q, rfl, r1, r2⟩ := h
    exact reps_drop n r2
theorem reps_take {K : PySem.W.Frag} {T : Tb} {m : List Addr} {A : AH} {H : Hp} : ∀ (n : Nat) {l : List D} {vs : List V}, Reps K T m A H l vs → Reps K T m A H (l.take n) (vs.take n)
  | 0, l, vs, h => by simp [Reps]
  | n + 1, [], vs, h => by simp only [Reps] at h; subst h; simp [Reps]
  | n + 1, x :: l, vs, h => by
    simp only [Reps] at h
    obtain ⟨v, q, rfl, r1, r2⟩ := h
    simp only [List.take_succ_cons, Reps]
    exact ⟨v, _, rfl, r1, reps_take n r2⟩
def slcW (lo hi : Option Int) (w : W) (B : AH) (Q : WK) : Prop := match w with
  | .t (.lst l) => Q (.t (.lst (cutD l lo hi))) B
  | .t (.tup l) => ¬ (HT.sIx l.length 0 lo = 0 ∧ HT.sIx l.length l.length hi = l.length) ∧ Q (.t (.tup (cutD l lo hi))) B
  | _ => False
def vSlc (lo hi : Option Int) (f : Den) : Den := fun env A Q => f env A fun w B => slcW lo hi w B Q
/-- a bound that is written, or none -/
structure Bnd (e : Option Expr) (i : Option Int) : Prop where
  ex : (e = none ∧ i = none) ∨ ∃ (j : Int) (q : Nat) (ps : Pos), e = some (.Constant (.int j) q ps) ∧ i = some j
theorem bnd_none : Bnd none none := ⟨.inl ⟨rfl, rfl⟩⟩
theorem bnd_some {j : Int} {q : Nat} {ps : Pos} : Bnd (some (.Constant (.int j) q ps)) (some j) := ⟨.inr ⟨j, q, ps, rfl, rfl⟩⟩
theorem po_bnd {X : Cx} {e : Option Expr} {i : Option Int} (h : Bnd e i) : PO X e (fun _ H Q => Q i H) := by
  rcases h.ex with ⟨rfl, rfl⟩ | ⟨j, q, ps, rfl, rfl⟩
  · exact po_none
  · refine ⟨fun pins s σ H Q I z => (po_some pe_int).run pins s σ H Q I ?_⟩
    exact ⟨j, rfl, z⟩
theorem se_slc {lo hi : Option Expr} {l u : Option Int} (ha : SE C a f) (h1 : Bnd lo l) (h2 : Bnd hi u) : SE C (.Subscript a (.Slice lo hi none p2) pos) (vSlc l u f) := by
  refine ⟨fun env A Q Q' k h => ha.mono _ _ _ _ (fun w B z => ?_) h, fun X hX => PE.weak (pe_slice (sl_list.or sl_tup) (ha.run X hX) (po_bnd h1) (po_bnd h2)) fun σ H Q z => ?_⟩
  · unfold slcW at z ⊢
    split at z
    · exact k _ _ z
    · exact ⟨z.1, k _ _ z.2⟩
    · exact z.elim
  · obtain ⟨env, m, A, er, hr, h⟩ := z
    refine ⟨env, m, A, er, hr, ha.mono _ _ _ _ (fun w B z v m1 H1 l1 hr1 r1 => ?_) h⟩
    unfold slcW at z
    split at z
    · simp only [RepW, Rep] at r1
      obtain ⟨q, vs, rfl, hq, rs⟩ := r1
      refine .inl ⟨q, vs, rfl, by rw [hX.g.K]; exact lst_sq hq, fun x hx => z (.ref x) m1 _ (l1.trans hr.len (Lt.new hx)) (hr1.new hx) ?_⟩
      simp only [RepW, Rep]
      refine ⟨x, _, rfl, .inl ⟨.inl upd_same, Fr.of_notin (hr1.notin hx)⟩, Reps.lt (Lt.new hx) hr1.len _ _ ?_⟩
      unfold cutD cutV
      rw [rs.length]
      exact reps_take _ (reps_drop _ rs)
    · simp only [RepW, Rep] at r1
      obtain ⟨q, vs, rfl, hq, rs⟩ := r1
      refine .inr ⟨q, vs, rfl, by rw [hX.g.K]; exact tup_sq hq, by rw [← rs.length]; exact z.1, fun x hx => z.2 (.ref x) m1 _ (l1.trans hr.len (Lt.new hx)) (hr1.new hx) ?_⟩
      simp only [RepW, Rep]
      refine ⟨x, _, rfl, .inl ⟨.inl upd_same, Fr.of_notin (hr1.notin hx)⟩, Reps.lt (Lt.new hx) hr1.len _ _ ?_⟩
      unfold cutD cutV
      rw [rs.length]
      exact reps_take _ (reps_drop _ rs)
    · exact z.elim
end
end Hw
namespace Hw
open PySem L2 PyProof.Rows
open Builtin Builtin.List
/-! ### repr of trees with own instances within: what the state says goes on -/
section
variable {w : World} {prog : Program}
/-- one text within, from states that P holds of -/
def RpS (prog : Program) (w : World) (Ar : Around) (P : Shared → Prop) (x : Value) (t : Str) : Prop :=
  ∀ (base : Nat), base + t.length ≤ sizeLine → ∀ (E : Value → Shared → Prop) (s : Shared), P s → wpAny (model prog w) Ar (pyReprUnder base x) (fun y s' => y = t ∧ P s') E s
theorem under_own {A : Around} {E : Value → Shared → Prop} {s : Shared} {K : PySem.W.Frag} {x C f : Addr} {ox : Obj} {od : Option Obj} {b : Nat} {Q : Str → Shared → Prop} (hb : b ≤ sizeLine) (hu : A.units < cLine) (X : K.In s.heap) (I : PySem.W.InstAt s.heap x ox C od)
    (hs : PySem.W.findIn K (.ref C) "__repr__" = some (some (.ref f))) (hf : PySem.W.isFn K (.ref f) = true)
    (h : wpAny (model prog w) A (call (.ref f) [.ref x]) (fun v s' => ∃ t u, v = .str t u ∧ Q t s') E s) : wpAny (model prog w) A (pyReprUnder b (.ref x)) Q E s := by
  refine wpAny_pyReprUnder_ref hb ?_
  unfold pyReprObjUnder
  unfold pyReprObjBy
  refine wpAny_bind (wpAny_cRoomFor (by exact hu) ?_)
  refine wpAny_bind (wpAny_bind (I.type.here ((PySem.W.looks_findIn X hs).here ?_)))
  show wpAny (model prog w) A (if (some (Value.ref f)).isNone = true then _ else _) _ E s
  rw [if_neg (by simp)]
  have fin : wpAny (model prog w) A (call (.ref f) [.ref x] >>= fun v => pure (some v)) (fun r s' => ∃ t u, r = some (.str t u) ∧ Q t s') E s :=
    wpAny_bind (wpAny_mono h (fun v s' h' => by obtain ⟨t, u, rfl, q⟩ := h'; exact wpAny_pure ⟨t, u, rfl, q⟩) fun _ _ h' => h')
  refine wpAny_bind (wpAny_mono (Q := fun r s' => ∃ t u, r = some (.str t u) ∧ Q t s') ?_ (fun r s' hr => ?_) fun _ _ y => y)
  · simp only [callSpecialIfBoundBy?, bindSpecialIfBound?]
    apply wpAny_holding; apply wpAny_bind; apply wpAny_bind; apply wpAny_bind
    refine I.type.here ((PySem.W.looks_findIn X hs).here ?_)
    apply wpAny_bind; apply wpAny_askSetting; apply wpAny_ite
    split
    · exact wpAny_bind ((PySem.W.bind_fn X _ (beq_iff_eq.mp hf)).here (wpAny_pure (by exact fin)))
    · exact wpAny_tryCatch (wpAny_bind ((PySem.W.bind_fn X _ (beq_iff_eq.mp hf)).here (wpAny_pure (by exact fin))))
  · obtain ⟨t, u, rfl, q⟩ := hr
    exact wpAny_bind (wpAny_isInstance (T := "str") (b := true) rfl isSubtype_str_str (wpAny_pure ⟨t, u, rfl, q⟩))
theorem piled_two : ∀ ts : List Str, 2 * ts.length ≤ piled ts
  | [] => Nat.zero_le _
  | t :: r => by have := piled_two r; rw [piled_cons, List.length_cons]; omega
theorem piled_in : ∀ {ts : List Str} {i : Nat} {t : Str}, ts[i]? = some t → t.length + 2 ≤ piled ts
  | [], i, t, h => by simp at h
  | x :: r, 0, t, h => by simp at h; subst h; rw [piled_cons]; omega
  | x :: r, i + 1, t, h => by have := piled_in (ts := r) (i := i) (t := t) (by simpa using h); rw [piled_cons]; omega
/-- how a builtin's turn ends: done, or once more -/
abbrev TurnEnd (M : Model) (A : Around) (R : Result → Shared → Prop) : Fin → Shared → Prop := fun fin s' => match fin with
  | .done f => R (.ok f) s'
  | .again c' => c'.quiet = true ∧ codeAny M A c' R s'
/-- the loop's code at its i-th item: so many signs are laid by then -/
abbrev loopAt (a p : Addr) (i n : Nat) : Code := .builtin "list.__repr__.loop" ⟨[.ref a, rawInt i, .ref p, rawInt ((n : Nat) : Int)], []⟩
abbrev partsObj (acc : Array Value) (c : Nat) : Obj := { cls := .type "list", dict := none, data := .seq acc c, slots := #[] }
/-- the list's loop over what goes on: P o is what the state says while the parts are o -/
theorem ev_repr_loop {A : Around} {R : Result → Shared → Prop} {a p : Addr} {N : Nat} {ts : List Str} {base : Nat} {P : Obj → Shared → Prop} {Pr : Nat → Value → Prop} (hlen : ts.length = N)
    (hget : ∀ o s, P o s → s.heap.get? p = some o)
    (hone : ∀ o s, P o s → ∃ (oa : Obj) (items : Array Value) (n : Nat), s.heap.get? a = some oa ∧ oa.data = .seq items n ∧ items.size = N ∧ ∀ j (h : j < items.size), Pr j items[j])
    (hupd : ∀ o s h' tk o', P o s → (∀ b u, b ≠ p → s.heap.get? b = some u → h'.get? b = some u) → h'.get? p = some o' → (∀ v, o'.data ≠ .cell v) → P o' { s with heap := h', toks := tk })
    (hT : ∀ j x, Pr j x → ∃ t, ts[j]? = some t ∧ ∀ o rest, RpS prog w (A.under (.builtin "list.__repr__.loop" ⟨.ref a :: rest, []⟩)) (P o) x t)
    (hsz : base + (listText ts).length ≤ sizeLine) (hR : ∀ o u s, P o s → R (.ok (.ret (.str (listText ts) u))) s) (left : Nat) :
    ∀ (i : Nat) (s : Shared) (acc : Array Value) (c : Nat) (laid : List (Str × Tok)), i + left = N → P (partsObj acc c) s → acc.toList = strValues laid → laid.map (·.1) = ts.take i →
    codeAny (model prog w) A (loopAt a p i (base + piled (ts.take i))) R s := by
  have lim := piled_le_listText ts
  have many := piled_two ts
  induction left with
  | zero =>
    intro i s acc c laid at_end hP e1 e2
    obtain ⟨oa, its, n, g1, d1, z1, _⟩ := hone _ _ hP
    apply codeAny_builtin F.entry_list_repr_loop
    show wpAny (model prog w) _ («list.__repr__.loop» ⟨[.ref a, .int i 0, .ref p, .int ((base + piled (ts.take i) : Nat) : Int) 0], []⟩) _ _ s
    rw [repr_loop_tree]
    apply wpAny_bind; apply wpAny_listItems g1 d1
    rw [show its[((i : Nat) : Int).toNat]? = none from by simp; omega]
    show wpAny (model prog w) _ (reprEnd (.ref p)) _ _ s
    unfold reprEnd
    apply wpAny_bind; apply wpAny_listItems (hget _ _ hP) rfl
    have all_laid : laid.map (·.1) = ts := by rw [e2]; exact List.take_of_length_le (by omega)
    rw [e1, repr_fold, all_laid]
    apply wpAny_bind; apply wpAny_pure; apply wpAny_bind
    exact wpAny_mkStr (wpAny_pure (hR _ _ _ (hupd _ s s.heap _ _ hP (fun _ _ _ e => e) (hget _ _ hP) fun v => (nomatch ·)))) (Nat.le_trans (Nat.le_add_left _ base) hsz)
  | succ left ih =>
    intro i s acc c laid at_ hP e1 e2
    obtain ⟨oa, its, n, g1, d1, z1, pr⟩ := hone _ _ hP
    have hi : i < its.size := by omega
    obtain ⟨t, ht, text⟩ := hT i its[i] (pr i hi)
    have t2 := piled_in ht
    have next := piled_take_succ ht
    have below := piled_take_le ts (i + 1)
    apply codeAny_builtin F.entry_list_repr_loop
    show wpAny (model prog w) _ («list.__repr__.loop» ⟨[.ref a, .int i 0, .ref p, .int ((base + piled (ts.take i) : Nat) : Int) 0], []⟩) _ _ s
    rw [repr_loop_tree]
    apply wpAny_bind; apply wpAny_listItems g1 d1
    rw [show its[((i : Nat) : Int).toNat]? = some its[i] from by rw [Int.toNat_natCast]; exact Array.getElem?_eq_getElem hi]
    simp only [Int.toNat_natCast]
    apply wpAny_bind; apply wpAny_holding
    refine wpAny_mono (text _ _ (base + piled (ts.take i) + 1) (by omega) _ _ hP) (fun y s2 hy => ?_) fun _ _ e => e
    obtain ⟨rfl, hP2⟩ := hy
    have there := hget _ _ hP2
    apply wpAny_bind
    refine wpAny_mkStr ?_ (by omega)
    apply wpAny_bind
    show wpAny (model prog w) _ (updateSeq p _) _ _ _
    have few : acc.size ≤ sizeLine := by
      have h1 : acc.size = laid.length := by rw [← Array.length_toList, e1]; exact List.length_map _
      have h2 : laid.length = min i ts.length := by rw [← List.length_map (f := (·.1)), e2, List.length_take]
      omega
    refine wpAny_updateSeq there rfl (wpAny_pure ⟨F.quiet_list_repr_loop _, ?_⟩) few
    rw [show ((i : Int) + 1) = ((i + 1 : Nat) : Int) from rfl, show base + piled (ts.take i) + (y.length + 2) = base + piled (ts.take (i + 1)) from by omega]
    exact ih (i + 1) _ (acc.push (.str y s2.toks)) _ (laid ++ [(y, s2.toks)]) (by omega)
      (hupd _ s2 _ _ _ hP2 (fun b u hb e => (Heap.get?_update_other _ _ (Ne.symm hb)).trans e) (Heap.get?_update_self _ there rfl) (fun v => (nomatch ·)))
      (by rw [Array.toList_push, e1]; simp [strValues]) (by rw [List.map_append, e2, List.take_add_one, ht]; rfl)
def RpAll (prog : Program) (w : World) (Ar : Around) (P : Shared → Prop) : List Value → List Str → Prop
  | [], ts => ts = []
  | x :: l, ts => ∃ t r, ts = t :: r ∧ RpS prog w Ar P x t ∧ RpAll prog w Ar P l r
theorem RpAll.length {Ar : Around} {P : Shared → Prop} : ∀ {l : List Value} {ts : List Str}, RpAll prog w Ar P l ts → ts.length = l.length
  | [], ts, h => by simp only [RpAll] at h; subst h; rfl
  | x :: l, ts, h => by
    simp only [RpAll] at h
    obtain ⟨t, r, rfl, _, h⟩ := h
    rw [List.length_cons, List.length_cons, h.length]
theorem ev_tupFold {A : Around} {E : Value → Shared → Prop} {P : Shared → Prop} : ∀ (l : List Value) (ts : List Str) (acc : Array Str) (n : Nat) (s : Shared), RpAll prog w A P l ts → n + piled ts ≤ sizeLine → P s →
    wpAny (model prog w) A (forIn l (⟨acc, n⟩ : (Array Str × Nat)) tupBody) (fun r s' => r = ⟨acc ++ ts.toArray, n + piled ts⟩ ∧ P s') E s
  | [], ts, acc, n, s, h, _, hP => by
    simp only [RpAll] at h
    subst h
    simp only [List.forIn_nil]
    exact wpAny_pure ⟨by simp [piled], hP⟩
  | x :: l, ts, acc, n, s, h, hn, hP => by
    simp only [RpAll] at h
    obtain ⟨t, r, rfl, h1, h2⟩ := h
    rw [piled_cons] at hn
    rw [List.forIn_cons]
    refine wpAny_bind (wpAny_bind (wpAny_mono (h1 (n + 1) (by omega) _ s hP) (fun y s2 hy => ?_) fun _ _ e => e))
    obtain ⟨rfl, hP2⟩ := hy
    refine wpAny_pure ?_
    refine wpAny_mono (ev_tupFold l r (acc.push y) (n + (y.length + 2)) s2 h2 (by omega) hP2) (fun q s3 hq => ?_) fun _ _ e => e
    obtain ⟨rfl, hP3⟩ := hq
    exact ⟨by rw [piled_cons]; simp [Nat.add_assoc], hP3⟩
theorem ev_tup_own {a : Addr} {o : Obj} {items : Array Value} {n : Nat} {ts : List Str} {A : Around} {g : List Code} {s : Shared} {P : Shared → Prop} {R : Result → Shared → Prop} {base : Nat} {id : String} {rest : List Value}
    (ha : s.heap.get? a = some o) (hd : o.data = .seq items n) (hT : RpAll prog w (A.under (.builtin id ⟨.ref a :: rest, []⟩)) P items.toList ts)
    (hg : A.guards = some g) (hca : Clear g a) (hP : P s) (htok : ∀ s tk, P s → P { s with toks := tk })
    (hR : ∀ u s', P s' → R (.ok (.ret (.str (tupleText ts) u))) s') (hsz : base + (tupleText ts).length ≤ sizeLine) :
    wpOwn (model prog w) A (.builtin id ⟨.ref a :: rest, []⟩) (Builtin.tupleReprAt base ⟨[.ref a], []⟩) (TurnEnd (model prog w) A R) (fun e s' => R (.error e) s') s := by
  have same : items.size = ts.length := by rw [hT.length]; simp
  have lim := piled_le_tupleText ts
  have no : (g.any fun c => tupGuardF (.ref a) (c, default)) = false := List.any_eq_false.mpr fun c hc => by simp [tupGuardF_of_clear hca c hc]
  rw [tuple_repr_tree]
  rw [tupleReprUnderWay_eq]
  apply wpOwn_bind
  refine wpOwn_stackTailAny hg (tupGuardF_off _) (tupGuardF_pos _) ?_
  rw [no]
  apply wpOwn_of_wpAny
  show wpAny (model prog w) _ (tupleReprRest base (.ref a)) _ _ s
  unfold tupleReprRest; unfold Builtin.Tuple.tupleItemsOf
  apply wpAny_bind; apply wpAny_bind
  refine wpAny_seqItems ha hd (wpAny_pure ?_)
  rw [← Array.forIn_toList]
  refine wpAny_bind (wpAny_mono (ev_tupFold _ ts _ _ _ hT (by omega) hP) (fun q s3 hq => ?_) fun _ _ e => e)
  obtain ⟨rfl, hP3⟩ := hq
  have fin := hR s3.toks _ (htok _ (s3.toks + 1) hP3)
  have whole : tupleText ts = ("(" : Str) ++ Str.join ", " (((#[] : Array Str) ++ ts.toArray).toList) ++ (if items.size == 1 then ",)" else ")" : String) := by
    unfold tupleText
    rw [same]
    simp
  rw [whole] at fin hsz
  apply wpAny_bind
  exact wpAny_mkStr (wpAny_pure fin) (Nat.le_trans (Nat.le_add_left _ base) hsz)
/-- the list's head and loop -/
theorem ev_lst_head {a : Addr} {ts : List Str} {A : Around} {g : List Code} {s : Shared} {P : Obj → Shared → Prop} {R : Result → Shared → Prop} {base N : Nat} {Pr : Nat → Value → Prop} (hN : N ≠ 0) (hlen : ts.length = N)
    (hg : A.guards = some g) (hca : Clear g a)
    (hget : ∀ o s', P o s' → s'.heap.get? s.heap.objs.size = some o)
    (hone0 : ∃ (oa : Obj) (items : Array Value) (n : Nat), s.heap.get? a = some oa ∧ oa.data = .seq items n ∧ items.size = N)
    (hone : ∀ o s', P o s' → ∃ (oa : Obj) (items : Array Value) (n : Nat), s'.heap.get? a = some oa ∧ oa.data = .seq items n ∧ items.size = N ∧ ∀ j (h : j < items.size), Pr j items[j])
    (hupd : ∀ o s' h' tk o', P o s' → (∀ b u, b ≠ s.heap.objs.size → s'.heap.get? b = some u → h'.get? b = some u) → h'.get? s.heap.objs.size = some o' → (∀ v, o'.data ≠ .cell v) → P o' { s' with heap := h', toks := tk })
    (hnew : ∀ c, P (partsObj #[] c) { s with heap := s.heap.push (partsObj #[] c) })
    (hT : ∀ j x, Pr j x → ∃ t, ts[j]? = some t ∧ ∀ o rest, RpS prog w (A.under (.builtin "list.__repr__.loop" ⟨.ref a :: rest, []⟩)) (P o) x t)
    (hsz : base + (listText ts).length ≤ sizeLine) (hR : ∀ o u s', P o s' → R (.ok (.ret (.str (listText ts) u))) s') :
    wpAny (model prog w) A.in1 (Builtin.listReprAt base ⟨[.ref a], []⟩) (TurnEnd (model prog w) A R) (fun e s' => R (.error e) s') s := by
  obtain ⟨oa, items, n, ha, hd, hz⟩ := hone0
  obtain ⟨l⟩ := items
  cases l with
  | nil => exact absurd hz.symm (by simpa using hN)
  | cons x l =>
    refine wpAny_list_repr_head (A := A.in1) hg (fun v r kw hm => listSameRef_of_ne (hca _ _ _ _ hm)) ha hd ?_
    apply wpAny_bind (m := newList [])
    refine wpAny_newObj_type (wpAny_pure ?_)
    refine ⟨F.quiet_list_repr_loop _, ?_⟩
    exact ev_repr_loop (P := P) (Pr := Pr) (p := s.heap.objs.size) hlen hget hone hupd hT hsz hR N 0 _ #[] _ [] (Nat.zero_add _) (hnew _) rfl (by simp)
end
end Hw
namespace Hw
open PySem L2 PyProof.Rows
/-! ### texts of trees -/
mutual
def dp : D → Nat
  | .tup l => dps l + 1
  | .lst l => dps l + 1
  | _ => 0
def dps : List D → Nat
  | [] => 0
  | d :: l => max (dp d) (dps l)
end
theorem dps_get : ∀ {l : List D} {j : Nat} {d : D}, l[j]? = some d → dp d ≤ dps l
  | [], j, d, h => by simp at h
  | x :: l, 0, d, h => by simp at h; subst h; unfold dps; exact Nat.le_max_left _ _
  | x :: l, j + 1, d, h => by unfold dps; exact Nat.le_trans (dps_get (l := l) (j := j) (by simpa using h)) (Nat.le_max_right _ _)
def rdTs (f : D → Option Str) : List D → Option (List Str)
  | [] => some []
  | d :: l => match f d, rdTs f l with
    | some t, some ts => some (t :: ts)
    | _, _ => none
theorem rdTs_get {f : D → Option Str} : ∀ {l : List D} {ts : List Str}, rdTs f l = some ts → ts.length = l.length ∧ ∀ (j : Nat) d, l[j]? = some d → ∃ t, f d = some t ∧ ts[j]? = some t
  | [], ts, h => by
    simp only [rdTs] at h
    cases h
    exact ⟨rfl, fun j d h => by simp at h⟩
  | x :: l, ts, h => by
    simp only [rdTs] at h
    split at h
    · rename_i t r h1 h2
      cases h
      obtain ⟨a, b⟩ := rdTs_get h2
      refine ⟨by rw [List.length_cons, List.length_cons, a], fun j d hj => ?_⟩
      cases j with
      | zero => simp at hj; subst hj; exact ⟨t, h1, rfl⟩
      | succ j => obtain ⟨t', g1, g2⟩ := b j d (by simpa using hj); exact ⟨t', g1, by simpa using g2⟩
    · cases h
def rdT (lf : D → Option Str) : Nat → D → Option Str
  | n + 1, .tup l => (rdTs (rdT lf n) l).map tupleText
  | n + 1, .lst l => (rdTs (rdT lf n) l).map listText
  | _, d => lf d
structure LeafD (G : Gc) (lf : D → Option Str) : Prop where
  tup : ∀ l, lf (.tup l) = none
  lst : ∀ l, lf (.lst l) = none
  ins : ∀ d t m A H a, lf d = some t → Rep G.K G.T m A H d (.ref a) → ∃ C dx fs, H a = some (.ins C dx fs)
section
variable {G : Gc} {k : Nat} {lf : D → Option Str} {X : Cx} {pins : List (Addr × Obj)} {σ : L2.St} {m : List Addr} {A : AH} {H : Hp} {s : Shared}
theorem no_lst_ins (I : Inv X pins σ H s) {a C dx : Addr} {fs : List (Str × V)} {vs : List V} (h : SqL X.K H a vs) (h' : H a = some (.ins C dx fs)) : False := by
  obtain ⟨its, _, ⟨o, n, e, c, _⟩, _⟩ := I.list h
  obtain ⟨mA, Ob, _⟩ := ins_get I.hok h'
  obtain ⟨od, J, _⟩ := Ob.look
  have e2 := J.at_
  rw [e] at e2
  cases e2
  have c2 := J.cls
  rw [c] at c2
  cases c2
theorem no_tup_ins (I : Inv X pins σ H s) {a C dx : Addr} {fs : List (Str × V)} {vs : List V} (h : SqT X.K H a vs) (h' : H a = some (.ins C dx fs)) : False := by
  obtain ⟨its, _, ⟨o, e, c, _⟩, _⟩ := I.tuple h
  obtain ⟨mA, Ob, _⟩ := ins_get I.hok h'
  obtain ⟨od, J, _⟩ := Ob.look
  have e2 := J.at_
  rw [e] at e2
  cases e2
  have c2 := J.cls
  rw [c] at c2
  cases c2
theorem no_lst_tup (I : Inv X pins σ H s) {a : Addr} {vs vs' : List V} (h : SqL X.K H a vs) (h' : SqT X.K H a vs') : False := by
  obtain ⟨its, _, ⟨o, n, e, c, _⟩, _⟩ := I.list h
  obtain ⟨its', _, ⟨o', e', c', _⟩, _⟩ := I.tuple h'
  rw [e] at e'
  cases e'
  rw [c] at c'
  simp at c'
theorem reps_dps {f f' : D → Option Str} (hf : ∀ d d' v t t', f d = some t → f' d' = some t' → Rep G.K G.T m A H d v → Rep G.K G.T m A H d' v → dp d = dp d') : ∀ {l r : List D} {vs : List V} {ts ts' : List Str}, rdTs f l = some ts → rdTs f' r = some ts' → Reps G.K G.T m A H l vs → Reps G.K G.T m A H r vs → dps l = dps r
  | [], [], vs, ts, ts', _, _, _, _ => rfl
  | [], y :: r, vs, ts, ts', _, _, h1, h2 => by
    simp only [Reps] at h1 h2
    subst h1
    obtain ⟨_, _, e, _⟩ := h2
    cases e
  | x :: l, [], vs, ts, ts', _, _, h1, h2 => by
    simp only [Reps] at h1 h2
    subst h2
    obtain ⟨_, _, e, _⟩ := h1
    cases e
  | x :: l, y :: r, vs, ts, ts', e1, e2, h1, h2 => by
    simp only [Reps] at h1 h2
    simp only [rdTs] at e1 e2
    obtain ⟨v, q, rfl, p1, p2⟩ := h1
    obtain ⟨v', q', e, p3, p4⟩ := h2
    cases e
    split at e1
    · rename_i t1 r1 ha hb
      split at e2
      · rename_i t2 r2 hc hd
        unfold dps
        rw [hf _ _ _ _ _ ha hc p1 p3, reps_dps hf hb hd p2 p4]
      · cases e2
    · cases e1
/-- the three forms of what has a text -/
theorem rdT_cases (L : LeafD G lf) {n : Nat} {d : D} {t : Str} (h : rdT lf n d = some t) : (∃ n0 l ts, n = n0 + 1 ∧ d = .tup l ∧ rdTs (rdT lf n0) l = some ts ∧ t = tupleText ts) ∨ (∃ n0 l ts, n = n0 + 1 ∧ d = .lst l ∧ rdTs (rdT lf n0) l = some ts ∧ t = listText ts) ∨ (lf d = some t ∧ dp d = 0) := by
  have leaf : lf d = some t → (∃ n0 l ts, n = n0 + 1 ∧ d = .tup l ∧ rdTs (rdT lf n0) l = some ts ∧ t = tupleText ts) ∨ (∃ n0 l ts, n = n0 + 1 ∧ d = .lst l ∧ rdTs (rdT lf n0) l = some ts ∧ t = listText ts) ∨ (lf d = some t ∧ dp d = 0) := fun h => by
    refine .inr (.inr ⟨h, ?_⟩)
    cases d <;> first | rfl | (rw [L.tup] at h; cases h) | (rw [L.lst] at h; cases h)
  unfold rdT at h
  split at h
  · rw [Option.map_eq_some_iff] at h
    obtain ⟨ts, h1, rfl⟩ := h
    exact .inl ⟨_, _, ts, rfl, rfl, h1, rfl⟩
  · rw [Option.map_eq_some_iff] at h
    obtain ⟨ts, h1, rfl⟩ := h
    exact .inr (.inl ⟨_, _, ts, rfl, rfl, h1, rfl⟩)
  · exact leaf h
theorem rd_dp (L : LeafD G lf) (hK : X.K = G.K) (I : Inv X pins σ H s) : ∀ (n n' : Nat) (d d' : D) (v : V) (t t' : Str), rdT lf n d = some t → rdT lf n' d' = some t' → Rep G.K G.T m A H d v → Rep G.K G.T m A H d' v → dp d = dp d' := by
  intro n
  induction n with
  | zero =>
    intro n' d d' v t t' h h' r r'
    rcases rdT_cases L h with ⟨n0, l, ts, e, _⟩ | ⟨n0, l, ts, e, _⟩ | ⟨h0, z0⟩
    · cases e
    · cases e
    rw [z0]
    rcases rdT_cases L h' with ⟨n1, l1, ts1, _, rfl, _, _⟩ | ⟨n1, l1, ts1, _, rfl, _, _⟩ | ⟨h1, z1⟩
    · simp only [Rep] at r'
      obtain ⟨a, vs, rfl, q, _⟩ := r'
      obtain ⟨C, dx, fs, hi⟩ := L.ins _ _ _ _ _ _ h0 r
      exact (no_tup_ins I (by rw [hK]; exact tup_sq q) hi).elim
    · simp only [Rep] at r'
      obtain ⟨a, vs, rfl, q, _⟩ := r'
      obtain ⟨C, dx, fs, hi⟩ := L.ins _ _ _ _ _ _ h0 r
      exact (no_lst_ins I (by rw [hK]; exact lst_sq q) hi).elim
    · exact z1.symm
  | succ n ih =>
    intro n' d d' v t t' h h' r r'
    rcases rdT_cases L h with ⟨n0, l, ts, e, rfl, hl, _⟩ | ⟨n0, l, ts, e, rfl, hl, _⟩ | ⟨h0, z0⟩
    · obtain rfl : n = n0 := by omega
      simp only [Rep] at r
      obtain ⟨a, vs, rfl, q, r⟩ := r
      rcases rdT_cases L h' with ⟨n1, l1, ts1, _, rfl, hl1, _⟩ | ⟨n1, l1, ts1, _, rfl, _, _⟩ | ⟨h1, z1⟩
      · simp only [Rep] at r'
        obtain ⟨a', vs', e', q', r'⟩ := r'
        cases e'
        have ev := I.tuple_inj (by rw [hK]; exact tup_sq q) (by rw [hK]; exact tup_sq q')
        subst ev
        unfold dp
        rw [reps_dps (fun d d' v t t' => ih n1 d d' v t t') hl hl1 r r']
      · simp only [Rep] at r'
        obtain ⟨a', vs', e', q', r'⟩ := r'
        cases e'
        exact (no_lst_tup I (by rw [hK]; exact lst_sq q') (by rw [hK]; exact tup_sq q)).elim
      · obtain ⟨C, dx, fs, hi⟩ := L.ins _ _ _ _ _ _ h1 r'
        exact (no_tup_ins I (by rw [hK]; exact tup_sq q) hi).elim
    · obtain rfl : n = n0 := by omega
      simp only [Rep] at r
      obtain ⟨a, vs, rfl, q, r⟩ := r
      rcases rdT_cases L h' with ⟨n1, l1, ts1, _, rfl, hl1, _⟩ | ⟨n1, l1, ts1, _, rfl, hl1, _⟩ | ⟨h1, z1⟩
      · simp only [Rep] at r'
        obtain ⟨a', vs', e', q', r'⟩ := r'
        cases e'
        exact (no_lst_tup I (by rw [hK]; exact lst_sq q) (by rw [hK]; exact tup_sq q')).elim
      · simp only [Rep] at r'
        obtain ⟨a', vs', e', q', r'⟩ := r'
        cases e'
        have ev := I.list_inj (by rw [hK]; exact lst_sq q) (by rw [hK]; exact lst_sq q')
        subst ev
        unfold dp
        rw [reps_dps (fun d d' v t t' => ih n1 d d' v t t') hl hl1 r r']
      · obtain ⟨C, dx, fs, hi⟩ := L.ins _ _ _ _ _ _ h1 r'
        exact (no_lst_ins I (by rw [hK]; exact lst_sq q) hi).elim
    · rw [z0]
      rcases rdT_cases L h' with ⟨n1, l1, ts1, _, rfl, _, _⟩ | ⟨n1, l1, ts1, _, rfl, _, _⟩ | ⟨h1, z1⟩
      · simp only [Rep] at r'
        obtain ⟨a, vs, rfl, q, _⟩ := r'
        obtain ⟨C, dx, fs, hi⟩ := L.ins _ _ _ _ _ _ h0 r
        exact (no_tup_ins I (by rw [hK]; exact tup_sq q) hi).elim
      · simp only [Rep] at r'
        obtain ⟨a, vs, rfl, q, _⟩ := r'
        obtain ⟨C, dx, fs, hi⟩ := L.ins _ _ _ _ _ _ h0 r
        exact (no_lst_ins I (by rw [hK]; exact lst_sq q) hi).elim
      · exact z1.symm
/-! ### later states -/
theorem later_tok (tk : Nat) (h : Later G X pins σ m A H s) : Later G X pins σ m A H { s with toks := tk } := by
  obtain ⟨m1, H1, I, l, r⟩ := h
  exact ⟨m1, H1, I.tok tk, l, r⟩
theorem later_drop {q : Addr × Obj} (h : Later G X (q :: pins) σ m A H s) : Later G X pins σ m A H s := by
  obtain ⟨m1, H1, I, l, r⟩ := h
  exact ⟨m1, H1, I.pins_of (fun p hp => I.pin p (List.mem_append_right _ (List.mem_cons_of_mem _ hp))), l, r⟩
theorem later_get {p : Addr} {o : Obj} (h : Later G X ((p, o) :: pins) σ m A H s) : s.heap.get? p = some o := by
  obtain ⟨m1, H1, I, l, r⟩ := h
  exact (I.pin (p, o) (List.mem_append_right _ (List.mem_cons_self ..))).1
theorem later_upd {p : Addr} {o o' : Obj} {h' : Heap} {tk : Nat} (stat : ∀ H' : Hp, H' p = none → FpOk X pins H' p) (h : Later G X ((p, o) :: pins) σ m A H s) (hk : ∀ b u, b ≠ p → s.heap.get? b = some u → h'.get? b = some u) (hp : h'.get? p = some o') (hc : ∀ v, o'.data ≠ .cell v) :
    Later G X ((p, o') :: pins) σ m A H { s with heap := h', toks := tk } := by
  obtain ⟨m1, H1, I, l, r⟩ := h
  obtain ⟨g1, g2, g3, g4, g5⟩ := I.pin (p, o) (List.mem_append_right _ (List.mem_cons_self ..))
  have I0 : Inv X pins σ H1 s := I.pins_of (fun p hp => I.pin p (List.mem_append_right _ (List.mem_cons_of_mem _ hp)))
  have I1 : Inv X pins σ H1 { s with heap := h', toks := tk } := I0.turnedL (ch := [p]) (fun b o hb e => hk b o (fun z => hb (by rw [z]; exact List.mem_cons_self ..)) e) (fun b hb => by
    obtain rfl : b = p := by simpa using hb
    exact stat H1 g2)
  exact ⟨m1, H1, I1.pins_of (fun q hq => by
    rcases List.mem_cons.1 hq with rfl | hq
    · exact ⟨hp, g2, g3, g4, hc⟩
    · exact I1.pin q (List.mem_append_right _ hq)), l, r⟩
theorem later_new {o : Obj} (hc : ∀ v, o.data ≠ .cell v) (h : Later G X pins σ m A H s) (hs : o.isFreed = false) : Later G X ((s.heap.objs.size, o) :: pins) σ m A H { s with heap := s.heap.push o } ∧ ∀ H' : Hp, H' s.heap.objs.size = none → FpOk X pins H' s.heap.objs.size := by
  obtain ⟨m1, H1, I, l, r⟩ := h
  have I1 : Inv X pins σ H1 { s with heap := s.heap.push o } := I.kept (t' := s.toks) (h' := s.heap.push o) fun b u e => Heap.get?_push_of_some _ e
  refine ⟨⟨m1, H1, I1.pins_of (fun q hq => ?_), l, r⟩, fun H' hn => I.fpOk (Nat.le_refl _) hn⟩
  rcases List.mem_cons.1 hq with rfl | hq
  · exact ⟨Heap.get?_push_size _ hs, I.fresh, Nat.ne_of_gt I.lt, I.nofs (Nat.le_refl _), hc⟩
  · exact I1.pin q (List.mem_append_right _ hq)
end
end Hw
namespace Hw
open PySem L2 PyProof.Rows
section
variable {G : Gc} {k : Nat} {lf : D → Option Str} {X : Cx} {pins : List (Addr × Obj)} {σ : L2.St} {m : List Addr} {A : AH} {H : Hp} {s : Shared}
/-- no text of the depth n runs among the guards -/
def ClG (G : Gc) (lf : D → Option Str) (m : List Addr) (A : AH) (H : Hp) (g : List Code) (n : Nat) : Prop :=
  ∀ id a rest kw, Code.builtin id ⟨.ref a :: rest, kw⟩ ∈ g → ∀ f d t, dp d ≤ n → rdT lf f d = some t → ¬ Rep G.K G.T m A H d (.ref a)
structure ArOk (G : Gc) (lf : D → Option Str) (X : Cx) (m : List Addr) (A : AH) (H : Hp) (j n : Nat) (Ar : Around) : Prop where
  hd : Ar.handled = X.A.handled
  fr : Ar.frames = X.A.frames
  room : Room j Ar
  gd : ∃ g, Ar.guards = some g ∧ ClG G lf m A H g n
theorem ArOk.le {j j' n n' : Nat} {Ar : Around} (o : ArOk G lf X m A H j n Ar) (h : n' ≤ n) (hj : j' ≤ j) : ArOk G lf X m A H j' n' Ar := by
  obtain ⟨g, e, c⟩ := o.gd
  exact ⟨o.hd, o.fr, o.room.mono hj, g, e, fun id a rest kw hm f d t hd => c id a rest kw hm f d t (Nat.le_trans hd h)⟩
theorem clear_of {g : List Code} {n f : Nat} {d : D} {t : Str} {a : Addr} (c : ClG G lf m A H g n) (hd : dp d ≤ n) (ht : rdT lf f d = some t) (r : Rep G.K G.T m A H d (.ref a)) : Clear g a := by
  intro id v rest kw hm e
  subst e
  exact c _ _ _ _ hm f d t hd ht r
def isRep (id : String) : Prop := id = "list.__repr__.loop" ∨ id = "tuple.__repr__" ∨ id = "tuple.__repr__.under"
theorem ArOk.under {j n f : Nat} {Ar : Around} {id : String} {d : D} {t : Str} {a : Addr} {rest : List Value} (L : LeafD G lf) (hK : X.K = G.K) (I : Inv X pins σ H s) (o : ArOk G lf X m A H (j + 1) (n + 1) Ar) (hi : isRep id) (hd : dp d = n + 1) (ht : rdT lf f d = some t) (r : Rep G.K G.T m A H d (.ref a)) :
    ArOk G lf X m A H j n (Ar.under (.builtin id ⟨.ref a :: rest, []⟩)) := by
  obtain ⟨g, e, c⟩ := o.gd
  have c2 : ClG G lf m A H (Code.builtin id ⟨.ref a :: rest, []⟩ :: g) n := by
    intro id' a' rest' kw' hm f' d' t' hd' ht' r'
    rcases List.mem_cons.1 hm with q | q
    · cases q
      have := rd_dp L hK I f f' d d' _ _ _ ht ht' r r'
      omega
    · exact c _ _ _ _ q f' d' t' (by omega) ht' r'
  have rm := o.room
  rcases hi with rfl | rfl | rfl
  · refine ⟨o.hd, ?_, ?_, _, guards_under_guard (isGuard_list_loop _) e, c2⟩
    · rw [← o.fr]
      first | rfl | simp [Around.under, Code.envs, Code.isFrame, pushEnvs]
    · refine ⟨rm.hd, ?_, ?_⟩
      · have h1 : (Ar.under (.builtin "list.__repr__.loop" ⟨.ref a :: rest, []⟩)).depth = Ar.depth + 1 := by
          first | rfl | simp [Around.under, Code.weight, Code.frames, Code.isFrame, Code.isCreation, Code.isCaller, Code.isGuard, guardIds]
        rw [h1]; have := rm.dp; omega
      · rw [units_under_list_loop]; have := rm.un; omega
  · refine ⟨o.hd, ?_, ?_, _, guards_under_guard (isGuard_tuple_repr _) e, c2⟩
    · rw [← o.fr]
      first | rfl | simp [Around.under, Code.envs, Code.isFrame, pushEnvs]
    · refine ⟨rm.hd, ?_, ?_⟩
      · have h1 : (Ar.under (.builtin "tuple.__repr__" ⟨.ref a :: rest, []⟩)).depth = Ar.depth + 1 := by
          first | rfl | simp [Around.under, Code.weight, Code.frames, Code.isFrame, Code.isCreation, Code.isCaller, Code.isGuard, guardIds]
        rw [h1]; have := rm.dp; omega
      · rw [units_under_tuple_repr]; have := rm.un; omega
  · refine ⟨o.hd, ?_, ?_, _, guards_under_guard (isGuard_tuple_repr_under _) e, c2⟩
    · rw [← o.fr]
      first | rfl | simp [Around.under, Code.envs, Code.isFrame, pushEnvs]
    · refine ⟨rm.hd, ?_, ?_⟩
      · have h1 : (Ar.under (.builtin "tuple.__repr__.under" ⟨.ref a :: rest, []⟩)).depth = Ar.depth + 1 := by
          first | rfl | simp [Around.under, Code.weight, Code.frames, Code.isFrame, Code.isCreation, Code.isCaller, Code.isGuard, guardIds]
        rw [h1]; have := rm.dp; omega
      · rw [units_under_tuple_repr_under]; have := rm.un; omega
/-- the leaves' texts -/
structure LeafRp (G : Gc) (k : Nat) (lf : D → Option Str) : Prop extends LeafD G lf where
  run : ∀ X, G.Has k X → ∀ (σ : L2.St) (m : List Addr) (A : AH) (H : Hp), m.length = A.length → ∀ d t v u, lf d = some t → Rep G.K G.T m A H d v → RelV v u → ∀ Ar, Ar.handled = X.A.handled → Ar.frames = X.A.frames → Room k Ar → ∀ pins, RpS X.prog X.w Ar (Later G X pins σ m A H) u t
/-- an item's text -/
def ItemRp (G : Gc) (lf : D → Option Str) (X : Cx) (σ : L2.St) (m : List Addr) (A : AH) (H : Hp) (j : Nat) (d : D) (t : Str) : Prop :=
  ∀ v u, Rep G.K G.T m A H d v → RelV v u → ∀ Ar, ArOk G lf X m A H j (dp d) Ar → ∀ pins, RpS X.prog X.w Ar (Later G X pins σ m A H) u t
theorem later_lst (hK : X.K = G.K) (hm : m.length = A.length) {a : Addr} {vs : List V} (q : (Rd H a (.lst vs) ∧ Fr m A a) ∨ (∀ H', SqL G.K H' a vs)) (h : Later G X pins σ m A H s) : ∃ its : List Value, Vals vs its ∧ PlainL s.heap a its.toArray := by
  obtain ⟨m1, H1, I, ll, hr1⟩ := h
  have sq1 : SqL X.K H1 a vs := by rw [hK]; exact lst_sq (by rcases q with ⟨z1, z2⟩ | z; exact .inl ⟨ll.rd z1 z2, ll.frR hm z1 z2⟩; exact .inr z)
  obtain ⟨its, w1, p, _⟩ := I.list sq1
  exact ⟨its, w1, p⟩
theorem later_tup (hK : X.K = G.K) (hm : m.length = A.length) {a : Addr} {vs : List V} (q : (Rd H a (.tup vs) ∧ Fr m A a) ∨ (∀ H', SqT G.K H' a vs)) (h : Later G X pins σ m A H s) : ∃ its : List Value, Vals vs its ∧ IsTup s.heap a its.toArray := by
  obtain ⟨m1, H1, I, ll, hr1⟩ := h
  have sq1 : SqT X.K H1 a vs := by rw [hK]; exact tup_sq (by rcases q with ⟨z1, z2⟩ | z; exact .inl ⟨ll.rd z1 z2, ll.frR hm z1 z2⟩; exact .inr z)
  obtain ⟨its, w1, p, _⟩ := I.tuple sq1
  exact ⟨its, w1, p⟩
theorem lst_at (L : LeafD G lf) (hK : X.K = G.K) (hm : m.length = A.length) {σ0 : L2.St} {pins0 : List (Addr × Obj)} {s0 : Shared} (I0 : Inv X pins0 σ0 H s0) {j n base : Nat} {l : List D} {ts : List Str} {vs : List V} {a : Addr} {Ar : Around} {R : Result → Shared → Prop} (hne : l ≠ []) (ht : rdTs (rdT lf n) l = some ts)
    (q : (Rd H a (.lst vs) ∧ Fr m A a) ∨ (∀ H', SqL G.K H' a vs)) (r : Reps G.K G.T m A H l vs) (o : ArOk G lf X m A H (j + 1) (dp (.lst l)) Ar) (hI : ∀ (i : Nat) d, l[i]? = some d → ∃ t, ts[i]? = some t ∧ ItemRp G lf X σ m A H j d t)
    (hsz : base + (listText ts).length ≤ sizeLine) (hs : Later G X pins σ m A H s) (hR : ∀ u s', Later G X pins σ m A H s' → R (.ok (.ret (.str (listText ts) u))) s') :
    wpAny (model X.prog X.w) Ar.in1 (Builtin.listReprAt base ⟨[.ref a], []⟩) (fun fin s' => match fin with | .done f => R (.ok f) s' | .again c' => c'.quiet = true ∧ codeAny (model X.prog X.w) Ar c' R s') (fun e s' => R (.error e) s') s := by
  obtain ⟨hz, _⟩ := rdTs_get ht
  have rd : Rep G.K G.T m A H (.lst l) (.ref a) := by simp only [Rep]; exact ⟨a, vs, rfl, q, r⟩
  have rt : rdT lf (n + 1) (.lst l) = some (listText ts) := by simp only [rdT, ht, Option.map_some]
  obtain ⟨g, hg, hc⟩ := o.gd
  obtain ⟨its, w1, o1, n1, g1, _, _, d1⟩ := later_lst hK hm q hs
  have stat : ∀ H' : Hp, H' s.heap.objs.size = none → FpOk X pins H' s.heap.objs.size := by
    obtain ⟨m1, H1, I, ll, hr1⟩ := hs
    exact fun H' hn => I.fpOk (Nat.le_refl _) hn
  have new : ∀ c, Later G X ((s.heap.objs.size, ({ cls := .type "list", dict := none, data := .seq #[] c, slots := #[] } : Obj)) :: pins) σ m A H { s with heap := s.heap.push { cls := .type "list", dict := none, data := .seq #[] c, slots := #[] } } := fun c => (later_new (o := { cls := .type "list", dict := none, data := .seq #[] c, slots := #[] }) (fun v h => by cases h) hs rfl).1
  refine ev_lst_head (g := g) (N := l.length) (P := fun ob s' => Later G X ((s.heap.objs.size, ob) :: pins) σ m A H s') (Pr := fun i x => ∃ v, vs[i]? = some v ∧ RelV v x) (by simpa using hne) hz hg (clear_of hc (Nat.le_refl _) rt rd) (fun _ _ h => later_get h) ?_ (fun ob s' h => ?_) (fun ob s' h' tk o' h hk hp hcc => later_upd stat h hk hp hcc) (fun c => new c) (fun i x hx => ?_) hsz (fun ob u s' h => hR u s' (later_drop h))
  · exact ⟨o1, its.toArray, n1, g1, d1, by rw [List.size_toArray, ← w1.length, ← r.length]⟩
  · obtain ⟨its, w1, o1, n1, g1, _, _, d1⟩ := later_lst hK hm q h
    refine ⟨o1, its.toArray, n1, g1, d1, by rw [List.size_toArray, ← w1.length, ← r.length], fun i hi => ?_⟩
    have hi' : i < its.length := by simpa using hi
    have hv : i < vs.length := by rw [w1.length]; exact hi'
    obtain ⟨u1, f1, f2⟩ := Vals.get w1 (List.getElem?_eq_getElem hv)
    have b1 : its.toArray[i] = u1 := by simpa [List.getElem?_eq_getElem hi'] using f1
    rw [b1]
    exact ⟨_, List.getElem?_eq_getElem hv, f2⟩
  · obtain ⟨v, hv, rv⟩ := hx
    have hil : i < l.length := by rw [r.length]; exact (List.getElem?_eq_some_iff.mp hv).1
    obtain ⟨v', e1, r1⟩ := reps_get r (List.getElem?_eq_getElem hil)
    rw [hv] at e1
    cases e1
    obtain ⟨t, e2, hh⟩ := hI i _ (List.getElem?_eq_getElem hil)
    refine ⟨t, e2, fun ob rest => hh v x r1 rv _ ?_ _⟩
    have o' : ArOk G lf X m A H (j + 1) (dps l + 1) Ar := by simpa only [dp] using o
    exact (ArOk.under L hK I0 o' (.inl rfl) (by simp only [dp]) rt rd).le (dps_get (List.getElem?_eq_getElem hil)) (Nat.le_refl _)
theorem rpAll_of (hK : X.K = G.K) {n : Nat} {Ar : Around} {P : Shared → Prop} : ∀ {l : List D} {ts : List Str} {vs : List V} {us : List Value}, rdTs (rdT lf n) l = some ts → Reps G.K G.T m A H l vs → Vals vs us →
    (∀ (i : Nat) d t, l[i]? = some d → ts[i]? = some t → ∀ v u, Rep G.K G.T m A H d v → RelV v u → RpS X.prog X.w Ar P u t) → RpAll X.prog X.w Ar P us ts
  | [], ts, vs, us, ht, r, rv, h => by
    simp only [rdTs] at ht
    simp only [Reps] at r
    subst r
    cases ht
    cases rv
    simp only [RpAll]
  | d :: l, ts, vs, us, ht, r, rv, h => by
    simp only [rdTs] at ht
    simp only [Reps] at r
    obtain ⟨v, q, rfl, r1, r2⟩ := r
    split at ht
    · rename_i t ts' h1 h2
      cases ht
      cases rv with
      | cons a b =>
        simp only [RpAll]
        exact ⟨t, ts', rfl, h 0 d t rfl rfl v _ r1 a, rpAll_of hK h2 r2 b fun i d' t' e1 e2 => h (i + 1) d' t' (by simpa using e1) (by simpa using e2)⟩
    · cases ht
theorem tup_at (L : LeafD G lf) (hK : X.K = G.K) (hm : m.length = A.length) {σ0 : L2.St} {pins0 : List (Addr × Obj)} {s0 : Shared} (I0 : Inv X pins0 σ0 H s0) {j n base : Nat} {l : List D} {ts : List Str} {vs : List V} {a : Addr} {Ar : Around} {R : Result → Shared → Prop} {id : String} {rest : List Value} (hi : isRep id) (ht : rdTs (rdT lf n) l = some ts)
    (q : (Rd H a (.tup vs) ∧ Fr m A a) ∨ (∀ H', SqT G.K H' a vs)) (r : Reps G.K G.T m A H l vs) (o : ArOk G lf X m A H (j + 1) (dp (.tup l)) Ar) (hI : ∀ (i : Nat) d, l[i]? = some d → ∃ t, ts[i]? = some t ∧ ItemRp G lf X σ m A H j d t)
    (hsz : base + (tupleText ts).length ≤ sizeLine) (hs : Later G X pins σ m A H s) (hR : ∀ u s', Later G X pins σ m A H s' → R (.ok (.ret (.str (tupleText ts) u))) s') :
    wpOwn (model X.prog X.w) Ar (.builtin id ⟨.ref a :: rest, []⟩) (Builtin.tupleReprAt base ⟨[.ref a], []⟩) (fun fin s' => match fin with | .done f => R (.ok f) s' | .again c' => c'.quiet = true ∧ codeAny (model X.prog X.w) Ar c' R s') (fun e s' => R (.error e) s') s := by
  obtain ⟨hz, _⟩ := rdTs_get ht
  have rd : Rep G.K G.T m A H (.tup l) (.ref a) := by simp only [Rep]; exact ⟨a, vs, rfl, q, r⟩
  have rt : rdT lf (n + 1) (.tup l) = some (tupleText ts) := by simp only [rdT, ht, Option.map_some]
  obtain ⟨g, hg, hc⟩ := o.gd
  obtain ⟨its, w1, o1, g1, _, n1, d1⟩ := later_tup hK hm q hs
  refine ev_tup_own (g := g) (P := Later G X pins σ m A H) g1 d1 ?_ hg (clear_of hc (Nat.le_refl _) rt rd) hs (fun s tk h => later_tok tk h) hR hsz
  refine rpAll_of hK ht r (by simpa using w1) fun i d t e1 e2 v u r1 rv => ?_
  obtain ⟨t', e3, hh⟩ := hI i d e1
  rw [e2] at e3
  cases e3
  have o' : ArOk G lf X m A H (j + 1) (dps l + 1) Ar := by simpa only [dp] using o
  exact hh v u r1 rv _ ((ArOk.under L hK I0 o' hi (by simp only [dp]) rt rd).le (dps_get e1) (Nat.le_refl _)) _
theorem rp_deep (L : LeafRp G k lf) (hX : G.Has k X) (hm : m.length = A.length) {σ0 : L2.St} {pins0 : List (Addr × Obj)} {s0 : Shared} (I0 : Inv X pins0 σ0 H s0) : ∀ (n : Nat) (d : D) (t : Str), rdT lf n d = some t → ItemRp G lf X σ m A H (k + n) d t := by
  intro n
  induction n with
  | zero =>
    intro d t ht v u r rv Ar o pins
    have h0 : lf d = some t := by simpa [rdT] using ht
    exact L.run X hX σ m A H hm d t v u h0 r rv Ar o.hd o.fr (o.room.mono (Nat.le_add_right _ _)) pins
  | succ n ih =>
    intro d t ht v u r rv Ar o pins
    rcases rdT_cases L.toLeafD ht with ⟨n0, l, ts, e, rfl, hl, rfl⟩ | ⟨n0, l, ts, e, rfl, hl, rfl⟩ | ⟨h0, z0⟩
    · obtain rfl : n = n0 := by omega
      obtain ⟨hz, hg⟩ := rdTs_get hl
      simp only [Rep] at r
      obtain ⟨a, vs, rfl, q, r⟩ := r
      have eu : u = Value.ref a := rv
      subst eu
      intro base hb E s hs
      obtain ⟨its, w1, o1, g1, c1, n1, d1⟩ := later_tup hX.K hm q hs
      refine wpAny_pyReprUnder_ref (by omega) (wpAny_pyReprObjUnder_twin (twin := "tuple.__repr__.under") ⟨o1, g1, c1⟩ PySem.F.slot_tuple_repr rfl o.room.units0 (call_twin_own (PySem.F.quiet_tuple_repr_under _) PySem.F.entry_tuple_repr_under PySem.F.check_tuple_repr_under ⟨o1, g1, c1⟩ PySem.F.slot_tuple_repr (PySem.F.args_tuple_repr_1 _)
        (tup_at L.toLeafD hX.K hm I0 (R := callEnd _ E) (.inr (.inr rfl)) hl q r (j := k + n) (by rw [Nat.add_assoc]; exact o) (fun i d hd => ?_) hb hs fun u s' h => ⟨⟨_, _, rfl⟩, _, _, rfl, rfl, h⟩)))
      obtain ⟨t, h1, h2⟩ := hg i d hd
      exact ⟨t, h2, ih d t h1⟩
    · obtain rfl : n = n0 := by omega
      obtain ⟨hz, hg⟩ := rdTs_get hl
      simp only [Rep] at r
      obtain ⟨a, vs, rfl, q, r⟩ := r
      have eu : u = Value.ref a := rv
      subst eu
      intro base hb E s hs
      obtain ⟨its, w1, o1, n1, g1, c1, _, d1⟩ := later_lst hX.K hm q hs
      by_cases hne : l = []
      · subst hne
        simp only [rdTs] at hl
        cases hl
        simp only [Reps] at r
        subst r
        cases w1
        refine wpAny_pyReprUnder_ref (by omega) (wpAny_pyReprObjUnder_list_empty ⟨o1, g1, c1⟩ o.room.units0 g1 d1 ⟨_, _, rfl, rfl, later_tok _ hs⟩)
      · refine wpAny_pyReprUnder_ref (by omega) (wpAny_pyReprObjUnder_twin (twin := "list.__repr__.under") ⟨o1, g1, c1⟩ PySem.F.slot_list_repr.toG rfl o.room.units0 (call_twin_plain PySem.F.plain_list_repr_under PySem.F.entry_list_repr_under PySem.F.check_list_repr_under ⟨o1, g1, c1⟩ PySem.F.slot_list_repr.toG (PySem.F.args_list_repr_1 _)
          (lst_at L.toLeafD hX.K hm I0 (R := callEnd _ E) hne hl q r (j := k + n) (by rw [Nat.add_assoc]; exact o) (fun i d hd => ?_) hb hs fun u s' h => ⟨⟨_, _, rfl⟩, _, _, rfl, rfl, h⟩)))
        obtain ⟨t, h1, h2⟩ := hg i d hd
        exact ⟨t, h2, ih d t h1⟩
    · exact L.run X hX σ m A H hm d t v u h0 r rv Ar o.hd o.fr (o.room.mono (Nat.le_add_right _ _)) pins
end
end Hw
namespace Hw
open PySem L2 PyProof.Rows
section
variable {G : Gc} {k : Nat} {lf : D → Option Str}
/-- the leaves: flat ones, own instances -/
def lfT (own : D → Option Str) : D → Option Str
  | .tup _ => none
  | .lst _ => none
  | d => match flatT d with
    | some t => some t
    | none => own d
theorem lfT_cases {own : D → Option Str} {d : D} {t : Str} (h : lfT own d = some t) : flatT d = some t ∨ own d = some t := by
  unfold lfT at h
  split at h
  · cases h
  · cases h
  · split at h
    · rename_i t' h1
      cases h
      exact .inl h1
    · exact .inr h
theorem flat_noref {K : PySem.W.Frag} {T : Tb} {m : List Addr} {A : AH} {H : Hp} {d : D} {t : Str} {a : Addr} (h : flatT d = some t) (r : Rep K T m A H d (.ref a)) : False := by
  cases d <;> simp only [flatT] at h <;> first | (cases h; done) | skip
  · simp only [Rep] at r; cases r
  · simp only [Rep] at r; cases r
  · simp only [Rep] at r; cases r
theorem leaf_rp {c : D → Bool} {own : D → Option Str} {f Ca : Addr} {S : OK2} (O : OwnStr G c "__repr__" f Ca) (cal : Cal { G with gd := false } k (.ref f) 1 [] S)
    (hown : ∀ d t, own d = some t → c d = true ∧ ∀ A (Q : WK), Q (.t (.str t)) A → S [.t d] [] A Q) : LeafRp G k (lfT own) := by
  refine { tup := fun l => rfl, lst := fun l => rfl, ins := fun d t m A H a h r => ?_, run := fun X hX σ m A H hm d t v u h r rv Ar h1 h2 room pins => ?_ }
  · rcases lfT_cases h with h | h
    · exact (flat_noref h r).elim
    · obtain ⟨a', dx, fs, e, hi⟩ := O.ins d m A H _ (hown d t h).1 r
      cases e
      exact ⟨Ca, dx, fs, hi⟩
  · rcases lfT_cases h with h | h
    · intro base hb E s hs
      exact flat_is h r rv base hb Ar E s _ fun tk => ⟨rfl, later_tok tk hs⟩
    · obtain ⟨hc, hS⟩ := hown d t h
      intro base hb E s hs
      obtain ⟨m1, H1, I, l1, hr1⟩ := hs
      have r1 : Rep G.K G.T m1 A H1 d v := Rep.lt l1 hm d v r
      obtain ⟨a, dx, fs, rfl, ha⟩ := O.ins d m1 A H1 v hc r1
      have eu : u = Value.ref a := rv
      subst eu
      obtain ⟨mA, Ob, _⟩ := ins_get I.hok ha
      obtain ⟨od, J, _⟩ := Ob.look
      have kin := I.kIn
      rw [hX.K] at kin
      have I1 : Inv (toA X Ar) pins σ H1 s := inv_to I h1 h2
      have hX1 : Gc.Has { G with gd := false } k (toA X Ar) := ⟨hX.P, hX.w, hX.K, hX.mg, hX.base, hX.calm, room, hX.nox, fun h => Bool.noConfusion h⟩
      refine under_own (by omega) room.units0 kin J O.at_ O.fn (wpAny_mono (wpAny_call (cal.run (toA X Ar) hX1 pins s σ H1 [.ref a] [] [.ref a] [] (fun v H2 => v = .str t ∧ ∃ m2, Lt m A H m2 A H2 ∧ HR G.K G.T m2 A H2) m1 A [.t d] [] I1 (.cons rfl .nil) .nil hr1 ⟨_, _, rfl, r1, rfl⟩ rfl rfl rfl (hS _ _ ?_))) (fun w s' q => ?_) fun e s' q => ?_)
      · intro v m2 H2 l2 hr2 rw2
        exact ⟨by simpa only [RepW, Rep] using rw2, m2, l1.trans hm l2, hr2⟩
      · obtain ⟨w', H2, I2, rw2, rfl, m2, l2, hr2⟩ := q
        obtain ⟨tk, rfl⟩ := rw2
        exact ⟨t, tk, rfl, rfl, m2, H2, inv_back I2 h1 h2, l2, hr2⟩
      · have q' : X.xe e s' := q
        rw [hX.nox] at q'
        exact q'.elim
/-- repr of trees at the top -/
@[irreducible] def reprTW (lf : D → Option Str) (n : Nat) (base : OL) : OL := fun ws A Q => match ws with
  | [.t (.lst l)] => ∃ t, rdT lf (n + 1) (.lst l) = some t ∧ t.length ≤ sizeLine ∧ Q (.t (.str t)) A
  | [.t (.tup l)] => ∃ t, rdT lf (n + 1) (.tup l) = some t ∧ t.length ≤ sizeLine ∧ Q (.t (.str t)) A
  | ws => base ws A Q
theorem mon_reprTW {n : Nat} {base : OL} (hb : MonL base) : MonL (reprTW lf n base) := fun ws A Q Q' kk h => by
  unfold reprTW at h ⊢
  split at h
  · obtain ⟨t, h1, h2, h3⟩ := h; exact ⟨t, h1, h2, kk _ _ h3⟩
  · obtain ⟨t, h1, h2, h3⟩ := h; exact ⟨t, h1, h2, kk _ _ h3⟩
  · exact hb _ _ _ _ kk h
theorem sl_reprT {n j : Nat} {base : OL} (hgd : G.gd = true) (L : LeafRp G k lf) (hj : j ≤ k + n + 2) (so : SOL G j (.builtin "repr") base) : SOL G (k + n + 2) (.builtin "repr") (reprTW lf n base) := by
  refine ⟨mon_reprTW so.mono, fun X hX pins s σ H xs us Q I rv z => ?_⟩
  obtain ⟨m, A, ws, hr, r1, z⟩ := z
  unfold reprTW at z
  have hX1 : G.Has k X := hX.mono (by omega)
  have ok : ∀ N, ArOk G lf X m A H (k + n + 1) N X.A.in1 := fun N => ⟨rfl, rfl, hX.room.in1, [], hX.grd hgd, fun _ _ _ _ hm => by simp at hm⟩
  have hs : Later G X pins σ m A H s := ⟨m, H, I, Lt.refl, hr⟩
  split at z
  · rename_i l
    obtain ⟨t, ht, hz, hq⟩ := z
    obtain ⟨v, rfl, q1⟩ := rep1 r1
    simp only [RepW, Rep] at q1
    obtain ⟨a, vs, rfl, q, r⟩ := q1
    obtain ⟨u, rfl, ru⟩ := vals1 rv
    have eu : u = Value.ref a := ru
    subst eu
    simp only [rdT, Option.map_eq_some_iff] at ht
    obtain ⟨ts, hl, rfl⟩ := ht
    obtain ⟨hz2, hg⟩ := rdTs_get hl
    obtain ⟨its, w1, o1, n1, g1, c1, _, d1⟩ := later_lst hX.K hr.len q hs
    have fin : ∀ u s', Later G X pins σ m A H s' → ∃ x t, Value.str (listText ts) u = .str x t ∧ EP X pins σ Q (.str (listText ts) u) s' := by
      rintro u s' ⟨m', H', I', l', hr'⟩
      exact ⟨_, _, rfl, .str (listText ts), H', I', ⟨_, rfl⟩, hq _ m' H' l' hr' repStr⟩
    refine call_repr_slot (by have := hX.room.un; omega) ⟨o1, g1, c1⟩ PySem.F.slot_list_repr.toG ?_
    by_cases hne : l = []
    · subst hne
      simp only [rdTs] at hl
      cases hl
      simp only [Reps] at r
      subst r
      cases w1
      exact call_list_repr_empty ⟨o1, g1, c1⟩ g1 d1 (fin _ _ (later_tok _ hs))
    · refine wpAny_call (codeAny_call_builtin PySem.F.slot_list_repr.plain PySem.F.entry_list_repr (PySem.F.slot_list_repr.check _ _ _ _ _ _ _ _ ⟨o1, g1, c1⟩ (PySem.F.args_list_repr_1 _)
        (lst_at (base := 0) L.toLeafD hX.K hr.len I (R := callEnd _ X.xe) hne hl q r (ok _) (fun i d hd => ?_) (by omega) hs fin)))
      obtain ⟨t, h1, h2⟩ := hg i d hd
      exact ⟨t, h2, rp_deep L hX1 hr.len I n d t h1⟩
  · rename_i l
    obtain ⟨t, ht, hz, hq⟩ := z
    obtain ⟨v, rfl, q1⟩ := rep1 r1
    simp only [RepW, Rep] at q1
    obtain ⟨a, vs, rfl, q, r⟩ := q1
    obtain ⟨u, rfl, ru⟩ := vals1 rv
    have eu : u = Value.ref a := ru
    subst eu
    simp only [rdT, Option.map_eq_some_iff] at ht
    obtain ⟨ts, hl, rfl⟩ := ht
    obtain ⟨hz2, hg⟩ := rdTs_get hl
    obtain ⟨its, w1, o1, g1, c1, n1, d1⟩ := later_tup hX.K hr.len q hs
    have fin : ∀ u s', Later G X pins σ m A H s' → ∃ x t, Value.str (tupleText ts) u = .str x t ∧ EP X pins σ Q (.str (tupleText ts) u) s' := by
      rintro u s' ⟨m', H', I', l', hr'⟩
      exact ⟨_, _, rfl, .str (tupleText ts), H', I', ⟨_, rfl⟩, hq _ m' H' l' hr' repStr⟩
    refine call_repr_slot (by have := hX.room.un; omega) ⟨o1, g1, c1⟩ PySem.F.slot_tuple_repr ?_
    refine wpAny_call (codeAny_call_builtin_own (Code.quiet_builtin _ (by decide +kernel)) PySem.F.entry_tuple_repr (PySem.F.slot_tuple_repr.check _ _ _ _ _ _ _ _ ⟨o1, g1, c1⟩ (PySem.F.args_tuple_repr_1 _)
      (tup_at (base := 0) L.toLeafD hX.K hr.len I (R := callEnd _ X.xe) (.inr (.inl rfl)) hl q r (ok _) (fun i d hd => ?_) (by omega) hs fin)))
    obtain ⟨t, h1, h2⟩ := hg i d hd
    exact ⟨t, h2, rp_deep L hX1 hr.len I n d t h1⟩
  · exact so.run X (hX.mono hj) pins s σ H _ us Q I rv ⟨m, A, _, hr, r1, z⟩
end
end Hw
namespace Hw
open PySem L2 PyProof.Rows
section
variable {lf : D → Option Str}
mutual
def szD : D → Nat
  | .tup l => szDs l + 1
  | .lst l => szDs l + 1
  | _ => 1
def szDs : List D → Nat
  | [] => 0
  | d :: l => szD d + szDs l
end
theorem szD_pos (d : D) : 1 ≤ szD d := by
  cases d <;> simp [szD]
theorem tuple_le (ts : List Str) : (tupleText ts).length ≤ piled ts + 3 := by
  unfold tupleText
  have e1 : ("(" : Str).length = 1 := by decide +kernel
  have e2 : ((if ts.length == 1 then ",)" else ")" : String) : Str).length ≤ 2 := by
    split
    · decide +kernel
    · decide +kernel
  rw [str_app, str_app, e1]
  cases ts with
  | nil =>
    have : (Str.join ", " []).length = 0 := by decide +kernel
    rw [this]; omega
  | cons t r =>
    have := join_length_add (t :: r) (by simp)
    omega
theorem rdTs_len {f : D → Option Str} {B : Nat} (hf : ∀ d t, f d = some t → t.length + 2 ≤ szD d * (B + 5)) : ∀ {l : List D} {ts : List Str}, rdTs f l = some ts → piled ts ≤ szDs l * (B + 5)
  | [], ts, h => by
    simp only [rdTs] at h
    cases h
    rw [piled_nil]; exact Nat.zero_le _
  | d :: l, ts, h => by
    simp only [rdTs] at h
    split at h
    · rename_i t r h1 h2
      cases h
      have a := hf _ _ h1
      have b := rdTs_len hf h2
      rw [piled_cons]
      unfold szDs
      rw [Nat.add_mul]
      omega
    · cases h
/-- how long a tree's text is at most -/
theorem rdT_len {B : Nat} (hB : ∀ d t, lf d = some t → t.length ≤ B) : ∀ (n : Nat) (d : D) (t : Str), rdT lf n d = some t → t.length + 2 ≤ szD d * (B + 5) := by
  have leaf : ∀ d t, lf d = some t → t.length + 2 ≤ szD d * (B + 5) := fun d t h => by
    have a := hB d t h
    have b := Nat.mul_le_mul_right (B + 5) (szD_pos d)
    omega
  intro n
  induction n with
  | zero => exact fun d t h => leaf d t (by simpa [rdT] using h)
  | succ n ih =>
    intro d t h
    unfold rdT at h
    split at h
    · rename_i n0 l e
      obtain rfl : n = n0 := by omega
      rw [Option.map_eq_some_iff] at h
      obtain ⟨ts, h1, rfl⟩ := h
      have a := rdTs_len ih h1
      have b := tuple_le ts
      unfold szD
      rw [Nat.add_mul]
      omega
    · rename_i n0 l e
      obtain rfl : n = n0 := by omega
      rw [Option.map_eq_some_iff] at h
      obtain ⟨ts, h1, rfl⟩ := h
      have a := rdTs_len ih h1
      have b := list_le ts
      unfold szD
      rw [Nat.add_mul]
      omega
    · exact leaf _ t h
theorem rdT_fits {B n : Nat} {d : D} {t : Str} (hB : ∀ d t, lf d = some t → t.length ≤ B) (h : rdT lf n d = some t) (hz : szD d * (B + 5) ≤ sizeLine + 2) : t.length ≤ sizeLine := by
  have := rdT_len hB n d t h
  omega
end
end Hw
namespace Hw
open PySem L2 PyProof.Rows
section
variable {G : Gc} {k : Nat}
/-- a Ratio's own text within -/
def ownRat : D → Option Str
  | .rat q => if q.num.natAbs < 2 ^ 1900 ∧ q.den < 2 ^ 1900 then some (ratRepr q) else none
  | _ => none
theorem rat_len {q : Rat} (h1 : q.num.natAbs < 2 ^ 1900) (h2 : q.den < 2 ^ 1900) : (ratRepr q).length ≤ 3851 := by
  have a := PyProof.Rows.int_text_len_1921 (i := q.num) (log1920 h1)
  have b := PyProof.Rows.int_text_len_1921 (i := (q.den : Int)) (log1920 (by rw [Int.natAbs_natCast]; exact h2))
  have e1 : ("Ratio(" : Str).length = 6 := by decide +kernel
  have e2 : (", " : Str).length = 2 := by decide +kernel
  have e3 : (")" : Str).length = 1 := by decide +kernel
  unfold ratRepr
  rw [str_app, str_app, str_app, str_app, e1, e2, e3]
  omega
theorem lfR_len (d : D) (t : Str) (h : lfT ownRat d = some t) : t.length ≤ 3851 := by
  rcases lfT_cases h with h | h
  · have := flat_len h
    omega
  · cases d <;> simp only [ownRat] at h <;> first | (cases h; done) | skip
    split at h
    · rename_i q hq
      cases h
      exact rat_len hq.1 hq.2
    · cases h
theorem rdTs_some {f : D → Option Str} : ∀ {l : List D}, (∀ d ∈ l, ∃ t, f d = some t) → ∃ ts, rdTs f l = some ts
  | [], _ => ⟨[], rfl⟩
  | d :: l, h => by
    obtain ⟨t, ht⟩ := h d (List.mem_cons_self ..)
    obtain ⟨ts, hts⟩ := rdTs_some (l := l) fun d hd => h d (List.mem_cons_of_mem _ hd)
    exact ⟨t :: ts, by simp only [rdTs, ht, hts]⟩
theorem rdT_lst {lf : D → Option Str} {n : Nat} {l : List D} (h : ∀ d ∈ l, ∃ t, rdT lf n d = some t) : ∃ t, rdT lf (n + 1) (.lst l) = some t := by
  obtain ⟨ts, hts⟩ := rdTs_some h
  exact ⟨listText ts, by simp only [rdT, hts, Option.map_some]⟩
theorem rdT_tup {lf : D → Option Str} {n : Nat} {l : List D} (h : ∀ d ∈ l, ∃ t, rdT lf n d = some t) : ∃ t, rdT lf (n + 1) (.tup l) = some t := by
  obtain ⟨ts, hts⟩ := rdTs_some h
  exact ⟨tupleText ts, by simp only [rdT, hts, Option.map_some]⟩
theorem rdT_int {own : D → Option Str} {n : Nat} {i : Int} (h : i.natAbs < 2 ^ 1900) : rdT (lfT own) n (.int i) = some ((toString i : String) : Str) := by
  cases n <;> (simp only [rdT, lfT, flatT, if_pos h])
theorem rdT_rat {n : Nat} {q : Rat} (h : Sz 1900 q) : rdT (lfT ownRat) n (.rat q) = some (ratRepr q) := by
  cases n <;> simp only [rdT, lfT, flatT, ownRat, if_pos (And.intro h.t h.b)]
/-- repr of trees with Ratios within -/
theorem leaf_rat {f : Addr} (O : OwnStr G isRat "__repr__" f (G.T.at_ 0)) (cal : Cal { G with gd := false } k (.ref f) 1 [] (posK (uR pStr fun q => .str (ratRepr q)))) : LeafRp G k (lfT ownRat) := by
  refine leaf_rp O cal fun d t h => ?_
  cases d <;> simp only [ownRat] at h <;> first | (cases h; done) | skip
  split at h
  · rename_i q hq
    cases h
    exact ⟨rfl, fun A Q z => ⟨⟨hq.1, hq.2⟩, z⟩⟩
  · cases h
end
end Hw
namespace Hw
open PySem L2
/-! ### comprehensions whose values draw: by what holds ahead of each turn -/
section
variable {g : DenG} {el : Den} {env : Env}
theorem at_last {A : AH} {c : Cell} {n : Nat} (h : A.length = n) : (A ++ [c])[n]? = some c := by
  subst h; simp
theorem set_last {A : AH} {c c' : Cell} {n : Nat} (h : A.length = n) : (A ++ [c]).set n c' = A ++ [c'] := by
  subst h
  simp
theorem set_left {A : AH} {c c' : Cell} {i : Nat} (h : i < A.length) : (A ++ [c]).set i c' = A.set i c' ++ [c] := by
  rw [List.set_append_left _ _ h]
theorem lc_inv (hg : MonG g) (he : MonE el) {ws : List W} {B : AH} {Q : WK} (I : Nat → List D → AH → Prop) (h0 : I 0 [] B)
    (turn : ∀ i w acc A c, ws[i]? = some w → I i acc A → A.length = B.length → g w env (A ++ [c]) fun e1 A1 => el e1 A1 fun y A2 => ∃ d A', y = .t d ∧ A2 = A' ++ [c] ∧ A'.length = B.length ∧ acc.length < 400 ∧ I (i + 1) (acc ++ [d]) A')
    (hz : ∀ acc A, I ws.length acc A → A.length = B.length → Q (.t (.lst acc)) A) : LcG g vYes el env ws B Q := by
  have walk : ∀ (r : List W) (i : Nat) (acc : List D) (A : AH), i + r.length = ws.length → ws.drop i = r → I i acc A → A.length = B.length →
      lcW B.length g vYes el env r (A ++ [Cell.live (AO.lst acc)]) (lcEnd B.length Q) := by
    intro r
    induction r with
    | nil =>
      intro i acc A hi hr hI hl
      obtain rfl : i = ws.length := by simpa using hi
      show lcEnd B.length Q (A ++ [Cell.live (AO.lst acc)])
      unfold lcEnd
      rw [at_last hl]
      show Q (.t (.lst acc)) ((A ++ [Cell.live (AO.lst acc)]).take B.length)
      rw [← hl, List.take_left]
      exact hz acc A hI hl
    | cons w r ih =>
      intro i acc A hi hr hI hl
      have hw : ws[i]? = some w := by
        have z := congrArg List.head? hr
        rw [List.head?_drop] at z
        exact z
      have hr2 : ws.drop (i + 1) = r := by
        have z := congrArg List.tail hr
        rw [List.tail_drop] at z
        exact z
      refine hg _ _ _ _ _ (fun e1 A1 z => ?_) (turn i w acc A (Cell.live (AO.lst acc)) hw hI hl)
      show Cif true (el e1 A1 fun y A3 => lcPut B.length y A3 fun A4 => lcW B.length g vYes el env r A4 (lcEnd B.length Q)) (lcW B.length g vYes el env r A1 (lcEnd B.length Q))
      refine Cif.yes (he _ _ _ _ (fun y A2 z => ?_) z)
      obtain ⟨d, A', rfl, rfl, hl', hm, hI'⟩ := z
      unfold lcPut
      rw [at_last hl']
      refine ⟨hm, ?_⟩
      rw [set_last hl']
      exact ih (i + 1) (acc ++ [d]) A' (by rw [List.length_cons] at hi; omega) hr2 hI' hl'
  constructor
  exact walk ws 0 [] B (Nat.zero_add _) rfl h0 rfl
/-- .. as a contract of the turn's own: no more is asked of the value's reading -/
theorem lc_turns (hg : MonG g) {ws : List W} {B : AH} {Q : WK} (I : Nat → List D → AH → Prop) (hn : ws.length ≤ 400) (hI : ∀ i acc A, I i acc A → acc.length = i) (h0 : I 0 [] B)
    (turn : ∀ i w acc A c (K : WK), ws[i]? = some w → I i acc A → A.length = B.length → (∀ d A', A'.length = B.length → I (i + 1) (acc ++ [d]) A' → K (.t d) (A' ++ [c])) → g w env (A ++ [c]) fun e1 A1 => el e1 A1 K)
    (hz : ∀ acc A, I ws.length acc A → A.length = B.length → Q (.t (.lst acc)) A) : LcG g vYes el env ws B Q := by
  have walk : ∀ (r : List W) (i : Nat) (acc : List D) (A : AH), i + r.length = ws.length → ws.drop i = r → I i acc A → A.length = B.length →
      lcW B.length g vYes el env r (A ++ [Cell.live (AO.lst acc)]) (lcEnd B.length Q) := by
    intro r
    induction r with
    | nil =>
      intro i acc A hi hr hJ hl
      obtain rfl : i = ws.length := by simpa using hi
      show lcEnd B.length Q (A ++ [Cell.live (AO.lst acc)])
      unfold lcEnd
      rw [at_last hl]
      show Q (.t (.lst acc)) ((A ++ [Cell.live (AO.lst acc)]).take B.length)
      rw [← hl, List.take_left]
      exact hz acc A hJ hl
    | cons w r ih =>
      intro i acc A hi hr hJ hl
      have hw : ws[i]? = some w := by
        have z := congrArg List.head? hr
        rw [List.head?_drop] at z
        exact z
      have hr2 : ws.drop (i + 1) = r := by
        have z := congrArg List.tail hr
        rw [List.tail_drop] at z
        exact z
      have few : acc.length < 400 := by
        have := hI i acc A hJ
        rw [List.length_cons] at hi
        omega
      refine hg _ _ _ _ _ (fun e1 A1 z => ?_) (turn i w acc A (Cell.live (AO.lst acc)) (fun y A3 => lcPut B.length y A3 fun A4 => lcW B.length g vYes el env r A4 (lcEnd B.length Q)) hw hJ hl fun d A' hl' hJ' => ?_)
      · show Cif true (el e1 A1 fun y A3 => lcPut B.length y A3 fun A4 => lcW B.length g vYes el env r A4 (lcEnd B.length Q)) (lcW B.length g vYes el env r A1 (lcEnd B.length Q))
        exact Cif.yes z
      · show lcPut B.length (.t d) (A' ++ [Cell.live (AO.lst acc)]) _
        unfold lcPut
        rw [at_last hl']
        refine ⟨few, ?_⟩
        rw [set_last hl']
        exact ih (i + 1) (acc ++ [d]) A' (by rw [List.length_cons] at hi; omega) hr2 hJ' hl'
  constructor
  exact walk ws 0 [] B (Nat.zero_add _) rfl h0 rfl
end
end Hw
namespace Hw
open PySem L2
/-! ### any() of ints and truths -/
section
variable {G : Gc} {k : Nat}
def truD : D → Option Bool
  | .int i => some (i != 0)
  | .bl b => some b
  | _ => none
def truDs : List D → Option (List Bool)
  | [] => some []
  | d :: l => match truD d, truDs l with
    | some b, some bs => some (b :: bs)
    | _, _ => none
theorem truDs_get : ∀ {l : List D} {bs : List Bool}, truDs l = some bs → bs.length = l.length ∧ ∀ (i : Nat) d, l[i]? = some d → ∃ b, truD d = some b ∧ bs[i]? = some b
  | [], bs, h => by
    simp only [truDs] at h
    cases h
    exact ⟨rfl, fun i d h => by simp at h⟩
  | x :: l, bs, h => by
    simp only [truDs] at h
    split at h
    · rename_i b r h1 h2
      cases h
      obtain ⟨e, f⟩ := truDs_get h2
      refine ⟨by rw [List.length_cons, List.length_cons, e], fun i d hi => ?_⟩
      cases i with
      | zero => simp at hi; subst hi; exact ⟨b, h1, rfl⟩
      | succ i => obtain ⟨c, g1, g2⟩ := f i d (by simpa using hi); exact ⟨c, g1, by simpa using g2⟩
    · cases h
def anyDW : OL := fun ws A Q => match ws with
  | [.t (.lst l)] => match truDs l with
    | some bs => Q (.t (.bl (bs.any id))) A
    | none => False
  | _ => False
theorem mon_anyD : MonL anyDW := fun ws A Q Q' k h => by
  unfold anyDW at h ⊢
  split at h
  · split at h
    · exact k _ _ h
    · exact h.elim
  · exact h.elim
theorem vals_back : ∀ {vs : List V} {us : List Value} {i : Nat} {u : Value}, Vals vs us → us[i]? = some u → ∃ v, vs[i]? = some v ∧ RelV v u
  | [], _, i, u, h, e => by cases h; simp at e
  | v :: vs, _, 0, u, h, e => by
    cases h with
    | cons a b => simp at e; subst e; exact ⟨v, rfl, a⟩
  | v :: vs, _, i + 1, u, h, e => by
    cases h with
    | cons a b =>
      obtain ⟨v', e', r⟩ := vals_back b (i := i) (by simpa using e)
      exact ⟨v', by simpa using e', r⟩
theorem sl_anyD : SOL G k (.builtin "any") anyDW := by
  refine ⟨mon_anyD, fun X hX pins s σ H xs us Q I rv z => ?_⟩
  obtain ⟨m, A, ws, hr, r1, z⟩ := z
  unfold anyDW at z
  split at z
  · split at z
    · rename_i l _ bs hb
      obtain ⟨v, rfl, q1⟩ := rep1 r1
      simp only [RepW, Rep] at q1
      obtain ⟨p, vs, rfl, h1, r2⟩ := q1
      obtain ⟨u, rfl, ru⟩ := vals1 rv
      have eu : u = Value.ref p := ru
      subst eu
      obtain ⟨its, rl, hl, _⟩ := I.list (a := p) (xs := vs) (by rw [hX.K]; exact lst_sq h1)
      obtain ⟨hz, hg⟩ := truDs_get hb
      have truths : TruthOf X.prog X.w X.A.in1 (fun i v => its.toArray[i]? = some v) (fun i => bs.getD i false) := fun i x s' Q' E' hx hq => by
        obtain ⟨v, hv, rx⟩ := vals_back rl (by simpa using hx)
        obtain ⟨d, hd⟩ : ∃ d, l[i]? = some d := ⟨_, List.getElem?_eq_getElem (by rw [r2.length]; exact (List.getElem?_eq_some_iff.mp hv).1)⟩
        obtain ⟨v', hv', rd⟩ := reps_get r2 hd
        rw [hv] at hv'
        cases hv'
        obtain ⟨b, tb, hbi⟩ := hg i d hd
        have eb : bs.getD i false = b := by rw [List.getD_eq_getElem?_getD, hbi]; rfl
        have hq : Q' (bs.getD i false) s' := hq
        rw [eb] at hq
        cases d <;> simp only [truD] at tb <;> first | (cases tb; done) | skip
        · cases tb
          simp only [Rep] at rd
          subst rd
          have : x = Value.bool b := rx
          subst this
          exact wpAny_truthy_bool hq
        · cases tb
          simp only [Rep] at rd
          subst rd
          obtain ⟨tk, rfl⟩ := rx
          exact PyProof.Rows.truthy_int hq
      refine call_any_walk (iter_any hl.isList fun s2 e2 st hne => ?_)
      subst e2
      refine ⟨_, _, _, _, _, _, _, rfl, Walks.list (A := X.A.in1) (I.ok.hd hX.calm) _ p hne its.toArray, st, truths, fun h' tk hk => ?_⟩
      refine ⟨.bl (bs.any id), H, I.kept fun b o eo => hk b o (fun hm => ?_) (Heap.get?_push_of_some _ eo), ?_, z _ m H Lt.refl hr repBl⟩
      · have same : b = s.heap.objs.size := by simpa using hm
        rw [same] at eo
        exact absurd (Heap.lt_size eo) (Nat.lt_irrefl _)
      · show Value.bool _ = .bool (bs.any id)
        rw [← any_range, List.size_toArray, ← rl.length, ← r2.length, hz]
    · exact z.elim
  · exact z.elim
end
end Hw
set_option maxHeartbeats 1200000
namespace Hw
open PySem L2 PyProof.Rows RZ
open PySem.Sem (wp)
/-! ### zip of what is walked by an iterator of its own: a list or a tuple at either place -/
section
variable {w : World} {prog : Program}
/-- i walks what stands at l: xs; St k: k of them are taken -/
structure ZSrc (prog : Program) (w : World) (i l : Addr) (xs : Array Value) (St : Nat → Heap → Prop) : Prop where
  lives : ∀ k h, St k h → i < h.objs.size
  stay : ∀ k h h', St k h → (∀ o, h.get? i = some o → h'.get? i = some o) → (∀ o, h.get? l = some o → h'.get? l = some o) → St k h'
  take : ∀ (A : Around) (E : Value → Shared → Prop) (s : Shared) (k : Nat) (x : Value) (Q : Value → Shared → Prop), St k s.heap → xs[k]? = some x →
    (∀ h', St (k + 1) h' → Heap.SameBut i s.heap h' → Q x { s with heap := h' }) → wpAny (model prog w) A (Builtin.SmallTypes.nextOf (.ref i)) Q E s
  gone : ∀ (A : Around) (E : Value → Shared → Prop) (s : Shared) (k : Nat) (Q : Value → Shared → Prop), A.handled = none → St k s.heap → xs[k]? = none →
    (∀ h' e, Heap.ExtBut i s.heap h' → (∃ o, h'.get? e = some o ∧ o.cls = .type "StopIteration") → E (.ref e) { s with heap := h' }) → wpAny (model prog w) A (Builtin.SmallTypes.nextOf (.ref i)) Q E s
theorem src_list {i l : Addr} {xs : Array Value} (ne : i ≠ l) : ZSrc prog w i l xs (fun k h => h.IsListIter i l k ∧ h.IsList l xs) where
  lives := fun k h st => by obtain ⟨⟨o, e, _⟩, _⟩ := st; exact Heap.lt_size e
  stay := fun k h h' st a b => by
    obtain ⟨⟨o, e, r⟩, ⟨ob, eb, rb⟩⟩ := st
    exact ⟨⟨o, a o e, r⟩, ⟨ob, b ob eb, rb⟩⟩
  take := fun A E s k x Q st hx hq => wpAny_nextOf_list_item st.1 st.2 hx fun h' a sb => hq h' ⟨a, st.2.extBut sb.extBut ne.symm⟩ sb
  gone := fun A E s k Q hh st hx hq => wpAny_nextOf_list_end hh st.1 st.2 hx hq
theorem src_tup {i l : Addr} {xs : Array Value} (ne : i ≠ l) : ZSrc prog w i l xs (fun k h => h.IsTupleIter i l k ∧ h.IsTuple l xs) where
  lives := fun k h st => by obtain ⟨⟨o, e, _⟩, _⟩ := st; exact Heap.lt_size e
  stay := fun k h h' st a b => by
    obtain ⟨⟨o, e, r⟩, ⟨ob, eb, rb⟩⟩ := st
    exact ⟨⟨o, a o e, r⟩, ⟨ob, b ob eb, rb⟩⟩
  take := fun A E s k x Q st hx hq => nextOf_tuple_item st.1 st.2 hx fun h' a sb => hq h' ⟨a, st.2.extBut sb.extBut ne.symm⟩ sb
  gone := fun A E s k Q hh st hx hq => nextOf_tuple_end hh st.1 st.2 hx hq
theorem ZSrc.but {i l c : Addr} {xs : Array Value} {St : Nat → Heap → Prop} (S : ZSrc prog w i l xs St) {k : Nat} {h h' : Heap} (st : St k h) (e : Heap.ExtBut c h h') (n1 : i ≠ c) (n2 : l ≠ c) : St k h' :=
  S.stay k h h' st (fun o z => e _ _ n1 z) fun o z => e _ _ n2 z
section
variable {A : Around} {E : Value → Shared → Prop} {s : Shared} {z TI TO i1 i2 l1 l2 : Addr} {k : Nat} {xs ys : Array Value} {a b : Value} {St1 St2 : Nat → Heap → Prop}
theorem zip_turn {Q : Fin → Shared → Prop} (hh : A.handled = none) (D : ZipApart z TI TO i1 i2 l1 l2) (S1 : ZSrc prog w i1 l1 xs St1) (S2 : ZSrc prog w i2 l2 ys St2)
    (hz : IsZip s.heap z TI TO .none) (hTI : IsPair s.heap TI (.ref i1) (.ref i2)) (hTO : IsPair s.heap TO a b) (st1 : St1 k s.heap) (st2 : St2 k s.heap)
    (hQ : ∀ x y h', xs[k]? = some x → ys[k]? = some y → IsZip h' z TI TO (rawInt s.heap.objs.size) → IsPair h' TO x y → St1 (k + 1) h' → St2 (k + 1) h' → IsPair h' s.heap.objs.size x y → h'.objs.size = s.heap.objs.size + 1 →
      (∀ c o, c ≠ z → c ≠ TO → c ≠ i1 → c ≠ i2 → s.heap.get? c = some o → h'.get? c = some o) → Q (.done (.ret (.ref s.heap.objs.size))) { s with heap := h' })
    (hE : (xs[k]? = none ∨ ys[k]? = none) → ∀ h' e, (∀ c o, c ≠ z → c ≠ TO → c ≠ i1 → c ≠ i2 → s.heap.get? c = some o → h'.get? c = some o) → (∃ o, h'.get? e = some o ∧ o.cls = .type "StopIteration") → E (.ref e) { s with heap := h' }) :
    wpAny (model prog w) A (Builtin.«zip.__next__» ⟨[.ref z], []⟩) Q
      E s := by
  show wpAny (model prog w) A (field (.ref z) 2 >>= _) _ _ _
  apply wpAny_bind; apply wpAny_field hz rfl (x := .bool false) rfl
  show wpAny (model prog w) A (field (.ref z) 3 >>= _) _ _ _
  apply wpAny_bind; apply wpAny_field hz rfl (x := .ref TI) rfl
  apply wpAny_bind; apply wpAny_seqItems hTI rfl
  show wpAny (model prog w) A (Builtin.SmallTypes.ownedTupleIsFree (.ref z) >>= _) _ _ _
  apply wpAny_bind
  unfold Builtin.SmallTypes.ownedTupleIsFree; apply wpAny_bind; apply wpAny_field hz rfl (x := .none) rfl; apply wpAny_pure
  simp only [if_true]
  apply wpAny_bind; apply wpAny_rule
  apply wpAny_bind; apply wpAny_field hz rfl (x := .ref TO) rfl
  apply wpAny_bind
  refine wpAny_setField_rec hz (by simp) fun hA zA' sA => ?_
  have zA : IsZip hA z TI TO .ellipsis := zA'
  apply wpAny_bind
  simp only [List.forIn_cons, List.forIn_nil, List.zipIdx_cons, List.zipIdx_nil]
  apply wpAny_bind; apply wpAny_bind; apply wpAny_onRaise
  show wpAny (model prog w) A (Builtin.SmallTypes.nextOf (.ref i1) >>= _) _ _ _
  have a1 : St1 k hA := S1.but st1 sA.extBut D.i1z D.l1z
  have a2 : St2 k hA := S2.but st2 sA.extBut D.i2z D.l2z
  have pA : IsPair hA TO a b := sA.extBut _ _ D.TOz hTO
  cases hx : xs[k]? with
  | none =>
    apply wpAny_bind
    refine S1.gone _ _ _ k _ hh a1 hx fun hB e xB he => ?_
    obtain ⟨oe, ge, ce⟩ := he
    have zB : IsZip hB z TI TO .ellipsis := xB _ _ D.i1z.symm zA
    have apart : e ≠ z := fun q => by rw [q, zB] at ge; cases ge; simp at ce
    exact wpAny_setField_rec zB (by simp) fun hC _ sC => hE (.inl hx) hC e (fun c o c1 _ c3 _ g => sC.extBut _ _ c1 (xB _ _ c3 (sA.extBut _ _ c1 g))) ⟨oe, sC.extBut _ _ apart ge, ce⟩
  | some x =>
    apply wpAny_bind
    refine S1.take _ _ _ k x _ a1 hx fun hB b1 sB => ?_
    apply wpAny_pure
    have pB : IsPair hB TO a b := sB.extBut _ _ D.TOi1 pA
    have b2 : St2 k hB := S2.but a2 sB.extBut D.i12.symm D.l2i1
    have zB : IsZip hB z TI TO .ellipsis := sB.extBut _ _ D.i1z.symm zA
    apply wpAny_bind; apply wpAny_seqItems pB rfl
    apply wpAny_bind
    refine wpAny_updateSeq_pair pB fun hC pC' sC => ?_
    have pC : IsPair hC TO x b := pC'
    have c1 : St1 (k + 1) hC := S1.but b1 sC.extBut D.TOi1.symm D.l1TO
    have c2 : St2 k hC := S2.but b2 sC.extBut D.TOi2.symm D.l2TO
    have zC : IsZip hC z TI TO .ellipsis := sC.extBut _ _ D.TOz.symm zB
    apply wpAny_bind; apply wpAny_letGo; apply wpAny_pure
    apply wpAny_bind; apply wpAny_bind; apply wpAny_onRaise
    show wpAny (model prog w) A (Builtin.SmallTypes.nextOf (.ref i2) >>= _) _ _ _
    cases hy : ys[k]? with
    | none =>
      apply wpAny_bind
      refine S2.gone _ _ _ k _ hh c2 hy fun hD e xD he => ?_
      obtain ⟨oe, ge, ce⟩ := he
      have zD : IsZip hD z TI TO .ellipsis := xD _ _ D.i2z.symm zC
      have apart : e ≠ z := fun q => by rw [q, zD] at ge; cases ge; simp at ce
      exact wpAny_setField_rec zD (by simp) fun hF _ sF => hE (.inr hy) hF e (fun c o n1 n2 n3 n4 g => sF.extBut _ _ n1 (xD _ _ n4 (sC.extBut _ _ n2 (sB.extBut _ _ n3 (sA.extBut _ _ n1 g))))) ⟨oe, sF.extBut _ _ apart ge, ce⟩
    | some y =>
      apply wpAny_bind
      refine S2.take _ _ _ k y _ c2 hy fun hD d2 sD => ?_
      apply wpAny_pure
      have pD : IsPair hD TO x b := sD.extBut _ _ D.TOi2 pC
      have d1 : St1 (k + 1) hD := S1.but c1 sD.extBut D.i12 D.l1i2
      have zD : IsZip hD z TI TO .ellipsis := sD.extBut _ _ D.i2z.symm zC
      apply wpAny_bind; apply wpAny_seqItems pD rfl
      apply wpAny_bind
      refine wpAny_updateSeq_pair pD fun hF pF' sF => ?_
      have pF : IsPair hF TO x y := pF'
      have f1 : St1 (k + 1) hF := S1.but d1 sF.extBut D.TOi1.symm D.l1TO
      have f2 : St2 (k + 1) hF := S2.but d2 sF.extBut D.TOi2.symm D.l2TO
      have zF : IsZip hF z TI TO .ellipsis := sF.extBut _ _ D.TOz.symm zD
      have kept : ∀ c o, c ≠ z → c ≠ TO → c ≠ i1 → c ≠ i2 → s.heap.get? c = some o → hF.get? c = some o := fun c o n1 n2 n3 n4 g =>
        sF.extBut _ _ n2 (sD.extBut _ _ n4 (sC.extBut _ _ n2 (sB.extBut _ _ n3 (sA.extBut _ _ n1 g))))
      have size : hF.objs.size = s.heap.objs.size := sF.1.trans (sD.1.trans (sC.1.trans (sB.1.trans sA.1)))
      apply wpAny_bind; apply wpAny_letGo; apply wpAny_pure; apply wpAny_pure
      apply wpAny_bind; apply wpAny_seqItems pF rfl
      apply wpAny_bind
      refine wpAny_newTuple ?_
      show wpAny (model prog w) A (Builtin.SmallTypes.ownedTupleHandOut (.ref z) (.ref hF.objs.size) >>= _) _ _ _
      apply wpAny_bind
      unfold Builtin.SmallTypes.ownedTupleHandOut; have zG : IsZip (hF.push { cls := .type "tuple", data := .seq #[x, y] }) z TI TO .ellipsis := Heap.get?_push_of_some _ zF
      apply wpAny_bind
      refine wpAny_setField_rec zG (by simp) fun hJ zJ' sJ => ?_
      have zJ : IsZip hJ z TI TO (rawInt hF.objs.size) := zJ'
      refine wpAny_setField_rec zJ (by simp) fun hL zL' sL => ?_
      have zL : IsZip hL z TI TO (rawInt hF.objs.size) := zL'
      have up : ∀ c o, c ≠ z → hF.get? c = some o → hL.get? c = some o := fun c o n g => sL.extBut _ _ n (sJ.extBut _ _ n (Heap.get?_push_of_some _ g))
      have zlt : z < hF.objs.size := Heap.lt_size zF
      have made : IsPair hL hF.objs.size x y := sL.extBut _ _ (Nat.ne_of_gt zlt) (sJ.extBut _ _ (Nat.ne_of_gt zlt) (Heap.get?_push_size _ rfl))
      have grown : hL.objs.size = hF.objs.size + 1 := by rw [sL.1, sJ.1, Heap.size_push]
      rw [size] at zL made grown
      apply wpAny_pure
      show Q (.done (.ret (.ref hF.objs.size))) _
      rw [size]
      exact hQ x y hL hx hy zL (up _ _ D.TOz pF) (S1.stay _ _ _ f1 (fun o => up _ o D.i1z) (fun o => up _ o D.l1z)) (S2.stay _ _ _ f2 (fun o => up _ o D.i2z) (fun o => up _ o D.l2z)) made grown
        fun c o n1 n2 n3 n4 g => up c o n1 (kept c o n1 n2 n3 n4 g)
theorem zip_pyNext {Q : Option Value → Shared → Prop} (hh : A.handled = none) (D : ZipApart z TI TO i1 i2 l1 l2) (S1 : ZSrc prog w i1 l1 xs St1) (S2 : ZSrc prog w i2 l2 ys St2)
    (hz : IsZip s.heap z TI TO .none) (hTI : IsPair s.heap TI (.ref i1) (.ref i2)) (hTO : IsPair s.heap TO a b) (st1 : St1 k s.heap) (st2 : St2 k s.heap)
    (hQ : ∀ x y h', xs[k]? = some x → ys[k]? = some y → IsZip h' z TI TO (rawInt s.heap.objs.size) → IsPair h' TO x y → St1 (k + 1) h' → St2 (k + 1) h' → IsPair h' s.heap.objs.size x y → h'.objs.size = s.heap.objs.size + 1 →
      (∀ c o, c ≠ z → c ≠ TO → c ≠ i1 → c ≠ i2 → s.heap.get? c = some o → h'.get? c = some o) → Q (some (.ref s.heap.objs.size)) { s with heap := h' })
    (hE : (xs[k]? = none ∨ ys[k]? = none) → ∀ h', (∀ c o, c ≠ z → c ≠ TO → c ≠ i1 → c ≠ i2 → s.heap.get? c = some o → h'.get? c = some o) → Q none { s with heap := h' }) :
    wpAny (model prog w) A (pyNext (.ref z)) Q
      E s := by
  have ty : s.TypeIs (.ref z) "zip" := ⟨_, hz, rfl⟩
  unfold pyNext
  apply wpAny_bind; apply wpAny_attempt
  refine wpAny_callSpecial?_slot (name := Str.ofString "__next__") ty PySem.F.slot_zip_next (wpAny_call_entry PySem.F.slot_zip_next ty PySem.F.entry_zip_next ?_ (PySem.F.args_zip_next_1 _))
  refine zip_turn hh D S1 S2 hz hTI hTO st1 st2 (fun x y h' ex ey c1 c2 c3 c4 c5 c6 c7 => ⟨_, rfl, wpAny_pure (hQ x y h' ex ey c1 c2 c3 c4 c5 c6 c7)⟩) fun over h' e kept he => ?_
  obtain ⟨o, ho, hc⟩ := he
  apply wpAny_bind
  exact wpAny_isInstance (T := "StopIteration") (b := true) ⟨o, ho, hc⟩ isSubtype_stop (wpAny_pure (hE over h' kept))
end
end
/-! ### a tuple and a list -/
def ItzM (K : PySem.W.Frag) (a b : Addr) : It where
  go := fun i H => ∃ (xs ys : List V) (x y : V), SqT K H a xs ∧ SqL K H b ys ∧ xs[i]? = some x ∧ ys[i]? = some y
  yld := fun i H v H' => ∃ T x y, v = .ref T ∧ H T = none ∧ H' = upd H T (.tup [x, y]) ∧ (∀ xs, SqT K H a xs → xs[i]? = some x) ∧ ∀ ys, SqL K H b ys → ys[i]? = some y
  stop := fun i H => ∃ xs ys : List V, SqT K H a xs ∧ SqL K H b ys ∧ (xs.length ≤ i ∨ ys.length ≤ i)
end Hw
namespace Hw
open PySem L2 PyProof.Rows RZ
/-! ### zip of a tuple and a list, as a loop walks it -/
theorem five {P : Addr → Prop} {z TI TO i1 i2 : Addr} (h1 : P z) (h2 : P TI) (h3 : P TO) (h4 : P i1) (h5 : P i2) : ∀ c ∈ [z, TI, TO, i1, i2], P c := by
  intro c hc
  simp only [List.mem_cons, List.not_mem_nil, or_false] at hc
  rcases hc with rfl | rfl | rfl | rfl | rfl <;> assumption
theorem ne_five {c z TI TO i1 i2 : Addr} (h : c ∉ [z, TI, TO, i1, i2]) : c ≠ z ∧ c ≠ TI ∧ c ≠ TO ∧ c ≠ i1 ∧ c ≠ i2 := by
  simp only [List.mem_cons, List.not_mem_nil, or_false, not_or] at h
  exact h
theorem turn_zipM {P : Program} {w : World} {K : PySem.W.Frag} {elts : List Expr} {kk : Nat} {tpos : Pos} {a b z TI TO i1 i2 : Addr} (D : ZipApart z TI TO i1 i2 a b) :
    Turn P w K (.Tuple elts kk tpos) (ItzM K a b) [z, TI, TO, i1, i2] z (fun i h => IsZip h z TI TO .none ∧ IsPair h TI (.ref i1) (.ref i2) ∧ (∃ x y, IsPair h TO x y) ∧ h.IsTupleIter i1 a i ∧ h.IsListIter i2 b i) where
  mem := List.mem_cons_self ..
  obj := fun i h st => by
    obtain ⟨hz, hTI, ⟨_, _, hTO⟩, ⟨o1, e1, _, d1⟩, o2, e2, _, d2⟩ := st
    exact five ⟨_, hz, fun v => (nomatch ·)⟩ ⟨_, hTI, fun v => (nomatch ·)⟩ ⟨_, hTO, fun v => (nomatch ·)⟩ ⟨o1, e1, fun v q => by rw [d1] at q; cases q⟩ ⟨o2, e2, fun v q => by rw [d2] at q; cases q⟩
  keep := fun i h h' st k => by
    obtain ⟨hz, hTI, ⟨x, y, hTO⟩, ⟨o1, e1, r1⟩, ⟨o2, e2, r2⟩⟩ := st
    exact ⟨k _ (by simp) _ hz, k _ (by simp) _ hTI, ⟨x, y, k _ (by simp) _ hTO⟩, ⟨o1, k _ (by simp) _ e1, r1⟩, ⟨o2, k _ (by simp) _ e2, r2⟩⟩
  item := by
    rintro X rfl rfl rfl calm i pins s σ H E I fp ⟨hz, hTI, ⟨x0, y0, hTO⟩, t1, t2⟩ ⟨xs, ys, x, y, qx, qy, hx, hy⟩
    obtain ⟨us, ru, p1, _⟩ := I.tuple qx
    obtain ⟨vs, rv, p2, _⟩ := I.list qy
    obtain ⟨u, hu, r1⟩ := ru.get hx
    obtain ⟨v, hv, r2⟩ := rv.get hy
    have zlt : z < s.heap.objs.size := Heap.lt_size hz
    refine zip_pyNext (I.ok.hd calm) D (src_tup (xs := us.toArray) D.l1i1.symm) (src_list (xs := vs.toArray) D.l2i2.symm) hz hTI hTO ⟨t1, p1⟩ ⟨t2, p2.isList⟩ (fun u' v' h' eu ev nz nTO n1 n2 nT grown kept => ?_) fun over => ?_
    · obtain rfl : u' = u := by simpa [hu] using eu.symm
      obtain rfl : v' = v := by simpa [hv] using ev.symm
      refine ⟨_, rfl, wpAny_letOwnedTupleGo_zip (s := { s with heap := h' }) nz fun h2 z2 sb => ?_⟩
      have pT : IsPair h2 s.heap.objs.size u' v' := (sb.2 _ (Nat.ne_of_gt zlt)).trans nT
      have laid : ObjOk X.prog X.w (upd H s.heap.objs.size (.tup [x, y])) h2 s.heap.objs.size (.tup [x, y]) := ⟨by show 2 ≤ sizeLine; decide, [u', v'], .cons r1 (.cons r2 .nil), ⟨_, pT, rfl, _, rfl⟩⟩
      have I2 := I.turnedNew (t' := s.toks) (ch := [z, TI, TO, i1, i2]) (fun c o hb q => by
        obtain ⟨c1, c2, c3, c4, c5⟩ := ne_five hb
        exact (sb.2 c c1).trans (kept c o c1 c3 c4 c5 q)) fp (Nat.le_refl _) laid
      have stay : ∀ c o, c ≠ z → h'.get? c = some o → h2.get? c = some o := fun c o n e => (sb.2 c n).trans e
      obtain ⟨⟨o1, e1, m1⟩, _⟩ := n1
      obtain ⟨⟨o2, e2, m2⟩, _⟩ := n2
      have old : ∀ c, c < s.heap.objs.size → H c = none → upd H s.heap.objs.size (.tup [x, y]) c = none := fun c lt n => by rw [upd_ne (Nat.ne_of_lt lt)]; exact n
      have f := fun c hc => (fp c hc).1
      refine ⟨.ref s.heap.objs.size, _, I2, rfl, ⟨_, x, y, rfl, I.fresh, rfl, fun l hl => by rw [I.tuple_inj hl qx]; exact hx, fun l hl => by rw [I.list_inj hl qy]; exact hy⟩,
        ⟨z2, stay _ _ D.TIz (kept _ _ D.TIz D.TITO D.TIi1 D.TIi2 hTI), ⟨u', v', stay _ _ D.TOz nTO⟩, ⟨o1, stay _ _ D.i1z e1, m1⟩, ⟨o2, stay _ _ D.i2z e2, m2⟩⟩,
        five (old _ zlt (f _ (by simp))) (old _ (Heap.lt_size hTI) (f _ (by simp))) (old _ (Heap.lt_size hTO) (f _ (by simp))) (old _ (by obtain ⟨_, e, _⟩ := t1; exact Heap.lt_size e) (f _ (by simp))) (old _ (by obtain ⟨_, e, _⟩ := t2; exact Heap.lt_size e) (f _ (by simp)))⟩
    · rcases over with q | q
      · exact absurd ((show us.toArray[i]? = some u by simpa using hu).symm.trans q) (by simp)
      · exact absurd ((show vs.toArray[i]? = some v by simpa using hv).symm.trans q) (by simp)
  done := by
    rintro X rfl rfl rfl calm i pins s σ H E I fp ⟨hz, hTI, ⟨x0, y0, hTO⟩, t1, t2⟩ ⟨xs, ys, qx, qy, over⟩
    obtain ⟨us, ru, p1, _⟩ := I.tuple qx
    obtain ⟨vs, rv, p2, _⟩ := I.list qy
    have n1 := ru.length
    have n2 := rv.length
    refine zip_pyNext (I.ok.hd calm) D (src_tup (xs := us.toArray) D.l1i1.symm) (src_list (xs := vs.toArray) D.l2i2.symm) hz hTI hTO ⟨t1, p1⟩ ⟨t2, p2.isList⟩ (fun u' v' h' eu ev _ _ _ _ _ _ _ => ?_) fun _ h' kept => ?_
    · have z1 := (Array.getElem?_eq_some_iff.mp eu).1
      have z2 := (Array.getElem?_eq_some_iff.mp ev).1
      simp only [List.size_toArray] at z1 z2
      omega
    · refine ⟨rfl, I.turnedL (t' := s.toks) (ch := [z, TI, TO, i1, i2]) (fun c o hb q => ?_) fp⟩
      obtain ⟨c1, c2, c3, c4, c5⟩ := ne_five hb
      exact kept c o c1 c3 c4 c5 q
  self := fun A i s Q E st due => wpAny_pyIter_zip st.1 due
end Hw
set_option maxHeartbeats 1200000
namespace Hw
open PySem L2 PyProof.Rows RZ
/-! ### zip(tuple, list) is called -/
abbrev itT (l : Addr) : Obj := { cls := .type "tuple_iterator", data := .fields #[.ref l, .int 0 0] }
abbrev itL (l : Addr) : Obj := { cls := .type "list_iterator", data := .fields #[.ref l, .int 0 0] }
abbrev pr2 (a b : Value) : Obj := { cls := .type "tuple", data := .seq #[a, b] }
abbrev zm (h : Heap) (t l : Addr) : Nat → Heap
  | 0 => h
  | 1 => h.push (itT t)
  | 2 => (h.push (itT t)).push (itL l)
  | 3 => ((h.push (itT t)).push (itL l)).push (pr2 (.ref h.objs.size) (.ref (h.push (itT t)).objs.size))
  | 4 => (((h.push (itT t)).push (itL l)).push (pr2 (.ref h.objs.size) (.ref (h.push (itT t)).objs.size))).push (pr2 .none .none)
  | _ => ((((h.push (itT t)).push (itL l)).push (pr2 (.ref h.objs.size) (.ref (h.push (itT t)).objs.size))).push (pr2 .none .none)).push
      { cls := .type "zip", data := .fields #[.none, .bool false, .bool false, .ref ((h.push (itT t)).push (itL l)).objs.size, .ref (((h.push (itT t)).push (itL l)).push (pr2 (.ref h.objs.size) (.ref (h.push (itT t)).objs.size))).objs.size] }
theorem meets_zipM (t l : Addr) (xs ys : Array Value) :
    Meets (Builtin.«zip.__new__» ⟨[.type "zip", .ref t, .ref l], []⟩) (fun _ R s => s.heap.IsTuple t xs ∧ s.heap.IsList l ys ∧ R (.ok (.ret (.ref (zm s.heap t l 4).objs.size))) { s with heap := zm s.heap t l 5 }) :=
  .of_wp fun prog w Ar R s h => by
    obtain ⟨hp, gs, dr, tk, os⟩ := s
    obtain ⟨at1, at2, due⟩ := h
    have sub := sub_zip
    have first : Heap.IsTuple (Shared.heap ⟨hp, gs, dr, tk, os⟩) t xs := at1
    have second : Heap.IsList (Shared.heap ⟨hp.push (itT t), gs, dr, tk, os⟩) l ys := Heap.IsList.push at2 _
    wp_walk using wpAny_pyIter_tuple first, wpAny_pyIter_list second
    exact ⟨_, rfl, due⟩
section
variable {w : World} {prog : Program} {E : Value → Shared → Prop} {A : Around} {s : Shared}
theorem call_zipM {t l : Addr} {xs ys : Array Value} {Q : Value → Shared → Prop} (at1 : s.heap.IsTuple t xs) (at2 : s.heap.IsList l ys)
    (h : ∀ h' n, n = s.heap.objs.size → IsZip h' (n + 4) (n + 2) (n + 3) .none → IsPair h' (n + 2) (.ref n) (.ref (n + 1)) → IsPair h' (n + 3) .none .none → h'.IsTupleIter n t 0 → h'.IsListIter (n + 1) l 0 →
      (∀ c o, s.heap.get? c = some o → h'.get? c = some o) → Q (.ref (n + 4)) { s with heap := h' }) :
    wpAny (model prog w) A (call (.type "zip") [.ref t, .ref l]) Q E s := by
  refine callType_new PySem.F.called_zip (by decide) (PySem.F.typeCall_zip_2 _ _) (PySem.F.newCall_zip_2 _ _) (fun obj => PySem.F.args_object_init_3 obj _ _) PySem.F.entry_zip_new (meets_zipM t l xs ys) ⟨at1, at2, ?_⟩
  have s1 : (zm s.heap t l 1).objs.size = s.heap.objs.size + 1 := Heap.size_push ..
  have s2 : (zm s.heap t l 2).objs.size = s.heap.objs.size + 2 := (Heap.size_push ..).trans (congrArg (· + 1) s1)
  have s3 : (zm s.heap t l 3).objs.size = s.heap.objs.size + 3 := (Heap.size_push ..).trans (congrArg (· + 1) s2)
  have s4 : (zm s.heap t l 4).objs.size = s.heap.objs.size + 4 := (Heap.size_push ..).trans (congrArg (· + 1) s3)
  have up : ∀ {h : Heap} {c : Addr} {o o' : Obj}, h.get? c = some o → (h.push o').get? c = some o := fun e => Heap.get?_push_of_some _ e
  have z5 : (zm s.heap t l 5).get? (zm s.heap t l 4).objs.size = some _ := Heap.get?_push_size _ rfl
  have z4 : (zm s.heap t l 5).get? (zm s.heap t l 3).objs.size = some _ := up (Heap.get?_push_size _ rfl)
  have z3 : (zm s.heap t l 5).get? (zm s.heap t l 2).objs.size = some _ := up (up (Heap.get?_push_size _ rfl))
  have z2 : (zm s.heap t l 5).get? (zm s.heap t l 1).objs.size = some _ := up (up (up (Heap.get?_push_size _ rfl)))
  have z1 : (zm s.heap t l 5).get? s.heap.objs.size = some _ := up (up (up (up (Heap.get?_push_size _ rfl))))
  have e1 : (s.heap.push (itT t)).objs.size = s.heap.objs.size + 1 := s1
  have e2 : ((s.heap.push (itT t)).push (itL l)).objs.size = s.heap.objs.size + 2 := s2
  have e3 : (((s.heap.push (itT t)).push (itL l)).push (pr2 (.ref s.heap.objs.size) (.ref (s.heap.push (itT t)).objs.size))).objs.size = s.heap.objs.size + 3 := s3
  have a5 : IsZip (zm s.heap t l 5) (s.heap.objs.size + 4) (s.heap.objs.size + 2) (s.heap.objs.size + 3) .none := by
    rw [s4] at z5
    rw [e2, e3] at z5
    exact z5
  have a3 : IsPair (zm s.heap t l 5) (s.heap.objs.size + 2) (.ref s.heap.objs.size) (.ref (s.heap.objs.size + 1)) := by
    rw [s2] at z3
    exact z3.trans (by rw [e1])
  have a4 : IsPair (zm s.heap t l 5) (s.heap.objs.size + 3) .none .none := by
    rw [s3] at z4
    exact z4
  have a2 : (zm s.heap t l 5).get? (s.heap.objs.size + 1) = some (itL l) := by
    rw [s1] at z2
    exact z2
  have due := h (zm s.heap t l 5) s.heap.objs.size rfl a5 a3 a4 ⟨_, z1, rfl, rfl⟩ ⟨_, a2, rfl, rfl⟩ fun c o e => up (up (up (up (up e))))
  show _ ∧ Q (.ref (zm s.heap t l 4).objs.size) _
  rw [s4]
  exact ⟨⟨_, a5, rfl⟩, due⟩
end
end Hw
namespace Hw
open PySem L2 PyProof.Rows RZ
/-! ### zip of two lists, two tuples, a tuple and a list -/
def iZipS (K : PySem.W.Frag) (ta : TA) : TI := fun σ H R => ta σ H fun vs H1 => ∃ a b xs ys, vs = [.ref a, .ref b] ∧
  ((SqL K H1 a xs ∧ SqL K H1 b ys ∧ R (Itz K a b) H1) ∨ (SqT K H1 a xs ∧ SqT K H1 b ys ∧ R (ItzT K a b) H1) ∨ (SqT K H1 a xs ∧ SqL K H1 b ys ∧ R (ItzM K a b) H1))
theorem pi_zipS {X : Cx} {e e2 : Expr} {ta : TA} {p pos tpos : Pos} {elts : List Expr} {kk : Nat} (hg : Gl X "zip") (hm : X.mg "zip" = none) (ha : PA X [e, e2] ta)
    (hs : starEach [e, e2] X.env = (false, eval e X.env) :: starEach [e2] X.env) (hpl : (backTo pos (starEach [e2] X.env)).any (·.1) = false) :
    PI X (.Tuple elts kk tpos) (.Call (.Name "zip" p) [e, e2] [] pos) (iZipS X.K ta) := by
  constructor
  intro pins s σ H R I h
  refine Call_ (ld_blt I hg hm PyProof.Rows.boot_zip (PyProof.Rows.callWith_type1 (thn (ha.run pos pins s σ H _ I h) fun us s1 q0 => ?_) hs hpl))
  obtain ⟨vs, H1, I1, r1, a, b, xs, ys, rfl, q1⟩ := q0
  obtain ⟨u1, u2, rfl, e1, e2⟩ : ∃ u1 u2, us = [u1, u2] ∧ RelV (.ref a) u1 ∧ RelV (.ref b) u2 := by
    cases r1 with
    | cons w1 w2 =>
      cases w2 with
      | cons w3 w4 =>
        cases w4
        exact ⟨_, _, rfl, w1, w3⟩
  have e1 : u1 = Value.ref a := e1
  have e2 : u2 = Value.ref b := e2
  subst e1 e2
  have new : ∀ c, s1.heap.objs.size ≤ c → FpOk X pins H1 c := fun c hc => I1.fpOk hc (I1.hok.fresh hc)
  have news : ∀ c ∈ [s1.heap.objs.size + 4, s1.heap.objs.size + 2, s1.heap.objs.size + 3, s1.heap.objs.size, s1.heap.objs.size + 1], FpOk X pins H1 c :=
    five (new _ (Nat.le_add_right _ _)) (new _ (Nat.le_add_right _ _)) (new _ (Nat.le_add_right _ _)) (new _ (Nat.le_refl _)) (new _ (Nat.le_add_right _ _))
  rcases q1 with ⟨qx, qy, q⟩ | ⟨qx, qy, q⟩ | ⟨qx, qy, q⟩
  · obtain ⟨its, _, p1, _⟩ := I1.list qx
    obtain ⟨jts, _, p2, _⟩ := I1.list qy
    refine call_zip_2 p1.isList p2.isList fun h' hz hTI hTO g1 g2 _ kept => wpAny_pyIter_zip hz ?_
    exact ⟨_, _, _, _, H1, rfl, I1.kept (t' := s1.toks) kept, turn_zip (PySem.W.ktu_apart s1.heap.objs.size a b p1.lt p2.lt), ⟨hz, hTI, ⟨_, _, hTO⟩, g1, g2⟩, news, q⟩
  · obtain ⟨its, _, ⟨o1, p1, r1⟩, _⟩ := I1.tuple qx
    obtain ⟨jts, _, ⟨o2, p2, r2⟩, _⟩ := I1.tuple qy
    refine call_zipT (xs := its.toArray) (ys := jts.toArray) ⟨o1, p1, r1⟩ ⟨o2, p2, r2⟩ fun h' hz hTI hTO g1 g2 _ kept => wpAny_pyIter_zip hz ?_
    exact ⟨_, _, _, _, H1, rfl, I1.kept (t' := s1.toks) kept, turn_zipT (PySem.W.ktu_apart s1.heap.objs.size a b (Heap.lt_size p1) (Heap.lt_size p2)), ⟨hz, hTI, ⟨_, _, hTO⟩, g1, g2⟩, news, q⟩
  · obtain ⟨its, _, ⟨o1, p1, r1⟩, _⟩ := I1.tuple qx
    obtain ⟨jts, _, p2, _⟩ := I1.list qy
    refine call_zipM (xs := its.toArray) (ys := jts.toArray) ⟨o1, p1, r1⟩ p2.isList fun h' n hn hz hTI hTO g1 g2 kept => wpAny_pyIter_zip hz ?_
    subst hn
    exact ⟨_, _, _, _, H1, rfl, I1.kept (t' := s1.toks) kept, turn_zipM (PySem.W.ktu_apart s1.heap.objs.size a b (Heap.lt_size p1) p2.lt), ⟨hz, hTI, ⟨_, _, hTO⟩, g1, g2⟩, news, q⟩
section
variable {K : PySem.W.Frag} {T : Tb} {m : List Addr} {A : AH} {H : Hp} {p q : Addr} {vs us : List V} {l r : List D}
/-- a new pair, its parts as they stand -/
theorem pair_new {m' : List Addr} {A' : AH} {H' : Hp} {dx dy : D} {vx vy : V} {T0 : Addr} (hl : m.length = A.length) (lt : Lt m A H m' A' H') (hr : HR K T m' A' H') (q1 : Rep K T m A H dx vx) (q2 : Rep K T m A H dy vy) (hT : H' T0 = none) :
    Lt m' A' H' m' A' (upd H' T0 (.tup [vx, vy])) ∧ HR K T m' A' (upd H' T0 (.tup [vx, vy])) ∧ RepW K T m' A' (upd H' T0 (.tup [vx, vy])) (.t (.tup [dx, dy])) (.ref T0) := by
  have l2 : Lt m' A' H' m' A' (upd H' T0 (.tup [vx, vy])) := Lt.new hT
  refine ⟨l2, hr.new hT, ?_⟩
  simp only [RepW, Rep, Reps]
  exact ⟨T0, _, rfl, .inl ⟨.inl upd_same, Fr.of_notin (hr.notin hT)⟩, vx, _, rfl, Rep.lt l2 hr.len _ _ (Rep.lt lt hl _ _ q1), vy, _, rfl, Rep.lt l2 hr.len _ _ (Rep.lt lt hl _ _ q2), rfl⟩
theorem wk_zipM (hl : m.length = A.length) (h1 : (Rd H p (.tup vs) ∧ Fr m A p) ∨ (∀ H', SqT K H' p vs)) (h2 : (Rd H q (.lst us) ∧ Fr m A q) ∨ (∀ H', SqL K H' q us)) (r1 : Reps K T m A H l vs) (r2 : Reps K T m A H r us) : Wk K T (ItzM K p q) m A H (zipD l r) := by
  have n1 := r1.length
  have n2 := r2.length
  have n := zip_len l r
  refine ⟨fun i m' A' H' lt _ hi => ?_, fun m' A' H' lt _ => ⟨vs, us, sqT_lt lt h1, sq_lt lt h2, by omega⟩, fun i m' A' H' x H'' w lt hr e y => ?_⟩
  · have i1 : i < vs.length := by omega
    have i2 : i < us.length := by omega
    exact ⟨vs, us, vs[i], us[i], sqT_lt lt h1, sq_lt lt h2, List.getElem?_eq_getElem i1, List.getElem?_eq_getElem i2⟩
  · obtain ⟨dx, dy, e1, e2, rfl⟩ := zip_get e
    obtain ⟨T0, vx, vy, rfl, hT, rfl, f1, f2⟩ := y
    obtain ⟨v1, g1, q1⟩ := reps_get r1 e1
    obtain ⟨v2, g2, q2⟩ := reps_get r2 e2
    obtain rfl : v1 = vx := Option.some.inj (g1.symm.trans (f1 _ (sqT_lt lt h1)))
    obtain rfl : v2 = vy := Option.some.inj (g2.symm.trans (f2 _ (sq_lt lt h2)))
    exact pair_new hl lt hr q1 q2 hT
theorem wk_zipT (hl : m.length = A.length) (h1 : (Rd H p (.tup vs) ∧ Fr m A p) ∨ (∀ H', SqT K H' p vs)) (h2 : (Rd H q (.tup us) ∧ Fr m A q) ∨ (∀ H', SqT K H' q us)) (r1 : Reps K T m A H l vs) (r2 : Reps K T m A H r us) : Wk K T (ItzT K p q) m A H (zipD l r) := by
  have n1 := r1.length
  have n2 := r2.length
  have n := zip_len l r
  refine ⟨fun i m' A' H' lt _ hi => ?_, fun m' A' H' lt _ => ⟨vs, us, sqT_lt lt h1, sqT_lt lt h2, by omega⟩, fun i m' A' H' x H'' w lt hr e y => ?_⟩
  · have i1 : i < vs.length := by omega
    have i2 : i < us.length := by omega
    exact ⟨vs, us, vs[i], us[i], sqT_lt lt h1, sqT_lt lt h2, List.getElem?_eq_getElem i1, List.getElem?_eq_getElem i2⟩
  · obtain ⟨dx, dy, e1, e2, rfl⟩ := zip_get e
    obtain ⟨T0, vx, vy, rfl, hT, rfl, f1, f2⟩ := y
    obtain ⟨v1, g1, q1⟩ := reps_get r1 e1
    obtain ⟨v2, g2, q2⟩ := reps_get r2 e2
    obtain rfl : v1 = vx := Option.some.inj (g1.symm.trans (f1 _ (sqT_lt lt h1)))
    obtain rfl : v2 = vy := Option.some.inj (g2.symm.trans (f2 _ (sqT_lt lt h2)))
    exact pair_new hl lt hr q1 q2 hT
end
/-- zip as the walk reads it -/
def vZipS (g : DenA) : DenI := fun env A Q => g env A fun ws B => match ws with
  | [.t (.lst l), .t (.lst r)] => Q (zipD l r) B
  | [.t (.tup l), .t (.tup r)] => Q (zipD l r) B
  | [.t (.tup l), .t (.lst r)] => Q (zipD l r) B
  | _ => False
theorem si_zipS {C : Ctx} {a b : Expr} {pos p tpos : Pos} {elts : List Expr} {kk : Nat} {g : DenA} {gg : Gc} (hm : gg.mg "zip" = none) (hC : C.g = gg) (hg : glOk C.sc "zip" = true) (ha : SA C [a, b] g) (hs : ∀ env : PySem.Env, starEach [a, b] env = (false, eval a env) :: starEach [b] env) (h2 : ∀ env : PySem.Env, (backTo pos (starEach [b] env)).any (·.1) = false) :
    SI C (.Tuple elts kk tpos) (.Call (.Name "zip" p) [a, b] [] pos) (vZipS g) := by
  subst hC
  refine ⟨fun env A Q Q' k h => ha.mono _ _ _ _ (fun w B z => ?_) h, fun X hX => PI.weak (pi_zipS (by show X.env.scope.names.lookup _ = _; rw [hX.sc]; exact (gl_ok hg).1) (by rw [hX.g.mg]; exact hm) (ha.run X hX) (hs X.env) (h2 X.env)) fun σ H R z => ?_⟩
  · split at z
    · exact k _ _ z
    · exact k _ _ z
    · exact k _ _ z
    · exact z.elim
  · obtain ⟨env, m, A, er, hr, h⟩ := z
    refine ⟨env, m, A, er, hr, ha.mono _ _ _ _ (fun w B z v m' H' l h' r => ?_) h⟩
    split at z
    · obtain ⟨v1, v2, rfl, q1, q2⟩ := rep2 r
      simp only [RepW, Rep] at q1 q2
      obtain ⟨p1, xs, rfl, s1, t1⟩ := q1
      obtain ⟨p2, ys, rfl, s2, t2⟩ := q2
      rw [hX.g.K]
      exact ⟨p1, p2, xs, ys, rfl, .inl ⟨lst_sq s1, lst_sq s2, z _ m' H' l h' (wk_zip h'.len s1 s2 t1 t2)⟩⟩
    · obtain ⟨v1, v2, rfl, q1, q2⟩ := rep2 r
      simp only [RepW, Rep] at q1 q2
      obtain ⟨p1, xs, rfl, s1, t1⟩ := q1
      obtain ⟨p2, ys, rfl, s2, t2⟩ := q2
      rw [hX.g.K]
      exact ⟨p1, p2, xs, ys, rfl, .inr (.inl ⟨tup_sq s1, tup_sq s2, z _ m' H' l h' (wk_zipT h'.len s1 s2 t1 t2)⟩)⟩
    · obtain ⟨v1, v2, rfl, q1, q2⟩ := rep2 r
      simp only [RepW, Rep] at q1 q2
      obtain ⟨p1, xs, rfl, s1, t1⟩ := q1
      obtain ⟨p2, ys, rfl, s2, t2⟩ := q2
      rw [hX.g.K]
      exact ⟨p1, p2, xs, ys, rfl, .inr (.inr ⟨tup_sq s1, lst_sq s2, z _ m' H' l h' (wk_zipM h'.len s1 s2 t1 t2)⟩)⟩
    · exact z.elim
end Hw
namespace Hw
open PySem L2
/-! ### the rules as the walker takes them -/
section
variable {C : Ctx} {pos : Pos}
theorem sg_sq {es : List Expr} {q : Nat} {sl : List Nat} {h : DenGs} (h1 : SGs C es sl h) (hn : ∀ env : PySem.Env, (assignEach es env).length = es.length) (hst : ∀ env : PySem.Env, (assignEach es env).findIdx? (·.1) = none) : SG C (.Tuple es q pos) sl (dSeq es.length h) := sg_seq h1 hn hst
end
end Hw
namespace Hw
open PySem L2
/-! ### k12: numbers as they are passed, told fours -/
section
variable {G : Gc} {k nc n : Nat} {ks : List Str} {x : Str}
/-- a number as it is passed, its worth -/
structure NumOk (d : D) (q : Rat) : Prop where
  is : numD d = some q
  sm : ∀ i, d = .int i → Sm i
theorem NumOk.cases {d : D} {q : Rat} (h : NumOk d q) : (∃ i : Int, d = .int i ∧ q = i ∧ Sm i) ∨ d = .rat q := by
  obtain ⟨e, s⟩ := h
  cases d <;> simp only [numD] at e <;> first | (cases e; done) | skip
  · cases e; exact .inl ⟨_, rfl, rfl, s _ rfl⟩
  · cases e; exact .inr rfl
theorem NumOk.num {d : D} {q : Rat} (h : NumOk d q) : isNum d = true := by
  rcases h.cases with ⟨i, rfl, _, _⟩ | rfl <;> rfl
theorem NumOk.cok {d : D} {q : Rat} (h : NumOk d q) (h0 : 0 < nc) : cok nc d = true := by
  rcases h.cases with ⟨i, rfl, _, _⟩ | rfl
  · rfl
  · simp [Hw.cok, h0]
@[irreducible] def sToldN : OL := fun ws A Q => match ws with
  | [.t d] => ∃ q, NumOk d q ∧ Q (.t (.rat q)) A
  | _ => False
theorem mon_toldN : MonL sToldN := fun ws A Q Q' k h => by
  unfold sToldN at h ⊢
  split at h
  · obtain ⟨q, h1, h2⟩ := h; exact ⟨q, h1, k _ _ h2⟩
  · exact h.elim
theorem told_go {d : D} {q : Rat} {A : AH} {Q : WK} (h : NumOk d q) (z : Q (.t (.rat q)) A) : sToldN [.t d] A Q := by
  unfold sToldN
  exact ⟨q, h, z⟩
theorem toldN_of {ws : List W} {A : AH} {Q : WK} (h : sToldN ws A Q) : sTold ws A Q := by
  unfold sToldN at h
  split at h
  · obtain ⟨q, h1, h2⟩ := h
    rcases h1.cases with ⟨i, rfl, rfl, s⟩ | rfl
    · exact ⟨s, h2⟩
    · exact ⟨trivial, h2⟩
  · exact h.elim
/-- four numbers in a list or a tuple, and what is told of their worths -/
structure Four (d : D) (a b c e : Rat) : Prop where
  ex : ∃ x y z w, (d = .lst [x, y, z, w] ∨ d = .tup [x, y, z, w]) ∧ NumOk x a ∧ NumOk y b ∧ NumOk z c ∧ NumOk w e
@[irreducible] def sIs4 : OL := fun ws A Q => match ws with
  | [.t d] => ∃ a b c e, Four d a b c e ∧ Q (.t (.bl true)) A
  | _ => False
@[irreducible] def sAre4 : OL := fun ws A Q => match ws with
  | [.t d, .t (.int i)] => i = 4 ∧ ∃ a b c e, Four d a b c e ∧ Q (.t (.bl true)) A
  | _ => False
@[irreducible] def sTold4 : OL := fun ws A Q => match ws with
  | [.t d] => ∃ a b c e, Four d a b c e ∧ Q (.t (.tup [.rat a, .rat b, .rat c, .rat e])) A
  | _ => False
theorem mon_is4 : MonL sIs4 := fun ws A Q Q' k h => by
  unfold sIs4 at h ⊢
  split at h
  · obtain ⟨a, b, c, e, h1, h2⟩ := h; exact ⟨a, b, c, e, h1, k _ _ h2⟩
  · exact h.elim
theorem mon_are4 : MonL sAre4 := fun ws A Q Q' k h => by
  unfold sAre4 at h ⊢
  split at h
  · obtain ⟨h0, a, b, c, e, h1, h2⟩ := h; exact ⟨h0, a, b, c, e, h1, k _ _ h2⟩
  · exact h.elim
theorem mon_told4 : MonL sTold4 := fun ws A Q Q' k h => by
  unfold sTold4 at h ⊢
  split at h
  · obtain ⟨a, b, c, e, h1, h2⟩ := h; exact ⟨a, b, c, e, h1, k _ _ h2⟩
  · exact h.elim
theorem is4_go {d : D} {a b c e : Rat} {A : AH} {Q : WK} (h : Four d a b c e) (z : Q (.t (.bl true)) A) : sIs4 [.t d] A Q := by
  unfold sIs4; exact ⟨a, b, c, e, h, z⟩
theorem are4_go {d : D} {a b c e : Rat} {A : AH} {Q : WK} (h : Four d a b c e) (z : Q (.t (.bl true)) A) : sAre4 [.t d, .t (.int 4)] A Q := by
  unfold sAre4; exact ⟨rfl, a, b, c, e, h, z⟩
theorem told4_go {d : D} {a b c e : Rat} {A : AH} {Q : WK} (h : Four d a b c e) (z : Q (.t (.tup [.rat a, .rat b, .rat c, .rat e])) A) : sTold4 [.t d] A Q := by
  unfold sTold4; exact ⟨a, b, c, e, h, z⟩
theorem is4_cases {ws : List W} {A : AH} {Q : WK} (h : sIs4 ws A Q) : ∃ d a b c e, ws = [.t d] ∧ Four d a b c e ∧ Q (.t (.bl true)) A := by
  unfold sIs4 at h
  split at h
  · obtain ⟨a, b, c, e, h1, h2⟩ := h; exact ⟨_, a, b, c, e, rfl, h1, h2⟩
  · exact h.elim
theorem are4_cases {ws : List W} {A : AH} {Q : WK} (h : sAre4 ws A Q) : ∃ d a b c e, ws = [.t d, .t (.int 4)] ∧ Four d a b c e ∧ Q (.t (.bl true)) A := by
  unfold sAre4 at h
  split at h
  · obtain ⟨rfl, a, b, c, e, h1, h2⟩ := h; exact ⟨_, a, b, c, e, rfl, h1, h2⟩
  · exact h.elim
theorem told4_cases {ws : List W} {A : AH} {Q : WK} (h : sTold4 ws A Q) : ∃ d a b c e, ws = [.t d] ∧ Four d a b c e ∧ Q (.t (.tup [.rat a, .rat b, .rat c, .rat e])) A := by
  unfold sTold4 at h
  split at h
  · obtain ⟨a, b, c, e, h1, h2⟩ := h; exact ⟨_, a, b, c, e, rfl, h1, h2⟩
  · exact h.elim
theorem four_rat (a b c e : Rat) : Four (.tup [.rat a, .rat b, .rat c, .rat e]) a b c e := ⟨_, _, _, _, .inr rfl, ⟨rfl, fun _ => (nomatch ·)⟩, ⟨rfl, fun _ => (nomatch ·)⟩, ⟨rfl, fun _ => (nomatch ·)⟩, ⟨rfl, fun _ => (nomatch ·)⟩⟩
/-- eight numbers of at most n bits, small enough for a product of fours -/
def B8 (a b c d p q r s : Rat) : Prop := ∃ n, 8 * n + 3 ≤ 3990 ∧ Sz n a ∧ Sz n b ∧ Sz n c ∧ Sz n d ∧ Sz n p ∧ Sz n q ∧ Sz n r ∧ Sz n s
/-- four numbers and 1 over their norm -/
def B4 (a b c d : Rat) : Prop := ∃ n, 10 * n + 8 ≤ 3990 ∧ Sz n a ∧ Sz n b ∧ Sz n c ∧ Sz n d
def prodD (a b c d p q r s : Rat) : D := .tup [.rat (a * p - b * q - c * r - d * s), .rat (a * q + b * p + c * s - d * r), .rat (a * r - b * s + c * p + d * q), .rat (a * s + b * r - c * q + d * p)]
def nrm (a b c d : Rat) : Rat := a * a + b * b + c * c + d * d
@[irreducible] def sTimes4 : OL := fun ws A Q => match ws with
  | [.t x, .t y] => ∃ a b c d p q r s, (Four x a b c d ∧ Four y p q r s ∧ B8 a b c d p q r s) ∧ Q (.t (prodD a b c d p q r s)) A
  | _ => False
@[irreducible] def sNorm4 : OL := fun ws A Q => match ws with
  | [.t x] => ∃ a b c d, (Four x a b c d ∧ B8 a b c d a b c d) ∧ Q (.t (.rat (nrm a b c d))) A
  | _ => False
def undD (a b c d : Rat) : D := .tup [.rat (a * (((1 : Int) : Rat) / nrm a b c d)), .rat (-b * (((1 : Int) : Rat) / nrm a b c d)), .rat (-c * (((1 : Int) : Rat) / nrm a b c d)), .rat (-d * (((1 : Int) : Rat) / nrm a b c d))]
@[irreducible] def sUndone4 : OL := fun ws A Q => match ws with
  | [.t x] => ∃ a b c d, (Four x a b c d ∧ B4 a b c d ∧ nrm a b c d ≠ 0) ∧ Q (.t (undD a b c d)) A
  | _ => False
theorem mon_times4 : MonL sTimes4 := fun ws A Q Q' k h => by
  unfold sTimes4 at h ⊢
  split at h
  · obtain ⟨a, b, c, d, p, q, r, s, h1, h2⟩ := h; exact ⟨a, b, c, d, p, q, r, s, h1, k _ _ h2⟩
  · exact h.elim
theorem mon_norm4 : MonL sNorm4 := fun ws A Q Q' k h => by
  unfold sNorm4 at h ⊢
  split at h
  · obtain ⟨a, b, c, d, h1, h2⟩ := h; exact ⟨a, b, c, d, h1, k _ _ h2⟩
  · exact h.elim
theorem mon_undone4 : MonL sUndone4 := fun ws A Q Q' k h => by
  unfold sUndone4 at h ⊢
  split at h
  · obtain ⟨a, b, c, d, h1, h2⟩ := h; exact ⟨a, b, c, d, h1, k _ _ h2⟩
  · exact h.elim
theorem times4_go {x y : D} {a b c d p q r s : Rat} {A : AH} {Q : WK} (h1 : Four x a b c d) (h2 : Four y p q r s) (h3 : B8 a b c d p q r s) (z : Q (.t (prodD a b c d p q r s)) A) : sTimes4 [.t x, .t y] A Q := by
  unfold sTimes4; exact ⟨_, _, _, _, _, _, _, _, ⟨h1, h2, h3⟩, z⟩
theorem norm4_go {x : D} {a b c d : Rat} {A : AH} {Q : WK} (h1 : Four x a b c d) (h3 : B8 a b c d a b c d) (z : Q (.t (.rat (nrm a b c d))) A) : sNorm4 [.t x] A Q := by
  unfold sNorm4; exact ⟨_, _, _, _, ⟨h1, h3⟩, z⟩
theorem undone4_go {x : D} {a b c d : Rat} {A : AH} {Q : WK} (h1 : Four x a b c d) (h2 : B4 a b c d) (h3 : nrm a b c d ≠ 0) (z : Q (.t (undD a b c d)) A) : sUndone4 [.t x] A Q := by
  unfold sUndone4; exact ⟨_, _, _, _, ⟨h1, h2, h3⟩, z⟩
theorem times4_cases {ws : List W} {A : AH} {Q : WK} (h : sTimes4 ws A Q) : ∃ x y a b c d p q r s, ws = [.t x, .t y] ∧ Four x a b c d ∧ Four y p q r s ∧ B8 a b c d p q r s ∧ Q (.t (prodD a b c d p q r s)) A := by
  unfold sTimes4 at h
  split at h
  · obtain ⟨a, b, c, d, p, q, r, s, ⟨h1, h2, h3⟩, h4⟩ := h; exact ⟨_, _, a, b, c, d, p, q, r, s, rfl, h1, h2, h3, h4⟩
  · exact h.elim
theorem norm4_cases {ws : List W} {A : AH} {Q : WK} (h : sNorm4 ws A Q) : ∃ x a b c d, ws = [.t x] ∧ Four x a b c d ∧ B8 a b c d a b c d ∧ Q (.t (.rat (nrm a b c d))) A := by
  unfold sNorm4 at h
  split at h
  · obtain ⟨a, b, c, d, ⟨h1, h2⟩, h4⟩ := h; exact ⟨_, a, b, c, d, rfl, h1, h2, h4⟩
  · exact h.elim
theorem undone4_cases {ws : List W} {A : AH} {Q : WK} (h : sUndone4 ws A Q) : ∃ x a b c d, ws = [.t x] ∧ Four x a b c d ∧ B4 a b c d ∧ nrm a b c d ≠ 0 ∧ Q (.t (undD a b c d)) A := by
  unfold sUndone4 at h
  split at h
  · obtain ⟨a, b, c, d, ⟨h1, h2, h3⟩, h4⟩ := h; exact ⟨_, a, b, c, d, rfl, h1, h2, h3, h4⟩
  · exact h.elim
theorem nought_no {a b c d : Rat} (h : nrm a b c d ≠ 0) : ([a.num.sign == 0, b.num.sign == 0, c.num.sign == 0, d.num.sign == 0].all id) = false := by
  cases e : ([a.num.sign == 0, b.num.sign == 0, c.num.sign == 0, d.num.sign == 0].all id) with
  | false => rfl
  | true =>
    simp only [List.all_cons, List.all_nil, Bool.and_true, Bool.and_eq_true, id_eq, beq_iff_eq, Int.sign_eq_zero_iff_zero] at e
    obtain ⟨e1, e2, e3, e4⟩ := e
    refine absurd ?_ h
    rw [Rat.num_eq_zero] at e1 e2 e3 e4
    subst e1 e2 e3 e4
    unfold nrm
    decide +kernel
theorem und_sz {a b c d : Rat} (h : B4 a b c d) (hn : nrm a b c d ≠ 0) : B8 a b c d a b c d ∧ (pSz1 b ∧ pSz1 c ∧ pSz1 d) ∧ pDiv ((1 : Int) : Rat) (nrm a b c d) ∧
    (pSz a (((1 : Int) : Rat) / nrm a b c d) ∧ pSz (-b) (((1 : Int) : Rat) / nrm a b c d) ∧ pSz (-c) (((1 : Int) : Rat) / nrm a b c d) ∧ pSz (-d) (((1 : Int) : Rat) / nrm a b c d)) := by
  obtain ⟨n, hz, ha, hb, hc, hd⟩ := h
  have up : ∀ {m : Nat} {q : Rat}, Sz m q → m ≤ 8 * n + 8 → Sz 3990 q := fun h k => h.up (by omega)
  have sn : Sz (8 * n + 3) (nrm a b c d) := ((((ha.mul ha).add (hb.mul hb)).add (hc.mul hc)).add (hd.mul hd)).up (by omega)
  have s1 : Sz 1 ((1 : Int) : Rat) := ⟨by decide +kernel, by decide +kernel⟩
  have so := up (s1.div sn hn) (by omega)
  exact ⟨⟨n, by omega, ha, hb, hc, hd, ha, hb, hc, hd⟩, ⟨up hb (by omega), up hc (by omega), up hd (by omega)⟩, ⟨⟨up s1 (by omega), up sn (by omega)⟩, hn⟩,
    ⟨up ha (by omega), so⟩, ⟨up hb.neg (by omega), so⟩, ⟨up hc.neg (by omega), so⟩, ⟨up hd.neg (by omega), so⟩⟩
/-! ### the law's own reckoning with ints -/
def ints4 (a b c d : Int) : List D := [.int a, .int b, .int c, .int d]
def Ints4 (x : D) (a b c d : Int) : Prop := x = .lst (ints4 a b c d) ∨ x = .tup (ints4 a b c d)
structure Sm8 (a b c d p q r s : Int) : Prop where
  a : Sm a
  b : Sm b
  c : Sm c
  d : Sm d
  p : Sm p
  q : Sm q
  r : Sm r
  s : Sm s
def lfourD (a b c d p q r s : Int) : D := .lst [.int (a * p - b * q - c * r - d * s), .int (a * q + b * p + c * s - d * r), .int (a * r - b * s + c * p + d * q), .int (a * s + b * r - c * q + d * p)]
@[irreducible] def sLFour : OL := fun ws A Q => match ws with
  | [.t x, .t y] => ∃ a b c d p q r s, (Ints4 x a b c d ∧ Ints4 y p q r s ∧ Sm8 a b c d p q r s) ∧ Q (.t (lfourD a b c d p q r s)) A
  | _ => False
theorem mon_lfour : MonL sLFour := fun ws A Q Q' k h => by
  unfold sLFour at h ⊢
  split at h
  · obtain ⟨a, b, c, d, p, q, r, s, h1, h2⟩ := h; exact ⟨a, b, c, d, p, q, r, s, h1, k _ _ h2⟩
  · exact h.elim
theorem lfour_go {x y : D} {a b c d p q r s : Int} {A : AH} {Q : WK} (h1 : Ints4 x a b c d) (h2 : Ints4 y p q r s) (h3 : Sm8 a b c d p q r s) (z : Q (.t (lfourD a b c d p q r s)) A) : sLFour [.t x, .t y] A Q := by
  unfold sLFour; exact ⟨_, _, _, _, _, _, _, _, ⟨h1, h2, h3⟩, z⟩
theorem lfour_cases {ws : List W} {A : AH} {Q : WK} (h : sLFour ws A Q) : ∃ x y a b c d p q r s, ws = [.t x, .t y] ∧ Ints4 x a b c d ∧ Ints4 y p q r s ∧ Sm8 a b c d p q r s ∧ Q (.t (lfourD a b c d p q r s)) A := by
  unfold sLFour at h
  split at h
  · obtain ⟨a, b, c, d, p, q, r, s, ⟨h1, h2, h3⟩, h4⟩ := h; exact ⟨_, _, a, b, c, d, p, q, r, s, rfl, h1, h2, h3, h4⟩
  · exact h.elim
/-- an int between -k and k -/
def Lim (k v : Int) : Prop := -k ≤ v ∧ v ≤ k
def sLRow : OL := fun ws A Q => match ws with
  | [.loc j, .t (.int n), .t (.int k)] => n = 4 ∧ Pot A j ∧ (0 ≤ k ∧ k < 100) ∧ ∀ A' a b c d, Pot A' j → Kp A A' j → Lim k a → Lim k b → Lim k c → Lim k d → Q (.t (.lst (ints4 a b c d))) A'
  | _ => False
theorem mon_lrow : MonL sLRow := fun ws A Q Q' k h => by
  unfold sLRow at h ⊢
  split at h
  · exact ⟨h.1, h.2.1, h.2.2.1, fun A' a b c d h1 h2 h3 h4 h5 h6 => k _ _ (h.2.2.2 A' a b c d h1 h2 h3 h4 h5 h6)⟩
  · exact h.elim
theorem Pot.lt {A : AH} {j : Nat} (h : Pot A j) : j < A.length := by
  obtain ⟨_, _, _, _, _, e⟩ := h
  exact (List.getElem?_eq_some_iff.1 e).1
theorem Pot.app {A : AH} {j : Nat} {c : Cell} (h : Pot A j) : Pot (A ++ [c]) j := by
  have lt := h.lt
  obtain ⟨a, b, h1, h2, h3, e⟩ := h
  exact ⟨a, b, h1, h2, h3, by rw [List.getElem?_append_left lt]; exact e⟩
/-- what one draw within a comprehension leaves -/
theorem pot_cut {A A' : AH} {j : Nat} {c : Cell} (hp : Pot A j) (h : Pot A' j) (k : Kp (A ++ [c]) A' j) : ∃ B, A' = B ++ [c] ∧ B.length = A.length ∧ Pot B j ∧ Kp A B j := by
  have lt := hp.lt
  have n : A'.length = A.length + 1 := by rw [k.len]; simp
  have last : A'[A.length]? = some c := by rw [k.at_ _ (by omega)]; simp
  refine ⟨A'.take A.length, ?_, by simp [n], ?_, ⟨by simp [n], fun i hi => ?_⟩⟩
  · have z := List.take_append_drop A.length A'
    have one : A'.drop A.length = [c] := by
      rw [List.drop_eq_getElem_cons (by omega), List.drop_of_length_le (by omega)]
      congr 1
      exact (List.getElem?_eq_some_iff.mp last).2
    rw [one] at z
    exact z.symm
  · obtain ⟨a, b, h1, h2, h3, e⟩ := h
    exact ⟨a, b, h1, h2, h3, by rw [List.getElem?_take_of_lt lt]; exact e⟩
  · by_cases q : i < A.length
    · rw [List.getElem?_take_of_lt q, k.at_ i hi, List.getElem?_append_left q]
    · rw [List.getElem?_eq_none (by simp; omega), List.getElem?_eq_none (by omega)]
/-- ints over a bottom, as they are passed -/
def sPassed : OL := fun ws A Q => match ws with
  | [.loc j, .t (.lst [.int a, .int b, .int c, .int d]), .t (.int B)] => Pot A j ∧ (0 < B ∧ B < 100) ∧ (Lim 1000 a ∧ Lim 1000 b ∧ Lim 1000 c ∧ Lim 1000 d) ∧ ∀ A' x, Pot A' j → Kp A A' j → Four x (mkR a B) (mkR b B) (mkR c B) (mkR d B) → Q (.t x) A'
  | _ => False
theorem mon_passed : MonL sPassed := fun ws A Q Q' k h => by
  unfold sPassed at h ⊢
  split at h
  · exact ⟨h.1, h.2.1, h.2.2.1, fun A' x h1 h2 h3 => k _ _ (h.2.2.2 A' x h1 h2 h3)⟩
  · exact h.elim
end
end Hw
namespace Hw
open PySem L2
structure RowSz (x x' y y' z z' w w' : Rat) : Prop where
  p1 : pSz x x'
  p2 : pSz y y'
  p3 : pSz z z'
  p4 : pSz w w'
  m : pSz (x * x') (y * y')
  a : pSz (x * x' + y * y') (z * z')
  s : pSz (x * x' - y * y') (z * z')
  aa : pSz (x * x' + y * y' + z * z') (w * w')
  as : pSz (x * x' + y * y' - z * z') (w * w')
  sa : pSz (x * x' - y * y' + z * z') (w * w')
  ss : pSz (x * x' - y * y' - z * z') (w * w')
theorem row_sz {n : Nat} (hn : 8 * n + 3 ≤ 3990) {x x' y y' z z' w w' : Rat} (h1 : Sz n x) (h1' : Sz n x') (h2 : Sz n y) (h2' : Sz n y') (h3 : Sz n z) (h3' : Sz n z') (h4 : Sz n w) (h4' : Sz n w') : RowSz x x' y y' z z' w w' := by
  have a := h1.mul h1'
  have b := h2.mul h2'
  have c := h3.mul h3'
  have d := h4.mul h4'
  have up : ∀ {m : Nat} {q : Rat}, Sz m q → m ≤ 8 * n + 3 → Sz 3990 q := fun h k => h.up (Nat.le_trans k hn)
  exact ⟨⟨up h1 (by omega), up h1' (by omega)⟩, ⟨up h2 (by omega), up h2' (by omega)⟩, ⟨up h3 (by omega), up h3' (by omega)⟩, ⟨up h4 (by omega), up h4' (by omega)⟩, ⟨up a (by omega), up b (by omega)⟩,
    ⟨up (a.add b) (by omega), up c (by omega)⟩, ⟨up (a.sub b) (by omega), up c (by omega)⟩, ⟨up ((a.add b).add c) (by omega), up d (by omega)⟩, ⟨up ((a.add b).sub c) (by omega), up d (by omega)⟩, ⟨up ((a.sub b).add c) (by omega), up d (by omega)⟩, ⟨up ((a.sub b).sub c) (by omega), up d (by omega)⟩⟩
def sProd4 : OL := pureS fun ws => match ws with
  | [.t (.tup [.rat a, .rat b, .rat c, .rat d]), .t (.tup [.rat p, .rat q, .rat r, .rat s])] => some ((∃ n, 8 * n + 3 ≤ 3990 ∧ Sz n a ∧ Sz n b ∧ Sz n c ∧ Sz n d ∧ Sz n p ∧ Sz n q ∧ Sz n r ∧ Sz n s), .t (.tup [.rat (a * p - b * q - c * r - d * s), .rat (a * q + b * p + c * s - d * r), .rat (a * r - b * s + c * p + d * q), .rat (a * s + b * r - c * q + d * p)]))
  | _ => none
def sNought4 : OL := pureS fun ws => match ws with
  | [.t (.tup [.rat a, .rat b, .rat c, .rat d])] => some (True, .t (.bl ([a.num.sign == 0, b.num.sign == 0, c.num.sign == 0, d.num.sign == 0].all id)))
  | _ => none
def sScaled4 : OL := pureS fun ws => match ws with
  | [.t (.tup [.rat a, .rat b, .rat c, .rat d]), .t (.rat s)] => some (pSz a s ∧ pSz b s ∧ pSz c s ∧ pSz d s, .t (.tup [.rat (a * s), .rat (b * s), .rat (c * s), .rat (d * s)]))
  | _ => none
def sDot4 : OL := pureS fun ws => match ws with
  | [.t (.tup [.rat a, .rat b, .rat c, .rat d]), .t (.tup [.rat p, .rat q, .rat r, .rat s])] => some ((∃ n, 8 * n + 3 ≤ 3990 ∧ Sz n a ∧ Sz n b ∧ Sz n c ∧ Sz n d ∧ Sz n p ∧ Sz n q ∧ Sz n r ∧ Sz n s), .t (.rat (a * p + b * q + c * r + d * s)))
  | _ => none
def sLMirror : OL := pureS fun ws => match ws with
  | [.t (.lst [.int a, .int b, .int c, .int d])] => some (True, .t (.lst [.int a, .int (0 - b), .int (0 - c), .int (0 - d)]))
  | _ => none
def sLDot : OL := pureS fun ws => match ws with
  | [.t (.lst [.int a, .int b, .int c, .int d]), .t (.lst [.int p, .int q, .int r, .int s])] => some (Sm8 a b c d p q r s, .t (.int [a * p, b * q, c * r, d * s].sum))
  | _ => none
def sLIs : OL := pureS fun ws => match ws with
  | [.t (.tup [.rat a, .rat b, .rat c, .rat d]), .t (.int B), .t (.lst [.int p, .int q, .int r, .int s])] => some ((pSz1 a ∧ pSz1 b ∧ pSz1 c ∧ pSz1 d ∧ Sm B ∧ Sm p ∧ Sm q ∧ Sm r ∧ Sm s), .t (.bl ([a.num * B == p * (a.den : Int), b.num * B == q * (b.den : Int), c.num * B == r * (c.den : Int), d.num * B == s * (d.den : Int)].all id)))
  | _ => none
def sMirror4 : OL := pureS fun ws => match ws with
  | [.t (.tup [.rat a, .rat b, .rat c, .rat d])] => some (pSz1 b ∧ pSz1 c ∧ pSz1 d, .t (.tup [.rat a, .rat (-b), .rat (-c), .rat (-d)]))
  | _ => none
def sUnits : OL := pureS fun ws => match ws with
  | [] => some (True, .t (.bl true))
  | _ => none
/-- a contract by two keywords, told the other way round -/
def swp (S : OL) : OK2 := fun _ ys A Q => match ys with
  | [a, b] => S [b, a] A Q
  | _ => False
/-! ### answers that are known ahead of the walk -/
section
variable {G : Gc} {k n nc : Nat} {ks : List Str} {x : Str}
/-- a contract that a walk does not look into -/
@[irreducible] def Irr (S : OL) : OL := S
theorem irr_eq (S : OL) : Irr S = S := by unfold Irr; rfl
@[irreducible] def Irr2 (r : O2) : O2 := r
theorem irr2_eq (r : O2) : Irr2 r = r := by unfold Irr2; rfl
/-- called with ws it gives d, whatever stands around -/
structure Told (S : OL) (ws : List W) (d : D) : Prop where
  go : ∀ (A : AH) (Q : WK), Q (.t d) A → S ws A Q
structure Told2 (r : O2) (x y : W) (d : D) : Prop where
  go : ∀ (A : AH) (Q : WK), Q (.t d) A → r x y A Q
theorem told_use {S : OL} {ws : List W} {d : D} {A : AH} {Q : WK} (h : Told S ws d) (z : Q (.t d) A) : Irr S ws A Q := by
  rw [irr_eq]; exact h.go _ _ z
theorem told2_use {r : O2} {u v : W} {d : D} {A : AH} {Q : WK} (h : Told2 r u v d) (z : Q (.t d) A) : Irr2 r u v A Q := by
  rw [irr2_eq]; exact h.go _ _ z
theorem fnc_irr {S : OL} (F : Fnc G k x n ks (posK S)) : Fnc G k x n ks (posK (Irr S)) := by rw [irr_eq]; exact F
theorem bif_irr {S : OL} (F : Bif G k x S) : Bif G k x (Irr S) := by rw [irr_eq]; exact F
theorem so2_irr {f : Value → Value → Sem Value} {r : O2} (F : SO2 G k f r) : SO2 G k f (Irr2 r) := by rw [irr2_eq]; exact F
/-- a def called by two keywords, told the other way round -/
theorem cal_kr {f : Addr} {fd : FuncData} {ps ks : List Str} {S : OL} (F : Fn G k f fd ps S) (B : Bd G fd ps 0 ks [] [.k 1, .k 0]) (hl : ps.length = 2) (hk : ks.length = 2) : Cal G k (.ref f) 0 ks (swp S) := by
  refine (cal_fn F B fun xs ys h1 h2 => ?_).weakL (fun xs ys A Q Q' h z => ?_) fun xs ys A Q h1 h2 z => ?_
  · obtain rfl : xs = [] := List.length_eq_zero_iff.mp h1
    obtain ⟨a, b, rfl⟩ := len2 (h2.trans hk)
    exact hl.symm
  · unfold swp at z ⊢
    split at z
    · exact F.mono _ _ _ _ h z
    · exact z.elim
  · obtain rfl : xs = [] := List.length_eq_zero_iff.mp h1
    obtain ⟨a, b, rfl⟩ := len2 (h2.trans hk)
    exact z
theorem swp_irr {S : OL} (F : Fnc G k x 0 ks (swp S)) : Fnc G k x 0 ks (swp (Irr S)) := by rw [irr_eq]; exact F
theorem key_irr {S : OL} (F : Fnc G k x 0 ks (fun _ ys => S ys)) : Fnc G k x 0 ks (fun _ ys => Irr S ys) := by rw [irr_eq]; exact F
/-! ### what is handed back -/
theorem rt_cut {A B : AH} {Q : WK} {d : D} (h : Q (.t d) (B.take A.length)) : (retD A.length Q).rt (.t d) B := by
  rw [retD_eq]; exact h
theorem rt_new {A B : AH} {Q : WK} {l : List D} {j : Nat} (hj : A.length ≤ j) (hb : B[j]? = some (.live (.lst l))) (h : Q (.t (.lst l)) (B.take A.length)) : (retD A.length Q).rt (.loc j) B := by
  rw [retD_eq]
  show retW A.length Q (.loc j) B
  unfold retW
  show if j < A.length then Q (.loc j) (B.take A.length) else _
  rw [if_neg (by omega), hb]
  exact h
theorem tup_loc {A : AH} {Q : WK} {l : List D} {j : Nat} (hb : A[j]? = some (.live (.lst l))) (h : Q (.t (.tup l)) A) : tupB [.loc j] A Q := by
  unfold tupB
  show (match A[j]? with
    | some (.live (.lst l)) => Q (.t (.tup l)) A
    | _ => False)
  rw [hb]
  exact h
theorem grow {P : D → Int → Prop} {ns : List Int} {acc : List D} {x : D} {n : Int} (a1 : ∀ (t : Nat) (x : D), acc[t]? = some x → ∃ m : Int, ns[t]? = some m ∧ P x m) (hn : ns[acc.length]? = some n) (h : P x n) : ∀ (t : Nat) (x' : D), (acc ++ [x])[t]? = some x' → ∃ m : Int, ns[t]? = some m ∧ P x' m := by
  intro t x' e
  by_cases q : t < acc.length
  · rw [List.getElem?_append_left q] at e
    exact a1 t x' e
  · rw [List.getElem?_append_right (by omega)] at e
    obtain ⟨z, hz⟩ : ∃ z, t - acc.length = z := ⟨_, rfl⟩
    rw [hz] at e
    match z, e with
    | 0, e =>
      obtain rfl : t = acc.length := by omega
      obtain rfl : x = x' := by simpa using e
      exact ⟨n, hn, h⟩
    | z + 1, e => simp at e
/-! ### == of leaves that are numbers -/
def oeN : D → D → Option Bool
  | .rat q, .rat r => some (decide (q = r))
  | .int i, .int j => some (i == j)
  | _, _ => none
theorem leaf_num (so : SO2 G k (compareOp .Eq) (eqNT nc)) : LeafEq G k oeN := by
  refine ⟨⟨_, so, fun d d' r A Q h z => ?_⟩, fun m A H d d' v r h r1 r2 => ?_⟩
  · cases d <;> cases d' <;> simp only [oeN] at h <;> first | (cases h; done) | skip
    · cases h; exact z
    · cases h; exact ⟨rfl, z⟩
  · cases d <;> cases d' <;> simp only [oeN] at h <;> first | (cases h; done) | skip
    · cases h
      simp only [Rep] at r1 r2
      subst r1
      cases r2
      simp
    · cases h
      simp only [Rep] at r1 r2
      obtain ⟨a, dx, rfl, h1, _⟩ := r1
      obtain ⟨a', dx', e, h2, _⟩ := r2
      cases e
      rw [h1] at h2
      have e := (HO.ins.inj (Option.some.inj h2)).2.2
      unfold ratF at e
      simp only [List.cons.injEq, Prod.mk.injEq, true_and, and_true] at e
      obtain ⟨e1, e2⟩ := e
      refine decide_eq_true (Rat.ext (V.int.inj e1) ?_)
      have := V.int.inj e2
      omega
theorem ne_tup {l r : List D} {base : O2} {n : Nat} {b : Bool} (h : eqD oeN (n + 1) (.tup l) (.tup r) = some b) : Told2 (neDT oeN n base) (.t (.tup l)) (.t (.tup r)) (.bl (!b)) := by
  refine ⟨fun A Q z => ?_⟩
  show (match eqD oeN (n + 1) (.tup l) (.tup r) with
    | some b => Q (.t (.bl (!b))) A
    | none => False)
  rw [h]
  exact z
theorem ne_lst {l r : List D} {base : O2} {n : Nat} {b : Bool} (h : eqD oeN (n + 1) (.lst l) (.lst r) = some b) : Told2 (neDT oeN n base) (.t (.lst l)) (.t (.lst r)) (.bl (!b)) := by
  refine ⟨fun A Q z => ?_⟩
  show (match eqD oeN (n + 1) (.lst l) (.lst r) with
    | some b => Q (.t (.bl (!b))) A
    | none => False)
  rw [h]
  exact z
theorem eq_lst {l r : List D} {base : O2} {n : Nat} {b : Bool} (h : eqD oeN (n + 1) (.lst l) (.lst r) = some b) : Told2 (eqDT oeN n base) (.t (.lst l)) (.t (.lst r)) (.bl b) := by
  refine ⟨fun A Q z => ?_⟩
  show (match eqD oeN (n + 1) (.lst l) (.lst r) with
    | some b => Q (.t (.bl b)) A
    | none => False)
  rw [h]
  exact z
/-- four Ratios that are the same -/
theorem ne_four {a b c d p q r s : Rat} {base : O2} {n : Nat} (h1 : a = p) (h2 : b = q) (h3 : c = r) (h4 : d = s) : Told2 (neDT oeN n base) (.t (.tup [.rat a, .rat b, .rat c, .rat d])) (.t (.tup [.rat p, .rat q, .rat r, .rat s])) (.bl false) := by
  subst h1 h2 h3 h4
  refine ne_tup (b := true) ?_
  cases n <;> simp [eqD, eqPairs, oeN]
theorem ne_rat {q r : Rat} {n : Nat} (h : q = r) : Told2 (neDT oeN n (neNT nc)) (.t (.rat q)) (.t (.rat r)) (.bl false) := by
  subst h
  refine ⟨fun A Q z => ⟨rfl, ?_⟩⟩
  have e : eqR q (.rat q) = true := decide_eq_true rfl
  rw [e]
  exact z
theorem ne_str {t t' : Str} {n : Nat} (h : t = t') : Told2 (neDT oeN n (neNT nc)) (.t (.str t)) (.t (.str t')) (.bl false) := by
  subst h
  refine ⟨fun A Q z => ?_⟩
  show Q (.t (.bl (!(t == t)))) A
  rw [beq_self_eq_true]
  exact z
end
end Hw
namespace Hw
open PySem L2
/-! ### fours over one bottom -/
theorem rinv_mul (a b : Rat) : (a * b)⁻¹ = a⁻¹ * b⁻¹ := by
  by_cases ha : a = 0
  · subst ha; simp [Rat.zero_mul, Rat.inv_zero]
  · by_cases hb : b = 0
    · subst hb; simp [Rat.mul_zero, Rat.inv_zero]
    · grind
theorem mkR_i (a b : Int) : mkR a b = (a : Rat) * (b : Rat)⁻¹ := by rw [mkR_eq, Rat.div_def]
theorem inv_mul_i (a b : Int) : ((a * b : Int) : Rat)⁻¹ = (a : Rat)⁻¹ * (b : Rat)⁻¹ := by rw [Rat.intCast_mul, rinv_mul]
theorem mk_mul (a b A B : Int) : mkR a A * mkR b B = mkR (a * b) (A * B) := by
  simp only [mkR_i, inv_mul_i, Rat.intCast_mul]
  grind
theorem mk_add1 (a b A : Int) : mkR a A + mkR b A = mkR (a + b) A := by
  simp only [mkR_i, Rat.intCast_add]
  grind
theorem mk_sub1 (a b A : Int) : mkR a A - mkR b A = mkR (a - b) A := by
  simp only [mkR_i, Rat.intCast_sub]
  grind
theorem mk_neg1 (a A : Int) : -mkR a A = mkR (0 - a) A := by
  simp only [mkR_i, Rat.intCast_sub, Rat.intCast_zero]
  grind
theorem mk_cut {a b x : Int} (hx : x ≠ 0) : mkR (a * x) (b * x) = mkR a b := by
  have h := int_ne hx
  simp only [mkR_i, inv_mul_i, Rat.intCast_mul]
  grind
theorem mk_same {a b c d : Int} (hb : b ≠ 0) (hd : d ≠ 0) (h : a * d = c * b) : mkR a b = mkR c d := (mkR_same hb hd).mpr h
theorem mk_is {p B : Int} (hB : B ≠ 0) : (mkR p B).num * B = p * ((mkR p B).den : Int) := (mkR_same (den_ne _) hB).mp (self_mk _)
theorem nrm_prod (a b c d p q r s : Rat) : nrm (a * p - b * q - c * r - d * s) (a * q + b * p + c * s - d * r) (a * r - b * s + c * p + d * q) (a * s + b * r - c * q + d * p) = nrm a b c d * nrm p q r s := by
  unfold nrm
  grind
theorem nrm_mk (a b c d A : Int) : nrm (mkR a A) (mkR b A) (mkR c A) (mkR d A) = mkR (a * a + b * b + c * c + d * d) (A * A) := by
  unfold nrm
  simp only [mkR_i, inv_mul_i, Rat.intCast_mul, Rat.intCast_add]
  grind
theorem und_mk {x n A : Int} (hA : A ≠ 0) : mkR x A * (((1 : Int) : Rat) / mkR n (A * A)) = mkR (x * A) n := by
  have h := int_ne hA
  rw [Rat.div_def]
  simp only [mkR_i, inv_mul_i, Rat.intCast_mul, rinv_mul, Rat.inv_inv, Rat.intCast_one, Rat.one_mul]
  grind
/-- four ints of at most n bits -/
structure S4 (n : Nat) (a b c d : Int) : Prop where
  a : Si n a
  b : Si n b
  c : Si n c
  d : Si n d
theorem S4.up {n m : Nat} {a b c d : Int} (h : S4 n a b c d) (k : n ≤ m) : S4 m a b c d := ⟨h.a.up k, h.b.up k, h.c.up k, h.d.up k⟩
theorem S4.lim {k : Int} {n : Nat} {a b c d : Int} (ha : Lim k a) (hb : Lim k b) (hc : Lim k c) (hd : Lim k d) (h : k.natAbs < 2 ^ n) : S4 n a b c d := by
  unfold Lim at ha hb hc hd
  have one : ∀ i : Int, -k ≤ i ∧ i ≤ k → Si n i := fun i hi => Nat.lt_of_le_of_lt (by omega) h
  exact ⟨one _ ha, one _ hb, one _ hc, one _ hd⟩
theorem si_row {n : Nat} {x y z w : Int} (hx : Si n x) (hy : Si n y) (hz : Si n z) (hw : Si n w) :
    (Si (n + 3) (x - y - z - w)) ∧ (Si (n + 3) (x + y + z - w)) ∧ (Si (n + 3) (x - y + z + w)) ∧ (Si (n + 3) (x + y - z + w)) ∧ (Si (n + 3) (x + y + z + w)) :=
  ⟨(((hx.sub hy).sub (hz.up (by omega))).sub (hw.up (by omega))), (((hx.add hy).add (hz.up (by omega))).sub (hw.up (by omega))), (((hx.sub hy).add (hz.up (by omega))).add (hw.up (by omega))), (((hx.add hy).sub (hz.up (by omega))).add (hw.up (by omega))), (((hx.add hy).add (hz.up (by omega))).add (hw.up (by omega)))⟩
theorem S4.prod {n m : Nat} {a b c d p q r s : Int} (h : S4 n a b c d) (k : S4 m p q r s) : S4 (n + m + 3) (a * p - b * q - c * r - d * s) (a * q + b * p + c * s - d * r) (a * r - b * s + c * p + d * q) (a * s + b * r - c * q + d * p) :=
  ⟨(si_row (h.a.mul k.a) (h.b.mul k.b) (h.c.mul k.c) (h.d.mul k.d)).1, (si_row (h.a.mul k.b) (h.b.mul k.a) (h.c.mul k.d) (h.d.mul k.c)).2.1, (si_row (h.a.mul k.c) (h.b.mul k.d) (h.c.mul k.a) (h.d.mul k.b)).2.2.1, (si_row (h.a.mul k.d) (h.b.mul k.c) (h.c.mul k.b) (h.d.mul k.a)).2.2.2.1⟩
theorem S4.dot {n m : Nat} {a b c d p q r s : Int} (h : S4 n a b c d) (k : S4 m p q r s) : Si (n + m + 3) (a * p + b * q + c * r + d * s) :=
  (si_row (h.a.mul k.a) (h.b.mul k.b) (h.c.mul k.c) (h.d.mul k.d)).2.2.2.2
theorem S4.by_ {n m : Nat} {a b c d x : Int} (h : S4 n a b c d) (k : Si m x) : S4 (n + m) (a * x) (b * x) (c * x) (d * x) := ⟨h.a.mul k, h.b.mul k, h.c.mul k, h.d.mul k⟩
theorem S4.mirror {n : Nat} {a b c d : Int} (h : S4 n a b c d) : S4 n a (0 - b) (0 - c) (0 - d) := by
  have neg : ∀ {i : Int}, Si n i → Si n (0 - i) := fun h => by rw [Int.zero_sub]; exact h.neg
  exact ⟨h.a, neg h.b, neg h.c, neg h.d⟩
theorem S4.sm8 {n m : Nat} {a b c d p q r s : Int} (h : S4 n a b c d) (k : S4 m p q r s) (hn : n ≤ 8000) (hm : m ≤ 8000) : Sm8 a b c d p q r s := ⟨h.a.sm hn, h.b.sm hn, h.c.sm hn, h.d.sm hn, k.a.sm hm, k.b.sm hm, k.c.sm hm, k.d.sm hm⟩
/-- four Ratios over one bottom, as a tuple -/
def r4 (a b c d A : Int) : D := .tup [.rat (mkR a A), .rat (mkR b A), .rat (mkR c A), .rat (mkR d A)]
def F4 (x : D) (a b c d A : Int) : Prop := Four x (mkR a A) (mkR b A) (mkR c A) (mkR d A)
theorem f4_r4 (a b c d A : Int) : F4 (r4 a b c d A) a b c d A := four_rat ..
theorem num_int {n : Nat} {i : Int} (h : Si n i) (k : n ≤ 8000) : NumOk (.int i) (mkR i 1) := ⟨by rw [mkR_one]; rfl, fun j e => by cases e; exact h.sm k⟩
theorem f4_lst {n : Nat} {a b c d : Int} (h : S4 n a b c d) (k : n ≤ 8000) : F4 (.lst [.int a, .int b, .int c, .int d]) a b c d 1 :=
  ⟨_, _, _, _, .inl rfl, num_int h.a k, num_int h.b k, num_int h.c k, num_int h.d k⟩
theorem f4_tup {n : Nat} {a b c d : Int} (h : S4 n a b c d) (k : n ≤ 8000) : F4 (.tup [.int a, .int b, .int c, .int d]) a b c d 1 :=
  ⟨_, _, _, _, .inr rfl, num_int h.a k, num_int h.b k, num_int h.c k, num_int h.d k⟩
section
variable {x y : D} {a b c d p q r s A B : Int} {n : Nat}
/-- the product of two fours over bottoms -/
theorem times_mk (h1 : F4 x a b c d A) (h2 : F4 y p q r s B) (hA : A ≠ 0) (hB : B ≠ 0) (z1 : S4 n a b c d) (z2 : S4 n p q r s) (zA : Si n A) (zB : Si n B) (hn : 8 * n + 3 ≤ 3990) :
    Told sTimes4 [.t x, .t y] (r4 (a * p - b * q - c * r - d * s) (a * q + b * p + c * s - d * r) (a * r - b * s + c * p + d * q) (a * s + b * r - c * q + d * p) (A * B)) := by
  refine ⟨fun C Q z => times4_go h1 h2 ⟨n, hn, mk_sz hA z1.a zA, mk_sz hA z1.b zA, mk_sz hA z1.c zA, mk_sz hA z1.d zA, mk_sz hB z2.a zB, mk_sz hB z2.b zB, mk_sz hB z2.c zB, mk_sz hB z2.d zB⟩ ?_⟩
  have e : prodD (mkR a A) (mkR b A) (mkR c A) (mkR d A) (mkR p B) (mkR q B) (mkR r B) (mkR s B) = r4 (a * p - b * q - c * r - d * s) (a * q + b * p + c * s - d * r) (a * r - b * s + c * p + d * q) (a * s + b * r - c * q + d * p) (A * B) := by
    unfold prodD r4
    simp only [mk_mul, mk_sub1, mk_add1]
  rw [e]
  exact z
theorem norm_mk (h1 : F4 x a b c d A) (hA : A ≠ 0) (z1 : S4 n a b c d) (zA : Si n A) (hn : 8 * n + 3 ≤ 3990) :
    Told sNorm4 [.t x] (.rat (mkR (a * a + b * b + c * c + d * d) (A * A))) := by
  refine ⟨fun C Q z => norm4_go h1 ⟨n, hn, mk_sz hA z1.a zA, mk_sz hA z1.b zA, mk_sz hA z1.c zA, mk_sz hA z1.d zA, mk_sz hA z1.a zA, mk_sz hA z1.b zA, mk_sz hA z1.c zA, mk_sz hA z1.d zA⟩ ?_⟩
  rw [nrm_mk]
  exact z
theorem und_told (h1 : F4 x a b c d A) (hA : A ≠ 0) (h0 : a * a + b * b + c * c + d * d ≠ 0) (z1 : S4 n a b c d) (zA : Si n A) (hn : 10 * n + 8 ≤ 3990) :
    Told sUndone4 [.t x] (r4 (a * A) ((0 - b) * A) ((0 - c) * A) ((0 - d) * A) (a * a + b * b + c * c + d * d)) := by
  have hn0 : nrm (mkR a A) (mkR b A) (mkR c A) (mkR d A) ≠ 0 := by
    rw [nrm_mk]
    exact mkR_ne h0 (Int.mul_ne_zero hA hA)
  refine ⟨fun C Q z => undone4_go h1 ⟨n, hn, mk_sz hA z1.a zA, mk_sz hA z1.b zA, mk_sz hA z1.c zA, mk_sz hA z1.d zA⟩ hn0 ?_⟩
  have e : undD (mkR a A) (mkR b A) (mkR c A) (mkR d A) = r4 (a * A) ((0 - b) * A) ((0 - c) * A) ((0 - d) * A) (a * a + b * b + c * c + d * d) := by
    unfold undD r4
    rw [nrm_mk, mk_neg1, mk_neg1, mk_neg1, und_mk hA, und_mk hA, und_mk hA, und_mk hA]
  rw [e]
  exact z
/-- the law's own eye on a told four -/
theorem lis_told (hB : B ≠ 0) (z1 : S4 n p q r s) (zB : Si n B) (hn : n ≤ 3990) : Told sLIs [.t (r4 p q r s B), .t (.int B), .t (.lst [.int p, .int q, .int r, .int s])] (.bl true) := by
  refine ⟨fun C Q z => ?_⟩
  have hs : ∀ {i : Int}, Si n i → Sm i := fun h => h.sm (by omega)
  have hz : ∀ {i : Int}, Si n i → pSz1 (mkR i B) := fun h => (mk_sz hB h zB).up hn
  show (pSz1 _ ∧ _) ∧ Q _ C
  refine ⟨⟨hz z1.a, hz z1.b, hz z1.c, hz z1.d, hs zB, hs z1.a, hs z1.b, hs z1.c, hs z1.d⟩, ?_⟩
  have e : [(mkR p B).num * B == p * ((mkR p B).den : Int), (mkR q B).num * B == q * ((mkR q B).den : Int), (mkR r B).num * B == r * ((mkR r B).den : Int), (mkR s B).num * B == s * ((mkR s B).den : Int)].all id = true := by
    simp only [mk_is hB, beq_self_eq_true, List.all_cons, List.all_nil, id_eq, Bool.and_self]
  rw [e]
  exact z
theorem lfour_told {x y : D} (h1 : Ints4 x a b c d) (h2 : Ints4 y p q r s) {m : Nat} (z1 : S4 n a b c d) (z2 : S4 m p q r s) (hn : n ≤ 8000) (hm : m ≤ 8000) : Told sLFour [.t x, .t y] (lfourD a b c d p q r s) :=
  ⟨fun C Q z => lfour_go h1 h2 (z1.sm8 z2 hn hm) z⟩
theorem ldot_told (z1 : S4 n a b c d) (z2 : S4 n p q r s) (hn : n ≤ 8000) : Told sLDot [.t (.lst [.int a, .int b, .int c, .int d]), .t (.lst [.int p, .int q, .int r, .int s])] (.int (a * p + b * q + c * r + d * s)) := by
  refine ⟨fun C Q z => ?_⟩
  show Sm8 .. ∧ Q _ C
  refine ⟨z1.sm8 z2 hn hn, ?_⟩
  have e : [a * p, b * q, c * r, d * s].sum = a * p + b * q + c * r + d * s := by simp [Int.add_assoc]
  rw [e]
  exact z
theorem lmirror_told : Told sLMirror [.t (.lst [.int a, .int b, .int c, .int d])] (.lst [.int a, .int (0 - b), .int (0 - c), .int (0 - d)]) := ⟨fun C Q z => And.intro trivial z⟩
theorem r4_same {a' b' c' d' A' : Int} (hA : A ≠ 0) (hA' : A' ≠ 0) (h1 : a * A' = a' * A) (h2 : b * A' = b' * A) (h3 : c * A' = c' * A) (h4 : d * A' = d' * A) : r4 a b c d A = r4 a' b' c' d' A' := by
  unfold r4
  rw [mk_same hA hA' h1, mk_same hA hA' h2, mk_same hA hA' h3, mk_same hA hA' h4]
theorem ne_r4 {base : O2} {m : Nat} : Told2 (neDT oeN m base) (.t (r4 a b c d A)) (.t (r4 a b c d A)) (.bl false) := ne_four rfl rfl rfl rfl
end
/-! ### repr of numbers as they are passed -/
theorem rdT_num {n m : Nat} {d : D} {a A : Int} (h : NumOk d (mkR a A)) (hA : A ≠ 0) (za : Si m a) (zA : Si m A) (hm : m ≤ 1900) : ∃ t, rdT (lfT ownRat) n d = some t := by
  have hz : Sz 1900 (mkR a A) := (mk_sz hA za zA).up hm
  rcases h.cases with ⟨i, rfl, e, _⟩ | rfl
  · rw [e] at hz
    exact ⟨_, rdT_int hz.t⟩
  · exact ⟨_, rdT_rat hz⟩
theorem rdT_four {n m : Nat} {x : D} {a b c d A : Int} (h : F4 x a b c d A) (hA : A ≠ 0) (z1 : S4 m a b c d) (zA : Si m A) (hm : m ≤ 1900) : (∃ t, rdT (lfT ownRat) (n + 1) x = some t) ∧ szD x ≤ 5 := by
  obtain ⟨u, v, w, z, hx, h1, h2, h3, h4⟩ := h.ex
  have all : ∀ e ∈ [u, v, w, z], ∃ t, rdT (lfT ownRat) n e = some t := by
    intro e he
    simp only [List.mem_cons, List.not_mem_nil, or_false] at he
    rcases he with rfl | rfl | rfl | rfl
    · exact rdT_num h1 hA z1.a zA hm
    · exact rdT_num h2 hA z1.b zA hm
    · exact rdT_num h3 hA z1.c zA hm
    · exact rdT_num h4 hA z1.d zA hm
  have one : ∀ {e : D} {q : Rat}, NumOk e q → szD e = 1 := fun h => by
    rcases h.cases with ⟨i, rfl, _, _⟩ | rfl <;> simp [szD]
  have sz : szDs [u, v, w, z] = 4 := by simp [szDs, one h1, one h2, one h3, one h4]
  rcases hx with rfl | rfl
  · exact ⟨rdT_lst all, by simp [szD, sz]⟩
  · exact ⟨rdT_tup all, by simp [szD, sz]⟩
/-- the text of a list of fours -/
theorem repr_told {n : Nat} {l : List D} {base : OL} (h : ∀ d ∈ l, ∃ t, rdT (lfT ownRat) n d = some t) (hz : szDs l < 60) : ∃ t, Told (reprTW (lfT ownRat) n base) [.t (.lst l)] (.str t) := by
  obtain ⟨t, ht⟩ := rdT_lst h
  refine ⟨t, ⟨fun C Q z => ?_⟩⟩
  unfold reprTW
  refine ⟨t, ht, rdT_fits lfR_len ht ?_, z⟩
  rw [sizeLine_eq]
  have e : szD (.lst l) = szDs l + 1 := by simp [szD]
  rw [e]
  have : (szDs l + 1) * (3851 + 5) ≤ 60 * 3856 := Nat.mul_le_mul (by omega) (by omega)
  omega
section
variable {x y near w back : D} {a b c d p q r s A B a' b' c' d' A' : Int} {n nc : Nat} {S : OL} {ws ws' : List W} {base : O2}
theorem told_conv (t : Told S ws (r4 a b c d A)) (hA : A ≠ 0) (hA' : A' ≠ 0) (h1 : a * A' = a' * A) (h2 : b * A' = b' * A) (h3 : c * A' = c' * A) (h4 : d * A' = d' * A) : Told S ws (r4 a' b' c' d' A') := by
  rw [r4_same hA hA' h1 h2 h3 h4] at t; exact t
theorem ne_told (hA : A ≠ 0) (hA' : A' ≠ 0) (h1 : a * A' = a' * A) (h2 : b * A' = b' * A) (h3 : c * A' = c' * A) (h4 : d * A' = d' * A) : Told2 (neDT oeN n base) (.t (r4 a b c d A)) (.t (r4 a' b' c' d' A')) (.bl false) := by
  rw [r4_same hA hA' h1 h2 h3 h4]; exact ne_r4
theorem ne_both (t5 : Told S ws (r4 a b c d A)) (t7 : Told S ws' (r4 a' b' c' d' A')) (hA : A ≠ 0) (hA' : A' ≠ 0) (h1 : a * A' = a' * A) (h2 : b * A' = b' * A) (h3 : c * A' = c' * A) (h4 : d * A' = d' * A) : Told2 (neDT oeN n base) (.t (r4 a b c d A)) (.t (r4 a' b' c' d' A')) (.bl false) := ne_told hA hA' h1 h2 h3 h4
theorem nrm_int (a b c d p q r s : Int) : (a * p - b * q - c * r - d * s) * (a * p - b * q - c * r - d * s) + (a * q + b * p + c * s - d * r) * (a * q + b * p + c * s - d * r) + (a * r - b * s + c * p + d * q) * (a * r - b * s + c * p + d * q) + (a * s + b * r - c * q + d * p) * (a * s + b * r - c * q + d * p) = (a * a + b * b + c * c + d * d) * (p * p + q * q + r * r + s * s) := by grind
theorem sq_pos {a b c d : Int} (h : [a != 0, b != 0, c != 0, d != 0].any id = true) : a * a + b * b + c * c + d * d ≠ 0 := by
  intro e
  have s : ∀ i : Int, 0 ≤ i * i := fun i => by
    rcases Int.le_total 0 i with h | h
    · exact Int.mul_nonneg h h
    · exact Int.mul_nonneg_of_nonpos_of_nonpos h h
  have z : ∀ i : Int, i * i = 0 → i = 0 := fun i h => by
    rcases Int.mul_eq_zero.mp h with h | h <;> exact h
  have a0 := z a (by have := s a; have := s b; have := s c; have := s d; omega)
  have b0 := z b (by have := s a; have := s b; have := s c; have := s d; omega)
  have c0 := z c (by have := s a; have := s b; have := s c; have := s d; omega)
  have d0 := z d (by have := s a; have := s b; have := s c; have := s d; omega)
  subst a0 b0 c0 d0
  exact absurd h (by decide)
/-- what a point, turned, comes to: no first part, the same norm -/
theorem turn_int (a b c d x y z A N : Int) (hN : N = a * a + b * b + c * c + d * d) : ∃ V1 V2 V3 V4 : Int,
    V1 = ((a * 0 - b * x - c * y - d * z) * (a * A) - (a * x + b * 0 + c * z - d * y) * ((0 - b) * A) - (a * y - b * z + c * 0 + d * x) * ((0 - c) * A) - (a * z + b * y - c * x + d * 0) * ((0 - d) * A)) ∧
    V2 = ((a * 0 - b * x - c * y - d * z) * ((0 - b) * A) + (a * x + b * 0 + c * z - d * y) * (a * A) + (a * y - b * z + c * 0 + d * x) * ((0 - d) * A) - (a * z + b * y - c * x + d * 0) * ((0 - c) * A)) ∧
    V3 = ((a * 0 - b * x - c * y - d * z) * ((0 - c) * A) - (a * x + b * 0 + c * z - d * y) * ((0 - d) * A) + (a * y - b * z + c * 0 + d * x) * (a * A) + (a * z + b * y - c * x + d * 0) * ((0 - b) * A)) ∧
    V4 = ((a * 0 - b * x - c * y - d * z) * ((0 - d) * A) + (a * x + b * 0 + c * z - d * y) * ((0 - c) * A) - (a * y - b * z + c * 0 + d * x) * ((0 - b) * A) + (a * z + b * y - c * x + d * 0) * (a * A)) ∧
    V1 = 0 ∧ V1 * V1 + V2 * V2 + V3 * V3 + V4 * V4 = (0 * 0 + x * x + y * y + z * z) * (A * N * (A * N)) := by
  refine ⟨_, _, _, _, rfl, rfl, rfl, rfl, by grind, ?_⟩
  rw [nrm_int, nrm_int, hN]
  grind
end
end Hw
namespace Hw
open PySem L2
/-! ### stores to names that inner scopes see -/
def ceOk (sc : Scope) (x : Str) : Bool := decide (sc.names.lookup x = some .cell)
section
variable {C : Ctx} {a b c e : Expr} {f : Den} {pos p : Pos} {x y z : Str}
theorem sg_ce (i : Nat) (hi : C.N[i]? = some x) (ht : C.top = true) (hx : ceOk C.sc x = true) : SG C (.Name x pos) [i] (dName i) :=
  sg_name i hi (.inr (of_decide_eq_true hx)) (.inl ht)
theorem ss_ce (i : Nat) (hi : C.N[i]? = some x) (ht : C.top = true) (hx : ceOk C.sc x = true) (he : SE C e f) (hs : ∀ env : PySem.Env, swapsWith e (some (.Name x p)) pos.line env = pure false) : SS C (.Assign [.Name x p] e pos) (vSet i f) :=
  ss_set i hi (.inr (of_decide_eq_true hx)) (.inl ht) he hs
theorem swn_ce2 {env : PySem.Env} {sc : Scope} {px py pt pt2 : Pos} {kt k2 : Nat} (h : env.scope = sc) (hc : (ceOk sc x || ceOk sc y) = true) : swappedStores [.Tuple [.Name x px, .Name y py] kt pt] (.Tuple [a, b] k2 pt2) env = pure none := by
  have k1 : ∀ v, env.kindOf v = sc.names.lookup v := fun v => by show env.scope.names.lookup v = _; rw [h]
  have cell : ∀ v, ceOk sc v = true → (sc.names.lookup v == some NameKind.local) = false := fun v hv => by
    unfold ceOk at hv
    rw [of_decide_eq_true hv]
    rfl
  simp only [Bool.or_eq_true] at hc
  simp only [swappedStores, k1, List.length_cons, List.length_nil, List.filterMap_cons, List.filterMap_nil]
  rcases hc with hc | hc
  · have e1 := cell x hc
    simp only [e1, Bool.false_and, Bool.false_eq_true, if_false]
    split
    · rfl
    · split
      · rfl
      · split
        · split
          · rfl
          · rename_i hh; exact absurd (by simp) hh
        · split
          · rfl
          · rename_i hh; exact absurd (by simp) hh
  · have e1 := cell y hc
    simp only [e1, Bool.false_and, Bool.false_eq_true, if_false]
    split
    · rfl
    · split
      · rfl
      · split
        · split
          · rfl
          · rename_i hh; exact absurd (by simp) hh
        · split
          · rfl
          · rename_i hh; exact absurd (by simp) hh
theorem ss_ce2 {px py pt pt2 : Pos} {kt k2 : Nat} {sl : List Nat} {g : DenG} (hc : (ceOk C.sc x || ceOk C.sc y) = true) (he : SE C (.Tuple [a, b] k2 pt2) f) (hg : SG C (.Tuple [.Name x px, .Name y py] kt pt) sl g) (hs : ∀ env : PySem.Env, swapsWithSole [.Tuple [.Name x px, .Name y py] kt pt] (.Tuple [a, b] k2 pt2) pos.line env = pure false)
    (h1 : ∀ env : PySem.Env, (assignEach [.Tuple [.Name x px, .Name y py] kt pt] env).map (·.2) = [assign (.Tuple [.Name x px, .Name y py] kt pt) env]) : SS C (.Assign [.Tuple [.Name x px, .Name y py] kt pt] (.Tuple [a, b] k2 pt2) pos) (vAsg f g) :=
  ss_asgS he hg hs (fun env h => swn_ce2 h hc) h1
theorem swn_ce3 {env : PySem.Env} {sc : Scope} {px py pz pt pt2 : Pos} {kt k2 : Nat} (h : env.scope = sc) (hc : (ceOk sc x || ceOk sc y || ceOk sc z) = true) : swappedStores [.Tuple [.Name x px, .Name y py, .Name z pz] kt pt] (.Tuple [a, b, c] k2 pt2) env = pure none := by
  have k1 : ∀ v, env.kindOf v = sc.names.lookup v := fun v => by show env.scope.names.lookup v = _; rw [h]
  have cell : ∀ v, ceOk sc v = true → (sc.names.lookup v == some NameKind.local) = false := fun v hv => by
    unfold ceOk at hv
    rw [of_decide_eq_true hv]
    rfl
  simp only [Bool.or_eq_true] at hc
  simp only [swappedStores, k1, List.length_cons, List.length_nil, List.filterMap_cons, List.filterMap_nil]
  rcases hc with (hc | hc) | hc
  all_goals
    have e1 := cell _ hc
    simp only [e1, Bool.false_and, Bool.false_eq_true, if_false]
    split
    · rfl
    · split
      · rfl
      · split <;> split <;> (rw [if_pos (by simp)])
theorem ss_ce3 {px py pz pt pt2 : Pos} {kt k2 : Nat} {sl : List Nat} {g : DenG} (hc : (ceOk C.sc x || ceOk C.sc y || ceOk C.sc z) = true) (he : SE C (.Tuple [a, b, c] k2 pt2) f) (hg : SG C (.Tuple [.Name x px, .Name y py, .Name z pz] kt pt) sl g) (hs : ∀ env : PySem.Env, swapsWithSole [.Tuple [.Name x px, .Name y py, .Name z pz] kt pt] (.Tuple [a, b, c] k2 pt2) pos.line env = pure false)
    (h1 : ∀ env : PySem.Env, (assignEach [.Tuple [.Name x px, .Name y py, .Name z pz] kt pt] env).map (·.2) = [assign (.Tuple [.Name x px, .Name y py, .Name z pz] kt pt) env]) : SS C (.Assign [.Tuple [.Name x px, .Name y py, .Name z pz] kt pt] (.Tuple [a, b, c] k2 pt2) pos) (vAsg f g) :=
  ss_asgS he hg hs (fun env h => swn_ce3 h hc) h1
end
end Hw
namespace Hw
open PySem L2
section
variable {G : Gc} {k n : Nat}
theorem cal_pD {f : Addr} {fd : FuncData} {ps : List Str} {S : OL} {dws : List W} {l : List Src} (F : Fn G k f fd ps S) (B : Bd G fd ps n [] dws l) (hl : ps.length = n) (ha : ∀ xs : List W, xs.length = n → arr xs [] dws l = xs) : Cal G k (.ref f) n [] (posK S) := by
  refine (cal_fn F B fun xs ys h1 h2 => ?_).weakL (fun xs ys A Q Q' h z => F.mono _ _ _ _ h z) fun xs ys A Q h1 h2 z => ?_
  · obtain rfl : ys = [] := List.length_eq_zero_iff.mp h2
    rw [ha xs h1, h1, hl]
  · obtain rfl : ys = [] := List.length_eq_zero_iff.mp h2
    rw [ha xs h1]
    exact z
end
end Hw
namespace Hw
open PySem L2 PyProof.Rows
/-! ### list * int, of any list whose items are known -/
section
variable {G : Gc} {k j n nc : Nat} {C : Ctx} {o a e : Expr} {f g : Den} {apos pos : Pos}
theorem rmul_lst (i : Int) (t : Tok) (l : Addr) (items : Array Value) (n : Nat) (sl : Array (Option Value)) :
    Meets (Builtin.«int.__rmul__» ⟨[.int i t, .ref l], []⟩) (fun _ R s => s.heap.get? l = some { cls := .type "list", dict := none, data := .seq items n, slots := sl } ∧ R (.ok (.ret Value.notImplemented)) s) :=
  .of_wp fun _ _ _ R ⟨hp, g, d, tk, os⟩ ⟨hL, h⟩ => by
    wp_walk using wpAny_loadPart' hL
    exact ⟨_, rfl, h⟩
theorem mul_lst (l : Addr) (items : Array Value) (n : Nat) (sl : Array (Option Value)) (x : Int) (u : Tok) (hc0 : ¬(!Builtin.List.listFitsIndex x) = true) (hc1 : ¬items.size * x.toNat > (2 ^ 63 - 1) / 8) (hc2 : ¬Builtin.List.listTooLong (items.size * x.toNat) = true)
    (hsz : (List.foldl (fun x1 x2 => x1 ++ x2) #[] (List.replicate (if items.isEmpty = true then 0 else x.toNat) items)).size ≤ sizeLine) :
    Meets (Builtin.«list.__mul__» ⟨[.ref l, .int x u], []⟩) (fun _ R s => s.heap.get? l = some { cls := .type "list", dict := none, data := .seq items n, slots := sl } ∧
      R (.ok (.ret (Value.ref s.heap.objs.size))) { s with heap := s.heap.push { cls := Value.type "list", data := Data.seq (List.foldl (fun x1 x2 => x1 ++ x2) #[] (List.replicate (if items.isEmpty = true then 0 else x.toNat) items)) }, toks := s.toks }) :=
  .of_wp fun _ _ _ R ⟨hp, g, d, tk, os⟩ ⟨hL, h⟩ => by
    wp_walk using wpAny_loadPart' hL
    refine wpAny_ite_false (decide_eq_false (Nat.not_lt.mpr hsz)) ?_
    wp_walk using wpAny_loadPart' hL
    exact ⟨_, rfl, h⟩
def rRepL (K : PySem.W.Frag) : R2 := fun x y H Q => ∃ l i xs, x = .ref l ∧ y = .int i ∧ SqL K H l xs ∧ 0 ≤ i ∧ i ≤ 400 ∧ xs.length ≤ 400 ∧ ∀ p, H p = none → Q (.ref p) (upd H p (.lst (List.replicate i.toNat xs).flatten))
theorem op_repL {X : Cx} : OpR X (binaryOp .Mult) (rRepL X.K) := by
  rintro pins s σ H x y v u Q I rx ry ⟨l, i, xs, rfl, rfl, hH, h1, h2, hz, q⟩
  cases rx
  obtain ⟨t, rfl⟩ := ry
  obtain ⟨its, r, ⟨⟨cls, dd, data, sl⟩, n, ho, hc, hdc, hd⟩, hl⟩ := I.list hH
  simp only at hc hd hdc
  subst hc hd hdc
  have hle := Eq.symm r.length
  have hm : its.toArray.size * i.toNat ≤ 400 * 400 := by
    rw [List.size_toArray, hle]
    exact Nat.mul_le_mul hz (by omega)
  have hnew : List.foldl (fun x1 x2 => x1 ++ x2) #[] (List.replicate (if its.toArray.isEmpty = true then 0 else i.toNat) its.toArray) = (List.replicate i.toNat its).flatten.toArray := by
    rw [size_rep]
    cases its with
    | nil => simp
    | cons u us => simp only [List.isEmpty_toArray, List.isEmpty_cons, Bool.false_eq_true, if_false]
  have flen : (List.replicate i.toNat its).flatten.length ≤ sizeLine := by
    rw [PyProof.Rows.lm_len_rep_flat, Nat.mul_comm, sizeLine_eq]
    rw [List.size_toArray] at hm
    omega
  have flen2 : (List.replicate i.toNat xs).flatten.length ≤ sizeLine := by
    rw [PyProof.Rows.lm_len_rep_flat, ← hle, Nat.mul_comm, sizeLine_eq]
    rw [List.size_toArray] at hm
    omega
  have hfit : ¬ (!Builtin.List.listFitsIndex i) = true := by
    rw [fitsIndex_both (by omega) (by omega)]
    exact Bool.false_ne_true
  have hlong : ¬ Builtin.List.listTooLong (its.toArray.size * i.toNat) = true := by
    rw [Builtin.List.listTooLong.eq_1, sizeLine_eq]
    simp
    rw [List.size_toArray] at hm
    omega
  refine wpAny_binaryOp_repeat_ref (T := "list") (U := "int") (by decide) ⟨_, ho, rfl⟩ (fun s' => typeIs_int s' i t) noFill_list_mul F.fills_int_mul F.slot_int_rmul repeat_list F.slot_int_index.lookup
    (call_meets F.slot_int_rmul (typeIs_int s i t) F.entry_int_rmul (F.args_int_rmul_2 _ _) (rmul_lst i t l its.toArray n sl)
      ⟨ho, rfl, ⟨_, ho, rfl⟩, call_meets F.slot_list_mul ⟨_, ho, rfl⟩ F.entry_list_mul (F.args_list_mul_2 _ _) (mul_lst l its.toArray n sl i t hfit (by omega) hlong (by rw [hnew, List.size_toArray]; exact flen)) ⟨ho, ?_⟩⟩)
  rw [hnew]
  exact ⟨.ref _, _, I.lnew (t' := s.toks) (r.rep i.toNat) flen2, rfl, q _ I.fresh⟩
def repL (base : O2) : O2 := fun x y A Q => match x, y with
  | .t (.lst a), .t (.int i) => 0 ≤ i ∧ i ≤ 400 ∧ a.length ≤ 400 ∧ Q (.t (.lst (List.replicate i.toNat a).flatten)) A
  | x, y => base x y A Q
theorem mon_repL {base : O2} (h0 : Mon2 base) : Mon2 (repL base) := fun x y A Q Q' k h => by
  unfold repL at h ⊢
  split at h
  · exact ⟨h.1, h.2.1, h.2.2.1, k _ _ h.2.2.2⟩
  · exact h0 _ _ _ _ _ k h
theorem reps_rep {K : PySem.W.Frag} {T : Tb} {m : List Addr} {A : AH} {H : Hp} {l : List D} {vs : List V} (h : Reps K T m A H l vs) : ∀ i : Nat, Reps K T m A H (List.replicate i l).flatten (List.replicate i vs).flatten
  | 0 => by simp [Reps]
  | i + 1 => by
    simp only [List.replicate_succ, List.flatten_cons]
    exact reps_app h (reps_rep h i)
theorem so_repL {base : O2} (h0 : SO2 G k (binaryOp .Mult) base) : SO2 G k (binaryOp .Mult) (repL base) := by
  refine ⟨mon_repL h0.mono, fun X hX => OpR.weak (op_repL.or (h0.run X hX)) fun x y H Q z => ?_⟩
  obtain ⟨m, A, w1, w2, hr, r1, r2, z⟩ := z
  unfold repL at z
  split at z
  · rename_i l i
    simp only [RepW, Rep] at r1 r2
    obtain ⟨p, vs, rfl, h1, q1⟩ := r1
    subst r2
    refine .inl ⟨p, i, vs, rfl, rfl, by rw [hX.K]; exact lst_sq h1, z.1, z.2.1, by rw [← q1.length]; exact z.2.2.1, fun a ha => ?_⟩
    refine z.2.2.2 (.ref a) m _ (Lt.new ha) (hr.new ha) ?_
    simp only [RepW, Rep]
    exact ⟨a, _, rfl, .inl ⟨.inl upd_same, Fr.of_notin (hr.notin ha)⟩, Reps.lt (Lt.new ha) hr.len _ _ (reps_rep q1 _)⟩
  · exact .inr ⟨m, A, _, _, hr, r1, r2, z⟩
/-! ### sep.join of a list of texts -/
def strsD : List D → Option (List Str)
  | [] => some []
  | .str x :: l => match strsD l with
    | some r => some (x :: r)
    | none => none
  | _ :: _ => none
theorem strsD_rep {K : PySem.W.Frag} {T : Tb} {m : List Addr} {A : AH} {H : Hp} : ∀ {l : List D} {ys : List Str} {vs : List V}, strsD l = some ys → Reps K T m A H l vs → vs = ys.map V.str
  | [], ys, vs, h, r => by
    simp only [strsD] at h
    cases h
    simp only [Reps] at r
    rw [r]
    rfl
  | d :: l, ys, vs, h, r => by
    simp only [Reps] at r
    obtain ⟨v, q, rfl, r1, r2⟩ := r
    cases d <;> simp only [strsD] at h <;> first | (cases h; done) | skip
    split at h
    · rename_i r0 h1
      cases h
      simp only [Rep] at r1
      rw [r1, strsD_rep h1 r2]
      rfl
    · cases h
@[irreducible] def joinW (w : W) (y : W) (B : AH) (Q : WK) : Prop := match w, y with
  | .t (.str a), .t (.lst l) => match strsD l with
    | some ys => (ys.map (·.length)).sum + ys.length * a.length ≤ 16777216 ∧ Q (.t (.str (Str.join a ys))) B
    | none => False
  | _, _ => False
theorem joinW_mono {w y : W} {B : AH} {Q Q' : WK} (k : ∀ w B, Q w B → Q' w B) (h : joinW w y B Q) : joinW w y B Q' := by
  unfold joinW at h ⊢
  split at h <;> (try split at h) <;> first | exact ⟨h.1, k _ _ h.2⟩ | exact h.elim
theorem join_go {a : Str} {l : List D} {ys : List Str} {B : AH} {Q : WK} (h : strsD l = some ys) (hz : (ys.map (·.length)).sum + ys.length * a.length ≤ 16777216) (z : Q (.t (.str (Str.join a ys))) B) : joinW (.t (.str a)) (.t (.lst l)) B Q := by
  unfold joinW
  show (match strsD l with
    | some ys => (ys.map (·.length)).sum + ys.length * a.length ≤ 16777216 ∧ Q (.t (.str (Str.join a ys))) B
    | none => False)
  rw [h]
  exact ⟨hz, z⟩
def vJn (f g : Den) : Den := fun env A Q => f env A fun w B => (match w with | .t (.str _) => True | _ => False) ∧ g env B fun y B2 => joinW w y B2 Q
theorem se_join2 (ho : SE C o f) (ha : SE C a g) (hs : ∀ env : PySem.Env, starEach [a] env = [(false, eval a env)]) (hbase : ∀ env : PySem.Env, attributeBase o "join" env (eval o env) = eval o env) (hline : (apos.endLine == pos.line) = true) :
    SE C (.Call (.Attribute o "join" apos) [a] [] pos) (vJn f g) := by
  refine ⟨fun env A Q Q' k h => ho.mono _ _ _ _ (fun w B z => ⟨z.1, ha.mono _ _ _ _ (fun y B2 z2 => joinW_mono k z2) z.2⟩) h, fun X hX => PE.weak (pe_join (ho.run X hX) (ha.run X hX) (hs X.env) (hbase X.env) hline) fun σ H Q z => ?_⟩
  obtain ⟨env, m, A, er, hr, h⟩ := z
  refine ⟨env, m, A, er, hr, ho.mono _ _ _ _ (fun w B z v1 m1 H1 l1 hr1 r1 => ?_) h⟩
  obtain ⟨z0, z⟩ := z
  refine ⟨?_, env, m1, B, er.lt l1 hr.len, hr1, ha.mono _ _ _ _ (fun y B2 z2 v2 m2 H2 l2 hr2 r2 => ?_) z⟩
  · split at z0
    · simp only [RepW, Rep] at r1
      exact ⟨_, r1⟩
    · exact z0.elim
  unfold joinW at z2
  split at z2
  · split at z2
    · rename_i b l _ ys hy
      simp only [RepW, Rep] at r1 r2
      obtain ⟨p, vs, rfl, h1, q1⟩ := r2
      obtain rfl := strsD_rep hy q1
      subst r1
      refine ⟨b, p, ys, rfl, rfl, .inl (by rw [hX.g.K]; exact lst_sq h1), z2.1, ?_⟩
      rw [TL.join_eq]
      exact z2.2 _ m2 H2 (l1.trans hr.len l2) hr2 repStr
    · exact z2.elim
  · exact z2.elim
/-! ### slices of rows whose length is known -/
@[irreducible] def slcI (lo hi : Option Int) (w : W) (B : AH) (Q : WK) : Prop := slcW lo hi w B Q
theorem slcI_eq (lo hi : Option Int) (w : W) (B : AH) (Q : WK) : slcI lo hi w B Q = slcW lo hi w B Q := by unfold slcI; rfl
def vSlcI (lo hi : Option Int) (f : Den) : Den := fun env A Q => f env A fun w B => slcI lo hi w B Q
theorem se_slcI {lo hi : Option Expr} {l u : Option Int} {p2 : Pos} (ha : SE C a f) (h1 : Bnd lo l) (h2 : Bnd hi u) : SE C (.Subscript a (.Slice lo hi none p2) pos) (vSlcI l u f) := by
  have e : vSlcI l u f = vSlc l u f := by unfold vSlcI vSlc slcI; rfl
  rw [e]
  exact se_slc ha h1 h2
variable {x0 x1 x2 x3 x4 x5 x6 x7 : Hw.D} {B : AH} {Q : WK}
theorem slc_t1 (z : Q (.t (.tup [x1, x2, x3])) B) : slcI (some 1) none (.t (.tup [x0, x1, x2, x3])) B Q := by
  rw [slcI_eq]
  exact ⟨(by decide : ¬(HT.sIx 4 0 (some 1) = 0 ∧ HT.sIx 4 4 none = 4)), z⟩
theorem slc_l1 (z : Q (.t (.lst [x1, x2, x3])) B) : slcI (some 1) none (.t (.lst [x0, x1, x2, x3])) B Q := by
  rw [slcI_eq]
  exact z
theorem slc_lo (z : Q (.t (.lst [x0, x1, x2, x3])) B) : slcI none (some 4) (.t (.lst [x0, x1, x2, x3, x4, x5, x6, x7])) B Q := by
  rw [slcI_eq]
  exact z
theorem slc_hi (z : Q (.t (.lst [x4, x5, x6, x7])) B) : slcI (some 4) none (.t (.lst [x0, x1, x2, x3, x4, x5, x6, x7])) B Q := by
  rw [slcI_eq]
  exact z
/-! ### a comprehension stored under a local name -/
variable {elt iter : Expr} {ft : DenT} {fi : DenI} {el : Den} {p0 p1 p2 : Pos} {y z : Str} {ifs : List Expr} {scope : Scope}
theorem ss_lcG1 (i j : Nat) (hy : C.N[i]? = some y) (hyl : loOk C.sc y = true) (hz : C.N[j]? = some z) (hk : C.sc.kind = .function) (ok : blkC C.N C.sc scope [(z, j)] = true) (hi : SI C (.Name z p1) iter fi) (hl : loOk (C.blk scope).sc z = true) (ht : STs (C.blk scope) ifs ft) (he : SE (C.blk scope) elt el)
    (hf : ∀ (env : PySem.Env) x, foldedSetIterable iter env x = pure x) (hline : (p0.line == pos.line) = true) (hn : (scope.names.any fun (n, k) => n == y && (k == .local || k == .cell)) = false) :
    SS C (.Assign [.Name y p0] (.ListComp elt [⟨.Name z p1, iter, ifs, 0⟩] scope pos) p2) (vSet i (vLcG fi (dName j) ft el [j])) :=
  (ss_setLc (own := [(z, j)]) i hy (of_decide_eq_true hyl) hk ok hi (sg_nm j hz hl) ht he (by simp) hf hline hn).weak fun _ _ _ => lcG_iff hi.mono _ _ _
end
end Hw
namespace Hw
open PySem L2
/-! ### a second class of one's own: eights -/
section
variable {G : Gc} {k j n nc : Nat} {C : Ctx} {T : Tb}
def isE8 : D → Bool
  | .ins c [_, _] => c == 1
  | _ => false
/-- which fields an eight has -/
def E8T (T : Tb) : Prop := T.flds 1 = [("_first" : Str), ("_second" : Str)]
theorem lookE1 {α : Type} {x y : α} : List.lookup ("_first" : Str) [(("_first" : Str), x), (("_second" : Str), y)] = some x := by
  rw [List.lookup_cons, beq_self_eq_true]
theorem lookE2 {α : Type} {x y : α} : List.lookup ("_second" : Str) [(("_first" : Str), x), (("_second" : Str), y)] = some y := by
  rw [List.lookup_cons, show (("_second" : Str) == "_first") = false from by decide +kernel]
  rw [List.lookup_cons, beq_self_eq_true]
theorem fldE1 (h : E8T T) {a b : D} {A : AH} {Q : WK} (z : Q (.t a) A) : fldG T "_first" (.t (.ins 1 [a, b])) A Q := by
  unfold fldG fldW
  show (match ((T.flds 1).zip [a, b]).lookup ("_first" : Str) with
    | some d => Q (.t d) A
    | none => False)
  rw [show T.flds 1 = _ from h]
  show (match List.lookup ("_first" : Str) [(("_first" : Str), a), (("_second" : Str), b)] with
    | some d => Q (.t d) A
    | none => False)
  rw [lookE1]
  exact z
theorem fldE2 (h : E8T T) {a b : D} {A : AH} {Q : WK} (z : Q (.t b) A) : fldG T "_second" (.t (.ins 1 [a, b])) A Q := by
  unfold fldG fldW
  show (match ((T.flds 1).zip [a, b]).lookup ("_second" : Str) with
    | some d => Q (.t d) A
    | none => False)
  rw [show T.flds 1 = _ from h]
  show (match List.lookup ("_second" : Str) [(("_first" : Str), a), (("_second" : Str), b)] with
    | some d => Q (.t d) A
    | none => False)
  rw [lookE2]
  exact z
def convE (fs : List (Str × D)) : Option D := match fs with
  | [(x, a), (y, b)] => if x = "_first" ∧ y = "_second" then some (.ins 1 [a, b]) else none
  | _ => none
theorem conv_e8 (h : E8T G.T) : Conv G 1 convE := by
  refine ⟨fun m A H a dx fs vs d e ha r hm => ?_⟩
  unfold convE at e
  split at e
  · rename_i x p y q
    split at e
    · rename_i hc
      obtain ⟨rfl, rfl⟩ := hc
      cases e
      simp only [RepFs] at r
      obtain ⟨v1, r1, rfl, q1, v2, r2, rfl, q2, rfl⟩ := r
      simp only [Rep]
      refine ⟨a, dx, [v1, v2], rfl, ?_, by rw [show G.T.flds 1 = _ from h]; rfl, Fr.of_notin hm, ?_⟩
      · rw [ha, show G.T.flds 1 = _ from h]
        rfl
      · simp only [Reps]
        exact ⟨v1, _, rfl, q1, v2, _, rfl, q2, rfl⟩
    · cases e
  · cases e
theorem e8_at (h : E8T G.T) {d : D} {m : List Addr} {A : AH} {H : Hp} {v : V} (hd : isE8 d = true) (r : Rep G.K G.T m A H d v) : ∃ a dx v1 v2, v = .ref a ∧ H a = some (.ins (G.T.at_ 1) dx [("_first", v1), ("_second", v2)]) := by
  unfold isE8 at hd
  split at hd
  · rename_i c x y
    have hc : c = 1 := by simpa using hd
    subst hc
    simp only [Rep] at r
    obtain ⟨a, dx, vs, rfl, h1, h2, _, r⟩ := r
    simp only [Reps] at r
    obtain ⟨v1, r1, rfl, q1, v2, r2, rfl, q2, rfl⟩ := r
    rw [show G.T.flds 1 = _ from h] at h1
    exact ⟨a, dx, v1, v2, rfl, h1⟩
  · cases hd
theorem ins_e8 {m : Str} (h : E8T G.T) (cl : Cls G.K (G.T.at_ 1)) (h1 : (m == ("_first" : Str)) = false) (h2 : (m == ("_second" : Str)) = false) : Ins G isE8 (G.T.at_ 1) m := by
  refine ⟨cl, fun d mm A H v hd r => ?_⟩
  obtain ⟨a, dx, v1, v2, rfl, ha⟩ := e8_at h hd r
  exact ⟨a, dx, _, rfl, ha, by rw [List.lookup_cons, h1, List.lookup_cons, h2]; rfl⟩
theorem str_e8 {nm : Str} {f : Addr} (h : E8T G.T) (at_ : PySem.W.findIn G.K (.ref (G.T.at_ 1)) nm = some (some (.ref f))) (fn : PySem.W.isFn G.K (.ref f) = true) : OwnStr G isE8 nm f (G.T.at_ 1) := by
  refine ⟨at_, fn, fun d mm A H v hd r => ?_⟩
  obtain ⟨a, dx, v1, v2, rfl, ha⟩ := e8_at h hd r
  exact ⟨a, dx, _, rfl, ha⟩
/-! operators between eights -/
def opE (S : OL) (base : O2) : O2 := fun x y A Q => match x, y with
  | .t (.ins 1 l), .t (.ins 1 r) => S [.t (.ins 1 l), .t (.ins 1 r)] A Q
  | x, y => base x y A Q
theorem opE_run {S : OL} {base : O2} {op : Operator} {f : Addr} (hi : SO2 G j (binaryOp op) base) (hj : j ≤ k) (O : OwnOp G 1 op f) (cal : Cal G k (.ref f) 2 [] (posK S)) : SO2 G k (binaryOp op) (opE S base) := by
  refine ⟨fun x y A Q Q' kk h => ?_, fun X hX => OpR.weak ((own_bin hX O cal).or (hi.run X (hX.mono hj))) fun x y H Q z => ?_⟩
  · unfold opE at h ⊢
    split at h
    · exact cal.mono [_, _] [] _ _ _ kk h
    · exact hi.mono _ _ _ _ _ kk h
  · obtain ⟨m, A, w1, w2, hr, r1, r2, z⟩ := z
    unfold opE at z
    split at z
    · exact .inl ⟨m, A, _, _, hr, r1, r2, rfl, .inl rfl, z⟩
    · exact .inr ⟨m, A, _, _, hr, r1, r2, z⟩
def negE (S : OL) (base : O1) : O1 := fun x A Q => match x with
  | .t (.ins 1 l) => S [.t (.ins 1 l)] A Q
  | x => base x A Q
theorem so_negE {S : OL} {base : O1} {f : Addr} (hi : SO1 G j (unaryOp .USub) base) (hj : j ≤ k) (O : OwnNeg G 1 f) (cal : Cal G k (.ref f) 1 [] (posK S)) : SO1 G k (unaryOp .USub) (negE S base) := by
  refine ⟨fun x A Q Q' kk h => ?_, fun X hX pins s σ H x v Q I rx z => ?_⟩
  · unfold negE at h ⊢
    split at h
    · exact cal.mono [_] [] _ _ _ kk h
    · exact hi.mono _ _ _ _ kk h
  · obtain ⟨m, A, w1, hr, r1, z⟩ := z
    unfold negE at z
    split at z
    · rename_i l
      have i1 : isI 1 (.t (.ins 1 l)) := rfl
      obtain ⟨a, dx, fs, rfl, ha⟩ := isI_at i1 r1
      have ev : v = Value.ref a := rx
      subst ev
      obtain ⟨mA, Ob, _⟩ := ins_get I.hok ha
      obtain ⟨od, J, _⟩ := Ob.look
      obtain ⟨mf, F⟩ := I.fr
      have kin := I.ok.mod.kin
      rw [hX.K] at kin
      exact PySem.W.ksp_neg F kin J O.at_ O.fn (wpAny_call (cal.run X hX pins s σ H [.ref a] [] [.ref a] [] Q m A [.t (.ins 1 l)] [] I (.cons rfl .nil) .nil hr ⟨_, _, rfl, r1, rfl⟩ rfl rfl rfl z))
    · exact hi.run X (hX.mono hj) pins s σ H x v Q I rx ⟨m, A, w1, hr, r1, z⟩
/-- == and != with an eight on the left -/
def eqE (nc : Nat) (neg : Bool) (S : OL) (base : O2) : O2 := fun x y A Q => match x, y with
  | .t (.ins 1 l), .t d => cok nc d = true ∧ S [.t (.ins 1 l), .t d] A fun w B => ∃ b, w = .t (.bl b) ∧ Q (.t (.bl (b != neg))) B
  | x, y => base x y A Q
theorem mon_eqE {neg : Bool} {S : OL} {base : O2} (hS : MonL S) (h0 : Mon2 base) : Mon2 (eqE nc neg S base) := fun x y A Q Q' k h => by
  unfold eqE at h ⊢
  split at h
  · exact ⟨h.1, hS _ _ _ _ (fun w B z => by obtain ⟨b, e, z⟩ := z; exact ⟨b, e, k _ _ z⟩) h.2⟩
  · exact h0 _ _ _ _ _ k h
theorem so_eqE {S : OL} {base : O2} {f : Addr} (h0 : 0 < nc) (hS : MonL S) (hi : SO2 G j (compareOp .Eq) base) (hj : j ≤ k) (O : OwnEq G 1 nc f) (cal : Cal G k (.ref f) 2 [] (posK S)) : SO2 G k (compareOp .Eq) (eqE nc false S base) := by
  refine ⟨mon_eqE hS hi.mono, fun X hX => OpR.weak ((own_eq hX O cal).or (hi.run X (hX.mono hj))) fun x y H Q z => ?_⟩
  obtain ⟨m, A, w1, w2, hr, r1, r2, z⟩ := z
  unfold eqE at z
  split at z
  · obtain ⟨t, ht, h1⟩ := cok_kd h0 z.1
    refine .inl ⟨m, A, _, _, t, hr, r1, r2, rfl, ht, h1, hS _ _ _ _ (fun w B q => ?_) z.2⟩
    obtain ⟨b, rfl, q⟩ := q
    exact ⟨b, rfl, fun m' H' l h' => q _ m' H' l h' repBl⟩
  · exact .inr ⟨m, A, _, _, hr, r1, r2, z⟩
theorem so_neE {S : OL} {base : O2} {f : Addr} (h0 : 0 < nc) (hS : MonL S) (hi : SO2 G j (compareOp .NotEq) base) (hj : j ≤ k + 2) (O : OwnEq G 1 nc f) (cal : Cal G k (.ref f) 2 [] (posK S)) : SO2 G (k + 2) (compareOp .NotEq) (eqE nc true S base) := by
  refine ⟨mon_eqE hS hi.mono, fun X hX => OpR.weak ((own_ne hX O cal).or (hi.run X (hX.mono hj))) fun x y H Q z => ?_⟩
  obtain ⟨m, A, w1, w2, hr, r1, r2, z⟩ := z
  unfold eqE at z
  split at z
  · obtain ⟨t, ht, h1⟩ := cok_kd h0 z.1
    refine .inl ⟨m, A, _, _, t, hr, r1, r2, rfl, ht, h1, hS _ _ _ _ (fun w B q => ?_) z.2⟩
    obtain ⟨b, rfl, q⟩ := q
    exact ⟨b, rfl, fun m' H' l h' => q _ m' H' l h' repBl⟩
  · exact .inr ⟨m, A, _, _, hr, r1, r2, z⟩
end
end Hw
namespace Hw
open PySem L2
/-! ### eights: what the class's defs promise -/
structure R8 where
  a : Rat
  b : Rat
  c : Rat
  d : Rat
  p : Rat
  q : Rat
  r : Rat
  s : Rat
deriving DecidableEq
abbrev r4r (a b c d : Rat) : D := .tup [.rat a, .rat b, .rat c, .rat d]
abbrev R8.D (x : R8) : Hw.D := .ins 1 [r4r x.a x.b x.c x.d, r4r x.p x.q x.r x.s]
/-- at most n bits each -/
structure R8.Z (n : Nat) (x : R8) : Prop where
  a : Sz n x.a
  b : Sz n x.b
  c : Sz n x.c
  d : Sz n x.d
  p : Sz n x.p
  q : Sz n x.q
  r : Sz n x.r
  s : Sz n x.s
theorem R8.Z.up {n m : Nat} {x : R8} (h : x.Z n) (k : n ≤ m) : x.Z m := ⟨h.a.up k, h.b.up k, h.c.up k, h.d.up k, h.p.up k, h.q.up k, h.r.up k, h.s.up k⟩
section
variable {G : Gc} {k j n nc : Nat}
/-- Eight(x, y) -/
@[irreducible] def sMkE : OL := fun ws A Q => match ws with
  | [.t x, .t y] => ∃ a b c d p q r s, (Four x a b c d ∧ Four y p q r s) ∧ Q (.t (R8.mk a b c d p q r s).D) A
  | _ => False
theorem mon_mkE : MonL sMkE := fun ws A Q Q' k h => by
  unfold sMkE at h ⊢
  split at h
  · obtain ⟨a, b, c, d, p, q, r, s, h1, h2⟩ := h; exact ⟨a, b, c, d, p, q, r, s, h1, k _ _ h2⟩
  · exact h.elim
theorem mkE_go {x y : D} {a b c d p q r s : Rat} {A : AH} {Q : WK} (h1 : Four x a b c d) (h2 : Four y p q r s) (z : Q (.t (R8.mk a b c d p q r s).D) A) : sMkE [.t x, .t y] A Q := by
  unfold sMkE; exact ⟨_, _, _, _, _, _, _, _, ⟨h1, h2⟩, z⟩
theorem mkE_rat {a b c d p q r s : Rat} {A : AH} {Q : WK} (z : Q (.t (R8.mk a b c d p q r s).D) A) : sMkE [.t (r4r a b c d), .t (r4r p q r s)] A Q := mkE_go (four_rat ..) (four_rat ..) z
/-- the new eight's fields -/
def sInitE : OL := fun ws A Q => match ws with
  | [.loc n, .t x, .t y] => ∃ a b c d p q r s, (Four x a b c d ∧ Four y p q r s) ∧ A[n]? = some (.live (.ins 1 [])) ∧ Q (.t .non) (A.set n (.live (.ins 1 [("_first", r4r a b c d), ("_second", r4r p q r s)])))
  | _ => False
theorem mon_initE : MonL sInitE := fun ws A Q Q' k h => by
  unfold sInitE at h ⊢
  split at h
  · obtain ⟨a, b, c, d, p, q, r, s, h1, h2, h3⟩ := h; exact ⟨a, b, c, d, p, q, r, s, h1, h2, k _ _ h3⟩
  · exact h.elim
theorem putD_fs {d e : D} : putD "_second" d [(("_first" : Str), e)] = [(("_first" : Str), e), (("_second" : Str), d)] := by
  unfold putD
  rw [if_neg (by decide +kernel)]; rfl
theorem fn_setsE {A : AH} {n : Nat} {c : Nat} {a b : D} {Q : WK} {c0 : Cell} (h : Q (.t .non) (A.set n (.live (.ins c [("_first", a), ("_second", b)])))) : Q (.t .non) ((A.set n c0).set n (.live (.ins c (putD "_second" b [(("_first" : Str), a)])))) := by
  rw [List.set_set, putD_fs]; exact h
theorem cal_mkE {f : Addr} {fd : FuncData} {ks : List Str} {dws : List W} {l : List Src} (g : List W → List W → List W) (hE : E8T G.T) (M : Mk G.K (G.T.at_ 1) f) (F : Fn G k f fd ["self", "first", "second"] sInitE) (B : Bd G fd ["self", "first", "second"] (n + 1) ks dws l)
    (harr : ∀ (w : W) (xs ys : List W), xs.length = n → ys.length = ks.length → arr (w :: xs) ys dws l = w :: g xs ys) (hlen : ∀ xs ys : List W, xs.length = n → ys.length = ks.length → (g xs ys).length = 2) : Cal G (k + 1) (.ref (G.T.at_ 1)) n ks (fun xs ys A Q => sMkE (g xs ys) A Q) := by
  refine (cal_make M F B (conv_e8 hE) (fun xs ys h1 h2 => ?_)).weakL (fun xs ys A Q Q' h z => mon_mkE _ _ _ _ h z) fun xs ys A Q h1 h2 h => ?_
  · match xs, h1 with
    | w :: xs, h1 =>
      have h3 : xs.length = n := by simpa using h1
      rw [harr w xs ys h3 h2, List.length_cons, hlen xs ys h3 h2]
      rfl
  · show sInitE (arr (.loc A.length :: xs) ys dws l) (A ++ [.live (.ins 1 [])]) (mkEnd 1 A.length convE Q)
    rw [harr _ xs ys h1 h2]
    have h4 := hlen xs ys h1 h2
    unfold sMkE at h
    split at h
    · rename_i x y e
      obtain ⟨a, b, c, d, p, q, r, s, hF, z⟩ := h
      rw [e]
      refine ⟨a, b, c, d, p, q, r, s, hF, by simp, ?_⟩
      unfold mkEnd convE
      simp
      exact z
    · exact h.elim
/-- a method of an eight alone -/
@[irreducible] def sE1 (P : R8 → Prop) (F : R8 → D) : OL := fun ws A Q => match ws with
  | [.t d] => ∃ x : R8, d = x.D ∧ P x ∧ Q (.t (F x)) A
  | _ => False
theorem mon_E1 {P : R8 → Prop} {F : R8 → D} : MonL (sE1 P F) := fun ws A Q Q' k h => by
  unfold sE1 at h ⊢
  split at h
  · obtain ⟨x, h1, h2, h3⟩ := h; exact ⟨x, h1, h2, k _ _ h3⟩
  · exact h.elim
theorem e1_cases {P : R8 → Prop} {F : R8 → D} {ws : List W} {A : AH} {Q : WK} (h : sE1 P F ws A Q) : ∃ x : R8, ws = [.t x.D] ∧ P x ∧ Q (.t (F x)) A := by
  unfold sE1 at h
  split at h
  · obtain ⟨x, rfl, h2, h3⟩ := h; exact ⟨x, rfl, h2, h3⟩
  · exact h.elim
theorem e1_go {P : R8 → Prop} {F : R8 → D} {x : R8} {A : AH} {Q : WK} (h : P x) (z : Q (.t (F x)) A) : sE1 P F [.t x.D] A Q := by
  unfold sE1; exact ⟨x, rfl, h, z⟩
/-- .. of two -/
@[irreducible] def sE2 (P : R8 → R8 → Prop) (F : R8 → R8 → D) : OL := fun ws A Q => match ws with
  | [.t d, .t e] => ∃ x y : R8, (d = x.D ∧ e = y.D) ∧ P x y ∧ Q (.t (F x y)) A
  | _ => False
theorem mon_E2 {P : R8 → R8 → Prop} {F : R8 → R8 → D} : MonL (sE2 P F) := fun ws A Q Q' k h => by
  unfold sE2 at h ⊢
  split at h
  · obtain ⟨x, y, h1, h2, h3⟩ := h; exact ⟨x, y, h1, h2, k _ _ h3⟩
  · exact h.elim
theorem e2_cases {P : R8 → R8 → Prop} {F : R8 → R8 → D} {ws : List W} {A : AH} {Q : WK} (h : sE2 P F ws A Q) : ∃ x y : R8, ws = [.t x.D, .t y.D] ∧ P x y ∧ Q (.t (F x y)) A := by
  unfold sE2 at h
  split at h
  · obtain ⟨x, y, ⟨rfl, rfl⟩, h2, h3⟩ := h; exact ⟨x, y, rfl, h2, h3⟩
  · exact h.elim
theorem e2_go {P : R8 → R8 → Prop} {F : R8 → R8 → D} {x y : R8} {A : AH} {Q : WK} (h : P x y) (z : Q (.t (F x y)) A) : sE2 P F [.t x.D, .t y.D] A Q := by
  unfold sE2; exact ⟨x, y, ⟨rfl, rfl⟩, h, z⟩
/-- .. and a number -/
@[irreducible] def sEN (P : R8 → Rat → Prop) (F : R8 → Rat → D) : OL := fun ws A Q => match ws with
  | [.t d, .t e] => ∃ (x : R8) (q : Rat), (d = x.D ∧ NumOk e q) ∧ P x q ∧ Q (.t (F x q)) A
  | _ => False
theorem mon_EN {P : R8 → Rat → Prop} {F : R8 → Rat → D} : MonL (sEN P F) := fun ws A Q Q' k h => by
  unfold sEN at h ⊢
  split at h
  · obtain ⟨x, y, h1, h2, h3⟩ := h; exact ⟨x, y, h1, h2, k _ _ h3⟩
  · exact h.elim
theorem en_cases {P : R8 → Rat → Prop} {F : R8 → Rat → D} {ws : List W} {A : AH} {Q : WK} (h : sEN P F ws A Q) : ∃ (x : R8) (e : D) (q : Rat), ws = [.t x.D, .t e] ∧ NumOk e q ∧ P x q ∧ Q (.t (F x q)) A := by
  unfold sEN at h
  split at h
  · obtain ⟨x, y, ⟨rfl, h0⟩, h2, h3⟩ := h; exact ⟨x, _, y, rfl, h0, h2, h3⟩
  · exact h.elim
theorem en_go {P : R8 → Rat → Prop} {F : R8 → Rat → D} {x : R8} {e : D} {q : Rat} {A : AH} {Q : WK} (h0 : NumOk e q) (h : P x q) (z : Q (.t (F x q)) A) : sEN P F [.t x.D, .t e] A Q := by
  unfold sEN; exact ⟨x, q, ⟨rfl, h0⟩, h, z⟩
/-- == of an eight and anything -/
def eqE8 (x : R8) : D → Bool
  | .ins 1 [.tup [.rat a, .rat b, .rat c, .rat d], .tup [.rat p, .rat q, .rat r, .rat s]] => decide (x.a = a ∧ x.b = b ∧ x.c = c ∧ x.d = d) && decide (x.p = p ∧ x.q = q ∧ x.r = r ∧ x.s = s)
  | _ => false
/-- an eight, or none by its class -/
def okE8 (d : D) : Prop := (∃ y : R8, d = y.D) ∨ isC 1 d = false
@[irreducible] def sEqE (nc : Nat) : OL := fun ws A Q => match ws with
  | [.t d, .t e] => ∃ x : R8, d = x.D ∧ (okE8 e ∧ cok nc e = true) ∧ Q (.t (.bl (eqE8 x e))) A
  | _ => False
theorem mon_eqEE : MonL (sEqE nc) := fun ws A Q Q' k h => by
  unfold sEqE at h ⊢
  split at h
  · obtain ⟨x, h1, h2, h3⟩ := h; exact ⟨x, h1, h2, k _ _ h3⟩
  · exact h.elim
theorem eqE_cases {ws : List W} {A : AH} {Q : WK} (h : sEqE nc ws A Q) : ∃ (x : R8) (e : D), ws = [.t x.D, .t e] ∧ okE8 e ∧ cok nc e = true ∧ Q (.t (.bl (eqE8 x e))) A := by
  unfold sEqE at h
  split at h
  · obtain ⟨x, rfl, h2, h3⟩ := h; exact ⟨x, _, rfl, h2.1, h2.2, h3⟩
  · exact h.elim
theorem eqE_go {x : R8} {e : D} {A : AH} {Q : WK} (h : okE8 e) (h2 : cok nc e = true) (z : Q (.t (.bl (eqE8 x e))) A) : sEqE nc [.t x.D, .t e] A Q := by
  unfold sEqE; exact ⟨x, rfl, ⟨h, h2⟩, z⟩
/-! of three or four numbers -/
def sNoughtN : OL := pureS fun ws => match ws with
  | [.t (.tup [.rat a, .rat b, .rat c, .rat d])] => some (True, .t (.bl ([a.num.sign == 0, b.num.sign == 0, c.num.sign == 0, d.num.sign == 0].all id)))
  | [.t (.tup [.rat a, .rat b, .rat c])] => some (True, .t (.bl ([a.num.sign == 0, b.num.sign == 0, c.num.sign == 0].all id)))
  | _ => none
def sDotN : OL := pureS fun ws => match ws with
  | [.t (.tup [.rat a, .rat b, .rat c, .rat d]), .t (.tup [.rat p, .rat q, .rat r, .rat s])] => some ((∃ n, 8 * n + 3 ≤ 3990 ∧ Sz n a ∧ Sz n b ∧ Sz n c ∧ Sz n d ∧ Sz n p ∧ Sz n q ∧ Sz n r ∧ Sz n s), .t (.rat (a * p + b * q + c * r + d * s)))
  | [.t (.tup [.rat a, .rat b, .rat c]), .t (.tup [.rat p, .rat q, .rat r])] => some ((∃ n, 8 * n + 3 ≤ 3990 ∧ Sz n a ∧ Sz n b ∧ Sz n c ∧ Sz n p ∧ Sz n q ∧ Sz n r), .t (.rat (a * p + b * q + c * r)))
  | _ => none
def sAdded : OL := pureS fun ws => match ws with
  | [.t (.tup [.rat a, .rat b, .rat c, .rat d]), .t (.tup [.rat p, .rat q, .rat r, .rat s])] => some (pSz a p ∧ pSz b q ∧ pSz c r ∧ pSz d s, .t (.tup [.rat (a + p), .rat (b + q), .rat (c + r), .rat (d + s)]))
  | _ => none
/-! texts of eights -/
@[irreducible] def fourText (a b c d : Rat) : Str := ("(" : Str) ++ Str.join ", " [ratText a, ratText b, ratText c, ratText d] ++ ")"
def e8Text (x : R8) : Str := ("Eight(" : Str) ++ fourText x.a x.b x.c x.d ++ ", " ++ fourText x.p x.q x.r x.s ++ ")"
def sShownF : OL := pureS fun ws => match ws with
  | [.t (.tup [.rat a, .rat b, .rat c, .rat d])] => some (pStr a ∧ pStr b ∧ pStr c ∧ pStr d, .t (.str (fourText a b c d)))
  | _ => none
end
end Hw
namespace Hw
open PySem L2
section
variable {G : Gc} {k j n nc : Nat} {base : O2}
theorem rtext_len {q : Rat} (h : pStr q) : (ratText q).length ≤ 4000 := by
  have a := int_len h.t
  have b := int_len (i := (q.den : Int)) (by rw [Int.natAbs_natCast]; exact h.b)
  have e1 : ("/" : Str).length = 1 := by decide +kernel
  unfold ratText
  split
  · omega
  · rw [str_app, str_app, e1]
    omega
theorem four_len {a b c d : Rat} (h1 : Sz 1900 a) (h2 : Sz 1900 b) (h3 : Sz 1900 c) (h4 : Sz 1900 d) : (fourText a b c d).length ≤ 16200 := by
  have t1 := rtext_len h1
  have t2 := rtext_len h2
  have t3 := rtext_len h3
  have t4 := rtext_len h4
  have z1 : ("(" : Str).length = 1 := by decide +kernel
  have z3 : (")" : Str).length = 1 := by decide +kernel
  have lj := join_length_add [ratText a, ratText b, ratText c, ratText d] (by simp)
  simp only [piled_cons, piled_nil] at lj
  unfold fourText
  rw [str_app, str_app, z1, z3]
  omega
theorem und4_go {x : D} {a b c d : Rat} {A : AH} {Q : WK} (h1 : Four x a b c d) (h2 : B4 a b c d) (h3 : nrm a b c d ≠ 0) (z : Q (.t (undD a b c d)) A) : sUndone4 [.t x] A Q := undone4_go h1 h2 h3 z
theorem cok_e8 {l : List D} (h : 1 < nc) : cok nc (.ins 1 l) = true := by simp [cok, h]
theorem noughtN_of {ws : List W} {A : AH} {Q : WK} (h : sNought4 ws A Q) : sNoughtN ws A Q := by
  unfold sNought4 pureS at h
  match ws with
  | [.t (.tup [.rat a, .rat b, .rat c, .rat d])] => exact h
theorem dotN_of {ws : List W} {A : AH} {Q : WK} (h : sDot4 ws A Q) : sDotN ws A Q := by
  unfold sDot4 pureS at h
  match ws with
  | [.t (.tup [.rat a, .rat b, .rat c, .rat d]), .t (.tup [.rat p, .rat q, .rat r, .rat s])] => exact h
theorem eq_fourD {a b c d p q r s : Rat} : Told2 (eqDT oeN n base) (.t (r4r a b c d)) (.t (r4r p q r s)) (.bl (decide (a = p ∧ b = q ∧ c = r ∧ d = s))) := by
  refine ⟨fun A Q z => ?_⟩
  have e : eqD oeN (n + 1) (r4r a b c d) (r4r p q r s) = some (decide (a = p ∧ b = q ∧ c = r ∧ d = s)) := by
    cases n <;> simp [eqD, eqPairs, oeN, Bool.and_assoc]
  show (match eqD oeN (n + 1) (r4r a b c d) (r4r p q r s) with
    | some b => Q (.t (.bl b)) A
    | none => False)
  rw [e]
  exact z
theorem eqE8_no {x : R8} {d : D} (h : isC 1 d = false) : eqE8 x d = false := by
  unfold eqE8
  split
  · simp [isC] at h
  · rfl
theorem sz_one : Sz 3990 (((-1 : Int)) : Rat) := ⟨by decide +kernel, by decide +kernel⟩
theorem neg_by (q : Rat) : -q = q * ((-1 : Int) : Rat) := by
  have : ((-1 : Int) : Rat) = -1 := by decide +kernel
  rw [this]
  grind
theorem sub_by (p q : Rat) : p - q = p + -q := Rat.sub_eq_add_neg p q
/-- the four numbers of one undone -/
def undA (x : R8) : Rat := x.a * (((1 : Int) : Rat) / nrm x.a x.b x.c x.d)
def undB (x : R8) : Rat := -x.b * (((1 : Int) : Rat) / nrm x.a x.b x.c x.d)
def undC (x : R8) : Rat := -x.c * (((1 : Int) : Rat) / nrm x.a x.b x.c x.d)
def undE (x : R8) : Rat := -x.d * (((1 : Int) : Rat) / nrm x.a x.b x.c x.d)
def q1 (a b c d p q r s : Rat) : Rat := a * p - b * q - c * r - d * s
def q2 (a b c d p q r s : Rat) : Rat := a * q + b * p + c * s - d * r
def q3 (a b c d p q r s : Rat) : Rat := a * r - b * s + c * p + d * q
def q4 (a b c d p q r s : Rat) : Rat := a * s + b * r - c * q + d * p
def fstU (x : R8) (f : Rat → Rat → Rat → Rat → Rat → Rat → Rat → Rat → Rat) : Rat := f (undA x) (undB x) (undC x) (undE x) x.p x.q x.r x.s
def twoU (x : R8) (f : Rat → Rat → Rat → Rat → Rat → Rat → Rat → Rat → Rat) : Rat := f (fstU x q1) (fstU x q2) (fstU x q3) (fstU x q4) (undA x) (undB x) (undC x) (undE x)
/-- what the undoing of an eight wants -/
structure PUnd (x : R8) : Prop where
  b4 : B4 x.a x.b x.c x.d
  nz : nrm x.a x.b x.c x.d ≠ 0
  u1 : B8 (undA x) (undB x) (undC x) (undE x) x.p x.q x.r x.s
  u2 : B8 (fstU x q1) (fstU x q2) (fstU x q3) (fstU x q4) (undA x) (undB x) (undC x) (undE x)
  z1 : Sz 3990 (twoU x q1)
  z2 : Sz 3990 (twoU x q2)
  z3 : Sz 3990 (twoU x q3)
  z4 : Sz 3990 (twoU x q4)
def undR (x : R8) : R8 := ⟨undA x, undB x, undC x, undE x, -twoU x q1, -twoU x q2, -twoU x q3, -twoU x q4⟩
def mulR (x y : R8) : R8 := ⟨q1 x.a x.b x.c x.d y.a y.b y.c y.d, q2 x.a x.b x.c x.d y.a y.b y.c y.d, q3 x.a x.b x.c x.d y.a y.b y.c y.d, q4 x.a x.b x.c x.d y.a y.b y.c y.d,
  q1 x.a x.b x.c x.d y.p y.q y.r y.s + q1 x.p x.q x.r x.s y.a y.b y.c y.d, q2 x.a x.b x.c x.d y.p y.q y.r y.s + q2 x.p x.q x.r x.s y.a y.b y.c y.d, q3 x.a x.b x.c x.d y.p y.q y.r y.s + q3 x.p x.q x.r x.s y.a y.b y.c y.d, q4 x.a x.b x.c x.d y.p y.q y.r y.s + q4 x.p x.q x.r x.s y.a y.b y.c y.d⟩
def PMul (x y : R8) : Prop := ∃ n, 16 * n + 7 ≤ 3990 ∧ x.Z n ∧ y.Z n
def mirR (x : R8) : R8 := ⟨x.a, -x.b, -x.c, -x.d, x.p, -x.q, -x.r, -x.s⟩
def negR (x : R8) : R8 := ⟨-x.a, -x.b, -x.c, -x.d, -x.p, -x.q, -x.r, -x.s⟩
def addR (x y : R8) : R8 := ⟨x.a + y.a, x.b + y.b, x.c + y.c, x.d + y.d, x.p + y.p, x.q + y.q, x.r + y.r, x.s + y.s⟩
def subR (x y : R8) : R8 := ⟨x.a - y.a, x.b - y.b, x.c - y.c, x.d - y.d, x.p - y.p, x.q - y.q, x.r - y.r, x.s - y.s⟩
def byR (x : R8) (t : Rat) : R8 := ⟨x.a * t, x.b * t, x.c * t, x.d * t, x.p * t, x.q * t, x.r * t, x.s * t⟩
def P2 (x y : R8) : Prop := x.Z 3990 ∧ y.Z 3990
def PN (x : R8) (t : Rat) : Prop := x.Z 3990 ∧ Sz 3990 t
def PD (x : R8) : Prop := ∃ n, 8 * n + 3 ≤ 3980 ∧ x.Z n
def dotR (a b c d p q r s : Rat) : Rat := a * p + b * q + c * r + d * s
def nouB (a b c d : Rat) : Bool := [a.num.sign == 0, b.num.sign == 0, c.num.sign == 0, d.num.sign == 0].all id
def nouB3 (b c d : Rat) : Bool := [b.num.sign == 0, c.num.sign == 0, d.num.sign == 0].all id
def poseB (x : R8) : Bool := !nouB x.a x.b x.c x.d && (dotR x.a x.b x.c x.d x.p x.q x.r x.s).num.sign == 0
def hingeB (x : R8) : Bool := !nouB3 x.b x.c x.d && (x.b * x.q + x.c * x.r + x.d * x.s).num.sign == 0 && x.p.num.sign == 0
abbrev sMirrorE : OL := sE1 (fun x => x.Z 3990) fun x => (mirR x).D
abbrev sNegE : OL := sE1 (fun x => x.Z 3990) fun x => (negR x).D
abbrev sAddE : OL := sE2 P2 fun x y => (addR x y).D
abbrev sSubE : OL := sE2 P2 fun x y => (subR x y).D
abbrev sMulE : OL := sE2 PMul fun x y => (mulR x y).D
abbrev sTimesE : OL := sEN PN fun x t => (byR x t).D
abbrev sUndoneE : OL := sE1 PUnd fun x => (undR x).D
abbrev sNormE : OL := sE1 PD fun x => .tup [.rat (nrm x.a x.b x.c x.d), .rat (dotR x.a x.b x.c x.d x.p x.q x.r x.s * ((2 : Int) : Rat))]
abbrev sFirst : OL := sE1 (fun _ => True) fun x => r4r x.a x.b x.c x.d
abbrev sSecond : OL := sE1 (fun _ => True) fun x => r4r x.p x.q x.r x.s
abbrev sPoseE : OL := sE1 PD fun x => .bl (poseB x)
abbrev sHingeE : OL := sE1 PD fun x => .bl (hingeB x)
abbrev sReprE : OL := sE1 (fun x => x.Z 1900) fun x => .str (e8Text x)
def sCheckE : OL := pureS fun ws => match ws with
  | [.t (.ins 1 [x, y])] => some (True, .t .non)
  | _ => none
theorem mul_sz {x y : R8} (h : PMul x y) : B8 x.a x.b x.c x.d y.a y.b y.c y.d ∧ B8 x.a x.b x.c x.d y.p y.q y.r y.s ∧ B8 x.p x.q x.r x.s y.a y.b y.c y.d ∧
    pSz (q1 x.a x.b x.c x.d y.p y.q y.r y.s) (q1 x.p x.q x.r x.s y.a y.b y.c y.d) ∧ pSz (q2 x.a x.b x.c x.d y.p y.q y.r y.s) (q2 x.p x.q x.r x.s y.a y.b y.c y.d) ∧ pSz (q3 x.a x.b x.c x.d y.p y.q y.r y.s) (q3 x.p x.q x.r x.s y.a y.b y.c y.d) ∧ pSz (q4 x.a x.b x.c x.d y.p y.q y.r y.s) (q4 x.p x.q x.r x.s y.a y.b y.c y.d) := by
  obtain ⟨n, hn, hx, hy⟩ := h
  have z1 : ∀ {a b c d p q r s : Rat}, Sz n a → Sz n b → Sz n c → Sz n d → Sz n p → Sz n q → Sz n r → Sz n s → Sz 3990 (q1 a b c d p q r s) ∧ Sz 3990 (q2 a b c d p q r s) ∧ Sz 3990 (q3 a b c d p q r s) ∧ Sz 3990 (q4 a b c d p q r s) := fun ha hb hc hd hp hq hr hs => by
    unfold q1 q2 q3 q4
    exact ⟨((((ha.mul hp).sub (hb.mul hq)).sub (hc.mul hr)).sub (hd.mul hs)).up (by omega), ((((ha.mul hq).add (hb.mul hp)).add (hc.mul hs)).sub (hd.mul hr)).up (by omega), ((((ha.mul hr).sub (hb.mul hs)).add (hc.mul hp)).add (hd.mul hq)).up (by omega), ((((ha.mul hs).add (hb.mul hr)).sub (hc.mul hq)).add (hd.mul hp)).up (by omega)⟩
  have e1 := z1 hx.a hx.b hx.c hx.d hy.p hy.q hy.r hy.s
  have e2 := z1 hx.p hx.q hx.r hx.s hy.a hy.b hy.c hy.d
  exact ⟨⟨n, by omega, hx.a, hx.b, hx.c, hx.d, hy.a, hy.b, hy.c, hy.d⟩, ⟨n, by omega, hx.a, hx.b, hx.c, hx.d, hy.p, hy.q, hy.r, hy.s⟩, ⟨n, by omega, hx.p, hx.q, hx.r, hx.s, hy.a, hy.b, hy.c, hy.d⟩,
    ⟨e1.1, e2.1⟩, ⟨e1.2.1, e2.2.1⟩, ⟨e1.2.2.1, e2.2.2.1⟩, ⟨e1.2.2.2, e2.2.2.2⟩⟩
end
end Hw
namespace Hw
open PySem L2
/-! ### eights of ints, as the laws draw them -/
structure I8 where
  a : Int
  b : Int
  c : Int
  d : Int
  p : Int
  q : Int
  r : Int
  s : Int
abbrev l4 (a b c d : Int) : D := .lst [.int a, .int b, .int c, .int d]
abbrev I8.L (x : I8) : D := .lst [.int x.a, .int x.b, .int x.c, .int x.d, .int x.p, .int x.q, .int x.r, .int x.s]
structure I8.In (k : Int) (x : I8) : Prop where
  a : Lim k x.a
  b : Lim k x.b
  c : Lim k x.c
  d : Lim k x.d
  p : Lim k x.p
  q : Lim k x.q
  r : Lim k x.r
  s : Lim k x.s
structure I8.Z (n : Nat) (x : I8) : Prop where
  f : S4 n x.a x.b x.c x.d
  g : S4 n x.p x.q x.r x.s
theorem I8.Z.up {n m : Nat} {x : I8} (h : x.Z n) (k : n ≤ m) : x.Z m := ⟨h.f.up k, h.g.up k⟩
theorem I8.In.z {k : Int} {n : Nat} {x : I8} (h : x.In k) (hk : k.natAbs < 2 ^ n) : x.Z n := ⟨S4.lim h.a h.b h.c h.d hk, S4.lim h.p h.q h.r h.s hk⟩
theorem Lim.up {k m v : Int} (h : Lim k v) (hk : k ≤ m) : Lim m v := ⟨by have := h.1; omega, by have := h.2; omega⟩
theorem I8.In.up {k m : Int} {x : I8} (h : x.In k) (hk : k ≤ m) : x.In m := ⟨h.a.up hk, h.b.up hk, h.c.up hk, h.d.up hk, h.p.up hk, h.q.up hk, h.r.up hk, h.s.up hk⟩
/-- .. over a bottom -/
abbrev e8 (x : I8) (A : Int) : R8 := ⟨mkR x.a A, mkR x.b A, mkR x.c A, mkR x.d A, mkR x.p A, mkR x.q A, mkR x.r A, mkR x.s A⟩
theorem e8_z {n m : Nat} {x : I8} {A : Int} (hA : A ≠ 0) (z : x.Z n) (zA : Si n A) (k : n ≤ m) : (e8 x A).Z m :=
  ⟨(mk_sz hA z.f.a zA).up k, (mk_sz hA z.f.b zA).up k, (mk_sz hA z.f.c zA).up k, (mk_sz hA z.f.d zA).up k, (mk_sz hA z.g.a zA).up k, (mk_sz hA z.g.b zA).up k, (mk_sz hA z.g.c zA).up k, (mk_sz hA z.g.d zA).up k⟩
/-- the same over another bottom -/
structure Same8 (x : I8) (A : Int) (y : I8) (B : Int) : Prop where
  a : x.a * B = y.a * A
  b : x.b * B = y.b * A
  c : x.c * B = y.c * A
  d : x.d * B = y.d * A
  p : x.p * B = y.p * A
  q : x.q * B = y.q * A
  r : x.r * B = y.r * A
  s : x.s * B = y.s * A
theorem e8_same {x y : I8} {A B : Int} (hA : A ≠ 0) (hB : B ≠ 0) (h : Same8 x A y B) : e8 x A = e8 y B := by
  unfold e8
  rw [mk_same hA hB h.a, mk_same hA hB h.b, mk_same hA hB h.c, mk_same hA hB h.d, mk_same hA hB h.p, mk_same hA hB h.q, mk_same hA hB h.r, mk_same hA hB h.s]
def i1 (a b c d p q r s : Int) : Int := a * p - b * q - c * r - d * s
def i2 (a b c d p q r s : Int) : Int := a * q + b * p + c * s - d * r
def i3 (a b c d p q r s : Int) : Int := a * r - b * s + c * p + d * q
def i4 (a b c d p q r s : Int) : Int := a * s + b * r - c * q + d * p
def mulI (x y : I8) : I8 := ⟨i1 x.a x.b x.c x.d y.a y.b y.c y.d, i2 x.a x.b x.c x.d y.a y.b y.c y.d, i3 x.a x.b x.c x.d y.a y.b y.c y.d, i4 x.a x.b x.c x.d y.a y.b y.c y.d,
  i1 x.a x.b x.c x.d y.p y.q y.r y.s + i1 x.p x.q x.r x.s y.a y.b y.c y.d, i2 x.a x.b x.c x.d y.p y.q y.r y.s + i2 x.p x.q x.r x.s y.a y.b y.c y.d, i3 x.a x.b x.c x.d y.p y.q y.r y.s + i3 x.p x.q x.r x.s y.a y.b y.c y.d, i4 x.a x.b x.c x.d y.p y.q y.r y.s + i4 x.p x.q x.r x.s y.a y.b y.c y.d⟩
def mirI (x : I8) : I8 := ⟨x.a, 0 - x.b, 0 - x.c, 0 - x.d, x.p, 0 - x.q, 0 - x.r, 0 - x.s⟩
@[reducible] def negI (x : I8) : I8 := ⟨0 - x.a, 0 - x.b, 0 - x.c, 0 - x.d, 0 - x.p, 0 - x.q, 0 - x.r, 0 - x.s⟩
@[reducible] def addI (x : I8) (A : Int) (y : I8) (B : Int) : I8 := ⟨x.a * B + y.a * A, x.b * B + y.b * A, x.c * B + y.c * A, x.d * B + y.d * A, x.p * B + y.p * A, x.q * B + y.q * A, x.r * B + y.r * A, x.s * B + y.s * A⟩
@[reducible] def subI (x : I8) (A : Int) (y : I8) (B : Int) : I8 := ⟨x.a * B - y.a * A, x.b * B - y.b * A, x.c * B - y.c * A, x.d * B - y.d * A, x.p * B - y.p * A, x.q * B - y.q * A, x.r * B - y.r * A, x.s * B - y.s * A⟩
@[reducible] def byI (x : I8) (t : Int) : I8 := ⟨t * x.a, t * x.b, t * x.c, t * x.d, t * x.p, t * x.q, t * x.r, t * x.s⟩
theorem q1_mk {a b c d p q r s A B : Int} : q1 (mkR a A) (mkR b A) (mkR c A) (mkR d A) (mkR p B) (mkR q B) (mkR r B) (mkR s B) = mkR (i1 a b c d p q r s) (A * B) := by
  unfold q1 i1; simp only [mk_mul, mk_sub1, mk_add1]
theorem q2_mk {a b c d p q r s A B : Int} : q2 (mkR a A) (mkR b A) (mkR c A) (mkR d A) (mkR p B) (mkR q B) (mkR r B) (mkR s B) = mkR (i2 a b c d p q r s) (A * B) := by
  unfold q2 i2; simp only [mk_mul, mk_sub1, mk_add1]
theorem q3_mk {a b c d p q r s A B : Int} : q3 (mkR a A) (mkR b A) (mkR c A) (mkR d A) (mkR p B) (mkR q B) (mkR r B) (mkR s B) = mkR (i3 a b c d p q r s) (A * B) := by
  unfold q3 i3; simp only [mk_mul, mk_sub1, mk_add1]
theorem q4_mk {a b c d p q r s A B : Int} : q4 (mkR a A) (mkR b A) (mkR c A) (mkR d A) (mkR p B) (mkR q B) (mkR r B) (mkR s B) = mkR (i4 a b c d p q r s) (A * B) := by
  unfold q4 i4; simp only [mk_mul, mk_sub1, mk_add1]
theorem mulR_mk {x y : I8} {A B : Int} : mulR (e8 x A) (e8 y B) = e8 (mulI x y) (A * B) := by
  unfold mulR e8 mulI
  simp only [q1_mk, q2_mk, q3_mk, q4_mk, mk_add1]
theorem mirR_mk {x : I8} {A : Int} : mirR (e8 x A) = e8 (mirI x) A := by
  unfold mirR e8 mirI
  simp only [mk_neg1]
theorem negR_mk {x : I8} {A : Int} : negR (e8 x A) = e8 (negI x) A := by
  unfold negR e8 negI
  simp only [mk_neg1]
theorem mk_add2 {a b A B : Int} (hA : A ≠ 0) (hB : B ≠ 0) : mkR a A + mkR b B = mkR (a * B + b * A) (A * B) := mkR_add hA hB
theorem mk_sub2 {a b A B : Int} (hA : A ≠ 0) (hB : B ≠ 0) : mkR a A - mkR b B = mkR (a * B - b * A) (A * B) := mkR_sub hA hB
theorem addR_mk {x y : I8} {A B : Int} (hA : A ≠ 0) (hB : B ≠ 0) : addR (e8 x A) (e8 y B) = e8 (addI x A y B) (A * B) := by
  unfold addR e8 addI
  simp only [mk_add2 hA hB]
theorem subR_mk {x y : I8} {A B : Int} (hA : A ≠ 0) (hB : B ≠ 0) : subR (e8 x A) (e8 y B) = e8 (subI x A y B) (A * B) := by
  unfold subR e8 subI
  simp only [mk_sub2 hA hB]
theorem byR_mk {x : I8} {A t B : Int} : byR (e8 x A) (mkR t B) = e8 (byI x t) (A * B) := by
  unfold byR e8 byI
  simp only [mk_mul, Int.mul_comm t]
theorem mulI_z {n m : Nat} {x y : I8} (hx : x.Z n) (hy : y.Z m) : (mulI x y).Z (n + m + 4) := by
  have f := hx.f.prod hy.f
  have g := hx.f.prod hy.g
  have h := hx.g.prod hy.f
  exact ⟨f.up (by omega), ⟨(g.a.add h.a), (g.b.add h.b), (g.c.add h.c), (g.d.add h.d)⟩⟩
section
variable {x y : I8} {A B : Int} {n m nc : Nat} {base : O2}
theorem si_neg {n : Nat} {i : Int} (h : Si n i) : Si n (0 - i) := by rw [Int.zero_sub]; exact h.neg
theorem mirI_z (h : x.Z n) : (mirI x).Z n := ⟨h.f.mirror, h.g.mirror⟩
theorem negI_z (h : x.Z n) : (negI x).Z n := ⟨⟨si_neg h.f.a, si_neg h.f.b, si_neg h.f.c, si_neg h.f.d⟩, ⟨si_neg h.g.a, si_neg h.g.b, si_neg h.g.c, si_neg h.g.d⟩⟩
theorem addI_z (hx : x.Z n) (hy : y.Z n) (zA : Si m A) (zB : Si m B) : (addI x A y B).Z (n + m + 1) :=
  ⟨⟨(hx.f.a.mul zB).add (hy.f.a.mul zA), (hx.f.b.mul zB).add (hy.f.b.mul zA), (hx.f.c.mul zB).add (hy.f.c.mul zA), (hx.f.d.mul zB).add (hy.f.d.mul zA)⟩, ⟨(hx.g.a.mul zB).add (hy.g.a.mul zA), (hx.g.b.mul zB).add (hy.g.b.mul zA), (hx.g.c.mul zB).add (hy.g.c.mul zA), (hx.g.d.mul zB).add (hy.g.d.mul zA)⟩⟩
theorem subI_z (hx : x.Z n) (hy : y.Z n) (zA : Si m A) (zB : Si m B) : (subI x A y B).Z (n + m + 1) :=
  ⟨⟨(hx.f.a.mul zB).sub (hy.f.a.mul zA), (hx.f.b.mul zB).sub (hy.f.b.mul zA), (hx.f.c.mul zB).sub (hy.f.c.mul zA), (hx.f.d.mul zB).sub (hy.f.d.mul zA)⟩, ⟨(hx.g.a.mul zB).sub (hy.g.a.mul zA), (hx.g.b.mul zB).sub (hy.g.b.mul zA), (hx.g.c.mul zB).sub (hy.g.c.mul zA), (hx.g.d.mul zB).sub (hy.g.d.mul zA)⟩⟩
theorem byI_z {t : Int} (hx : x.Z n) (ht : Si m t) : (byI x t).Z (m + n) :=
  ⟨⟨ht.mul hx.f.a, ht.mul hx.f.b, ht.mul hx.f.c, ht.mul hx.f.d⟩, ⟨ht.mul hx.g.a, ht.mul hx.g.b, ht.mul hx.g.c, ht.mul hx.g.d⟩⟩
/-! answers of the class's defs -/
theorem mul8 (hA : A ≠ 0) (hB : B ≠ 0) (zx : x.Z n) (zy : y.Z n) (zA : Si n A) (zB : Si n B) (hn : 16 * n + 7 ≤ 3990) : Told sMulE [.t (e8 x A).D, .t (e8 y B).D] (e8 (mulI x y) (A * B)).D :=
  ⟨fun C Q z => e2_go ⟨n, hn, e8_z hA zx zA (Nat.le_refl _), e8_z hB zy zB (Nat.le_refl _)⟩ (by rw [mulR_mk]; exact z)⟩
theorem add8 (hA : A ≠ 0) (hB : B ≠ 0) (zx : x.Z n) (zy : y.Z n) (zA : Si n A) (zB : Si n B) (hn : n ≤ 3990) : Told sAddE [.t (e8 x A).D, .t (e8 y B).D] (e8 (addI x A y B) (A * B)).D :=
  ⟨fun C Q z => e2_go ⟨e8_z hA zx zA hn, e8_z hB zy zB hn⟩ (by rw [addR_mk hA hB]; exact z)⟩
theorem sub8 (hA : A ≠ 0) (hB : B ≠ 0) (zx : x.Z n) (zy : y.Z n) (zA : Si n A) (zB : Si n B) (hn : n ≤ 3990) : Told sSubE [.t (e8 x A).D, .t (e8 y B).D] (e8 (subI x A y B) (A * B)).D :=
  ⟨fun C Q z => e2_go ⟨e8_z hA zx zA hn, e8_z hB zy zB hn⟩ (by rw [subR_mk hA hB]; exact z)⟩
theorem neg8 (hA : A ≠ 0) (zx : x.Z n) (zA : Si n A) (hn : n ≤ 3990) : Told sNegE [.t (e8 x A).D] (e8 (negI x) A).D :=
  ⟨fun C Q z => e1_go (e8_z hA zx zA hn) (by rw [negR_mk]; exact z)⟩
theorem mir8 (hA : A ≠ 0) (zx : x.Z n) (zA : Si n A) (hn : n ≤ 3990) : Told sMirrorE [.t (e8 x A).D] (e8 (mirI x) A).D :=
  ⟨fun C Q z => e1_go (e8_z hA zx zA hn) (by rw [mirR_mk]; exact z)⟩
theorem by8 {d : D} {t : Int} (hd : NumOk d (mkR t B)) (hA : A ≠ 0) (hB : B ≠ 0) (zx : x.Z n) (zA : Si n A) (zt : Si n t) (zB : Si n B) (hn : n ≤ 3990) : Told sTimesE [.t (e8 x A).D, .t d] (e8 (byI x t) (A * B)).D :=
  ⟨fun C Q z => en_go hd ⟨e8_z hA zx zA hn, (mk_sz hB zt zB).up hn⟩ (by rw [byR_mk]; exact z)⟩
theorem first8 : Told sFirst [.t (e8 x A).D] (r4 x.a x.b x.c x.d A) := ⟨fun C Q z => e1_go trivial z⟩
theorem second8 : Told sSecond [.t (e8 x A).D] (r4 x.p x.q x.r x.s A) := ⟨fun C Q z => e1_go trivial z⟩
theorem norm8 (hA : A ≠ 0) (zx : x.Z n) (zA : Si n A) (hn : 8 * n + 3 ≤ 3980) : Told sNormE [.t (e8 x A).D] (.tup [.rat (mkR (x.a * x.a + x.b * x.b + x.c * x.c + x.d * x.d) (A * A)), .rat (mkR (2 * (x.a * x.p + x.b * x.q + x.c * x.r + x.d * x.s)) (A * A))]) := by
  refine ⟨fun C Q z => e1_go ⟨n, hn, e8_z hA zx zA (Nat.le_refl _)⟩ ?_⟩
  have e : dotR (mkR x.a A) (mkR x.b A) (mkR x.c A) (mkR x.d A) (mkR x.p A) (mkR x.q A) (mkR x.r A) (mkR x.s A) * ((2 : Int) : Rat) = mkR (2 * (x.a * x.p + x.b * x.q + x.c * x.r + x.d * x.s)) (A * A) := by
    unfold dotR
    simp only [mk_mul, mk_add1]
    rw [mkR_mulw (Int.mul_ne_zero hA hA), Int.mul_comm]
  show Q (.t (.tup [.rat (nrm (mkR x.a A) (mkR x.b A) (mkR x.c A) (mkR x.d A)), .rat (dotR (mkR x.a A) (mkR x.b A) (mkR x.c A) (mkR x.d A) (mkR x.p A) (mkR x.q A) (mkR x.r A) (mkR x.s A) * ((2 : Int) : Rat))])) C
  rw [nrm_mk, e]
  exact z
theorem eqE8_self (x : R8) : eqE8 x x.D = true := by
  unfold eqE8
  simp
theorem eqE8_R (x y : R8) : eqE8 x y.D = decide (x = y) := by
  show (decide (x.a = y.a ∧ x.b = y.b ∧ x.c = y.c ∧ x.d = y.d) && decide (x.p = y.p ∧ x.q = y.q ∧ x.r = y.r ∧ x.s = y.s)) = _
  cases x
  cases y
  simp [and_assoc, Bool.and_assoc]
/-- two eights that are the same, as != sees them -/
theorem ne8 {xr yr : R8} (h : xr = yr) (h1 : 1 < nc) : Told2 (eqE nc true (sEqE nc) base) (.t xr.D) (.t yr.D) (.bl false) := by
  subst h
  refine ⟨fun C Q z => ⟨cok_e8 h1, eqE_go (.inl ⟨xr, rfl⟩) (cok_e8 h1) ⟨true, by rw [eqE8_self], z⟩⟩⟩
theorem eq8 {xr yr : R8} {b : Bool} (h : decide (xr = yr) = b) (h1 : 1 < nc) : Told2 (eqE nc false (sEqE nc) base) (.t xr.D) (.t yr.D) (.bl b) := by
  refine ⟨fun C Q z => ⟨cok_e8 h1, eqE_go (.inl ⟨yr, rfl⟩) (cok_e8 h1) ⟨b, by rw [eqE8_R, h], ?_⟩⟩⟩
  rw [Bool.bne_false]
  exact z
theorem eq8_no {xr : R8} {d : D} (h : isC 1 d = false) (h2 : cok nc d = true) : Told2 (eqE nc false (sEqE nc) base) (.t xr.D) (.t d) (.bl false) :=
  ⟨fun C Q z => ⟨h2, eqE_go (.inr h) h2 ⟨false, by rw [eqE8_no h], z⟩⟩⟩
end
end Hw
namespace Hw
open PySem L2
/-! ### what the laws of eights draw and reckon -/
section
variable {G : Gc} {k j n nc : Nat}
theorem ints_of {P : Int → Prop} : ∀ {acc : List D}, (∀ d ∈ acc, ∃ v, d = .int v ∧ P v) → ∃ l : List Int, acc = l.map D.int ∧ ∀ v ∈ l, P v
  | [], _ => ⟨[], rfl, by simp⟩
  | d :: acc, h => by
    obtain ⟨v, rfl, hv⟩ := h d (List.mem_cons_self ..)
    obtain ⟨l, rfl, hl⟩ := ints_of (acc := acc) fun e he => h e (List.mem_cons_of_mem _ he)
    exact ⟨v :: l, rfl, fun u hu => by
      rcases List.mem_cons.mp hu with rfl | hw
      · exact hv
      · exact hl u hw⟩
theorem Lim.mul {k m a b : Int} (ha : Lim k a) (hb : Lim m b) : Lim (k * m) (a * b) := by
  obtain ⟨a1, a2⟩ := ha
  obtain ⟨b1, b2⟩ := hb
  have hk : 0 ≤ k := by omega
  have hm : 0 ≤ m := by omega
  have e1 : a.natAbs ≤ k.natAbs := by omega
  have e2 : b.natAbs ≤ m.natAbs := by omega
  have e3 : (a * b).natAbs ≤ (k * m).natAbs := by
    rw [Int.natAbs_mul, Int.natAbs_mul]
    exact Nat.mul_le_mul e1 e2
  have e4 : 0 ≤ k * m := Int.mul_nonneg hk hm
  constructor <;> omega
theorem Lim.add {k m a b : Int} (ha : Lim k a) (hb : Lim m b) : Lim (k + m) (a + b) := ⟨by have := ha.1; have := hb.1; omega, by have := ha.2; have := hb.2; omega⟩
theorem Lim.sub {k m a b : Int} (ha : Lim k a) (hb : Lim m b) : Lim (k + m) (a - b) := ⟨by have := ha.1; have := hb.2; omega, by have := ha.2; have := hb.1; omega⟩
theorem lim_two {a : Int} (ha : Lim 2 a) : Lim 24 (2 * a) := ⟨by have := ha.1; omega, by have := ha.2; omega⟩
theorem lim_cross {a b c d : Int} (ha : Lim 3 a) (hb : Lim 2 b) (hc : Lim 3 c) (hd : Lim 2 d) : Lim 12 (a * b - c * d) := (ha.mul hb).sub (hc.mul hd)
theorem lim_four {a b c d p q r s : Int} (ha : Lim 3 a) (hb : Lim 3 b) (hc : Lim 3 c) (hd : Lim 3 d) (hp : Lim 2 p) (hq : Lim 2 q) (hr : Lim 2 r) (hs : Lim 2 s) :
    Lim 24 (a * p - b * q - c * r - d * s) ∧ Lim 24 (a * q + b * p + c * s - d * r) ∧ Lim 24 (a * r - b * s + c * p + d * q) ∧ Lim 24 (a * s + b * r - c * q + d * p) :=
  ⟨(((ha.mul hp).sub (hb.mul hq)).sub (hc.mul hr)).sub (hd.mul hs), (((ha.mul hq).add (hb.mul hp)).add (hc.mul hs)).sub (hd.mul hr), (((ha.mul hr).sub (hb.mul hs)).add (hc.mul hp)).add (hd.mul hq), (((ha.mul hs).add (hb.mul hr)).sub (hc.mul hq)).add (hd.mul hp)⟩
/-- so many ints between -k and k -/
@[irreducible] def sRowN : OL := fun ws A Q => match ws with
  | [.loc j, .t (.int n), .t (.int k)] => (n = 3 ∨ n = 4 ∨ n = 8) ∧ Pot A j ∧ (0 ≤ k ∧ k < 100) ∧ ∀ A' (l : List Int), Pot A' j → Kp A A' j → l.length = n.toNat → (∀ v ∈ l, Lim k v) → Q (.t (.lst (l.map D.int))) A'
  | _ => False
theorem mon_rowN : MonL sRowN := fun ws A Q Q' k h => by
  unfold sRowN at h ⊢
  split at h
  · exact ⟨h.1, h.2.1, h.2.2.1, fun A' l h1 h2 h3 h4 => k _ _ (h.2.2.2 A' l h1 h2 h3 h4)⟩
  · exact h.elim
theorem row3_go {A : AH} {j : Nat} {k : Int} {Q : WK} (hp : Pot A j) (hk : 0 ≤ k ∧ k < 100) (z : ∀ A' a b c, Pot A' j → Kp A A' j → Lim k a → Lim k b → Lim k c → Q (.t (.lst [.int a, .int b, .int c])) A') : sRowN [.loc j, .t (.int 3), .t (.int k)] A Q := by
  unfold sRowN
  refine ⟨.inl rfl, hp, hk, fun A' l h1 h2 h3 h4 => ?_⟩
  match l, h3 with
  | [a, b, c], _ => exact z A' a b c h1 h2 (h4 a (by simp)) (h4 b (by simp)) (h4 c (by simp))
theorem row4_go {A : AH} {j : Nat} {k : Int} {Q : WK} (hp : Pot A j) (hk : 0 ≤ k ∧ k < 100) (z : ∀ A' a b c d, Pot A' j → Kp A A' j → Lim k a → Lim k b → Lim k c → Lim k d → Q (.t (l4 a b c d)) A') : sRowN [.loc j, .t (.int 4), .t (.int k)] A Q := by
  unfold sRowN
  refine ⟨.inr (.inl rfl), hp, hk, fun A' l h1 h2 h3 h4 => ?_⟩
  match l, h3 with
  | [a, b, c, d], _ => exact z A' a b c d h1 h2 (h4 a (by simp)) (h4 b (by simp)) (h4 c (by simp)) (h4 d (by simp))
theorem row8_go {A : AH} {j : Nat} {k : Int} {Q : WK} (hp : Pot A j) (hk : 0 ≤ k ∧ k < 100) (z : ∀ A' (x : I8), Pot A' j → Kp A A' j → x.In k → Q (.t x.L) A') : sRowN [.loc j, .t (.int 8), .t (.int k)] A Q := by
  unfold sRowN
  refine ⟨.inr (.inr rfl), hp, hk, fun A' l h1 h2 h3 h4 => ?_⟩
  match l, h3 with
  | [a, b, c, d, p, q, r, s], _ => exact z A' ⟨a, b, c, d, p, q, r, s⟩ h1 h2 ⟨h4 a (by simp), h4 b (by simp), h4 c (by simp), h4 d (by simp), h4 p (by simp), h4 q (by simp), h4 r (by simp), h4 s (by simp)⟩
/-- .. not all of them nought -/
@[irreducible] def sFilled : OL := fun ws A Q => match ws with
  | [.loc j, .t (.int n), .t (.int k)] => (n = 3 ∨ n = 4) ∧ Pot A j ∧ (0 < k ∧ k < 100) ∧ ∀ A' (l : List Int), Pot A' j → Kp A A' j → l.length = n.toNat → (∀ v ∈ l, Lim k v) → (∃ v ∈ l, v ≠ 0) → Q (.t (.lst (l.map D.int))) A'
  | _ => False
theorem mon_filled : MonL sFilled := fun ws A Q Q' k h => by
  unfold sFilled at h ⊢
  split at h
  · exact ⟨h.1, h.2.1, h.2.2.1, fun A' l h1 h2 h3 h4 h5 => k _ _ (h.2.2.2 A' l h1 h2 h3 h4 h5)⟩
  · exact h.elim
theorem fill_cases {ws : List W} {A : AH} {Q : WK} (h : sFilled ws A Q) : ∃ (j : Nat) (n k : Int), ws = [.loc j, .t (.int n), .t (.int k)] ∧ (n = 3 ∨ n = 4) ∧ Pot A j ∧ (0 < k ∧ k < 100) ∧ ∀ A' (l : List Int), Pot A' j → Kp A A' j → l.length = n.toNat → (∀ v ∈ l, Lim k v) → (∃ v ∈ l, v ≠ 0) → Q (.t (.lst (l.map D.int))) A' := by
  unfold sFilled at h
  split at h
  · exact ⟨_, _, _, rfl, h⟩
  · exact h.elim
theorem rown_cases {ws : List W} {A : AH} {Q : WK} (h : sRowN ws A Q) : ∃ (j : Nat) (n k : Int), ws = [.loc j, .t (.int n), .t (.int k)] ∧ (n = 3 ∨ n = 4 ∨ n = 8) ∧ Pot A j ∧ (0 ≤ k ∧ k < 100) ∧ ∀ A' (l : List Int), Pot A' j → Kp A A' j → l.length = n.toNat → (∀ v ∈ l, Lim k v) → Q (.t (.lst (l.map D.int))) A' := by
  unfold sRowN at h
  split at h
  · exact ⟨_, _, _, rfl, h⟩
  · exact h.elim
theorem fill3_go {A : AH} {j : Nat} {k : Int} {Q : WK} (hp : Pot A j) (hk : 0 < k ∧ k < 100) (z : ∀ A' a b c, Pot A' j → Kp A A' j → Lim k a → Lim k b → Lim k c → (a ≠ 0 ∨ b ≠ 0 ∨ c ≠ 0) → Q (.t (.lst [.int a, .int b, .int c])) A') : sFilled [.loc j, .t (.int 3), .t (.int k)] A Q := by
  unfold sFilled
  refine ⟨.inl rfl, hp, hk, fun A' l h1 h2 h3 h4 h5 => ?_⟩
  match l, h3 with
  | [a, b, c], _ =>
    refine z A' a b c h1 h2 (h4 a (by simp)) (h4 b (by simp)) (h4 c (by simp)) ?_
    obtain ⟨v, hv, hn⟩ := h5
    simp only [List.mem_cons, List.not_mem_nil, or_false] at hv
    rcases hv with rfl | rfl | rfl
    · exact .inl hn
    · exact .inr (.inl hn)
    · exact .inr (.inr hn)
theorem fill4_go {A : AH} {j : Nat} {k : Int} {Q : WK} (hp : Pot A j) (hk : 0 < k ∧ k < 100) (z : ∀ A' a b c d, Pot A' j → Kp A A' j → Lim k a → Lim k b → Lim k c → Lim k d → (a ≠ 0 ∨ b ≠ 0 ∨ c ≠ 0 ∨ d ≠ 0) → Q (.t (l4 a b c d)) A') : sFilled [.loc j, .t (.int 4), .t (.int k)] A Q := by
  unfold sFilled
  refine ⟨.inr rfl, hp, hk, fun A' l h1 h2 h3 h4 h5 => ?_⟩
  match l, h3 with
  | [a, b, c, d], _ =>
    refine z A' a b c d h1 h2 (h4 a (by simp)) (h4 b (by simp)) (h4 c (by simp)) (h4 d (by simp)) ?_
    obtain ⟨v, hv, hn⟩ := h5
    simp only [List.mem_cons, List.not_mem_nil, or_false] at hv
    rcases hv with rfl | rfl | rfl | rfl
    · exact .inl hn
    · exact .inr (.inl hn)
    · exact .inr (.inr (.inl hn))
    · exact .inr (.inr (.inr hn))
/-- eight ints that are drawn -/
@[irreducible] def sDrawn8 (k : Int) : OL := fun ws A Q => match ws with
  | [.loc j] => Pot A j ∧ ∀ A' (x : I8), Pot A' j → Kp A A' j → x.In k → Q (.t x.L) A'
  | _ => False
theorem mon_drawn8 {k : Int} : MonL (sDrawn8 k) := fun ws A Q Q' kk h => by
  unfold sDrawn8 at h ⊢
  split at h
  · exact ⟨h.1, fun A' x h1 h2 h3 => kk _ _ (h.2 A' x h1 h2 h3)⟩
  · exact h.elim
theorem drawn8_cases {k : Int} {ws : List W} {A : AH} {Q : WK} (h : sDrawn8 k ws A Q) : ∃ j : Nat, ws = [.loc j] ∧ Pot A j ∧ ∀ A' (x : I8), Pot A' j → Kp A A' j → x.In k → Q (.t x.L) A' := by
  unfold sDrawn8 at h
  split at h
  · exact ⟨_, rfl, h⟩
  · exact h.elim
theorem drawn8_go {k : Int} {A : AH} {j : Nat} {Q : WK} (hp : Pot A j) (z : ∀ A' (x : I8), Pot A' j → Kp A A' j → x.In k → Q (.t x.L) A') : sDrawn8 k [.loc j] A Q := by
  unfold sDrawn8; exact ⟨hp, z⟩
/-- a line: direction, point, moment -/
@[irreducible] def sLineD : OL := fun ws A Q => match ws with
  | [.loc j] => Pot A j ∧ ∀ A' (u v w x y z m1 m2 m3 : Int), Pot A' j → Kp A A' j → (Lim 2 u ∧ Lim 2 v ∧ Lim 2 w) → (Lim 3 x ∧ Lim 3 y ∧ Lim 3 z) → (Lim 12 m1 ∧ Lim 12 m2 ∧ Lim 12 m3) → Q (.t (.tup [.lst [.int u, .int v, .int w], .lst [.int x, .int y, .int z], .lst [.int m1, .int m2, .int m3]])) A'
  | _ => False
theorem mon_lineD : MonL sLineD := fun ws A Q Q' kk h => by
  unfold sLineD at h ⊢
  split at h
  · exact ⟨h.1, fun A' u v w x y z m1 m2 m3 h1 h2 h3 h4 h5 => kk _ _ (h.2 A' u v w x y z m1 m2 m3 h1 h2 h3 h4 h5)⟩
  · exact h.elim
theorem lineD_cases {ws : List W} {A : AH} {Q : WK} (h : sLineD ws A Q) : ∃ j : Nat, ws = [.loc j] ∧ Pot A j ∧ ∀ A' (u v w x y z m1 m2 m3 : Int), Pot A' j → Kp A A' j → (Lim 2 u ∧ Lim 2 v ∧ Lim 2 w) → (Lim 3 x ∧ Lim 3 y ∧ Lim 3 z) → (Lim 12 m1 ∧ Lim 12 m2 ∧ Lim 12 m3) → Q (.t (.tup [.lst [.int u, .int v, .int w], .lst [.int x, .int y, .int z], .lst [.int m1, .int m2, .int m3]])) A' := by
  unfold sLineD at h
  split at h
  · exact ⟨_, rfl, h⟩
  · exact h.elim
theorem lineD_go {A : AH} {j : Nat} {Q : WK} (hp : Pot A j) (k : ∀ A' (u v w x y z m1 m2 m3 : Int), Pot A' j → Kp A A' j → (Lim 2 u ∧ Lim 2 v ∧ Lim 2 w) → (Lim 3 x ∧ Lim 3 y ∧ Lim 3 z) → (Lim 12 m1 ∧ Lim 12 m2 ∧ Lim 12 m3) → Q (.t (.tup [.lst [.int u, .int v, .int w], .lst [.int x, .int y, .int z], .lst [.int m1, .int m2, .int m3]])) A') : sLineD [.loc j] A Q := by
  unfold sLineD; exact ⟨hp, k⟩
/-- ints over a bottom, passed as an eight -/
@[irreducible] def sAsE : OL := fun ws A Q => match ws with
  | [.loc j, .t d, .t (.int B)] => ∃ x : I8, d = x.L ∧ Pot A j ∧ (0 < B ∧ B < 100) ∧ x.In 1000 ∧ ∀ A', Pot A' j → Kp A A' j → Q (.t (e8 x B).D) A'
  | _ => False
theorem mon_asE : MonL sAsE := fun ws A Q Q' kk h => by
  unfold sAsE at h ⊢
  split at h
  · obtain ⟨x, h1, h2, h3, h4, h5⟩ := h; exact ⟨x, h1, h2, h3, h4, fun A' p1 p2 => kk _ _ (h5 A' p1 p2)⟩
  · exact h.elim
theorem asE_cases {ws : List W} {A : AH} {Q : WK} (h : sAsE ws A Q) : ∃ (j : Nat) (x : I8) (B : Int), ws = [.loc j, .t x.L, .t (.int B)] ∧ Pot A j ∧ (0 < B ∧ B < 100) ∧ x.In 1000 ∧ ∀ A', Pot A' j → Kp A A' j → Q (.t (e8 x B).D) A' := by
  unfold sAsE at h
  split at h
  · obtain ⟨x, rfl, h⟩ := h; exact ⟨_, x, _, rfl, h⟩
  · exact h.elim
theorem asE_go {A : AH} {j : Nat} {x : I8} {B : Int} {Q : WK} (hp : Pot A j) (hB : 0 < B ∧ B < 100) (hx : x.In 1000) (z : ∀ A', Pot A' j → Kp A A' j → Q (.t (e8 x B).D) A') : sAsE [.loc j, .t x.L, .t (.int B)] A Q := by
  unfold sAsE; exact ⟨x, rfl, hp, hB, hx, z⟩
/-! the law's own reckoning -/
def sCross : OL := pureS fun ws => match ws with
  | [.t (.lst [.int a, .int b, .int c]), .t (.lst [.int p, .int q, .int r])] => some ((Sm a ∧ Sm b ∧ Sm c) ∧ (Sm p ∧ Sm q ∧ Sm r), .t (.lst [.int (b * r - c * q), .int (c * p - a * r), .int (a * q - b * p)]))
  | _ => none
def sLDotN : OL := pureS fun ws => match ws with
  | [.t (.lst [.int a, .int b, .int c, .int d]), .t (.lst [.int p, .int q, .int r, .int s])] => some (Sm8 a b c d p q r s, .t (.int [a * p, b * q, c * r, d * s].sum))
  | [.t (.lst [.int a, .int b, .int c]), .t (.lst [.int p, .int q, .int r])] => some (Sm8 a b c 0 p q r 0, .t (.int [a * p, b * q, c * r].sum))
  | _ => none
/-- eight ints in, eight out -/
@[irreducible] def sI1 (P : I8 → Prop) (F : I8 → D) : OL := fun ws A Q => match ws with
  | [.t d] => ∃ x : I8, d = x.L ∧ P x ∧ Q (.t (F x)) A
  | _ => False
theorem mon_I1 {P : I8 → Prop} {F : I8 → D} : MonL (sI1 P F) := fun ws A Q Q' k h => by
  unfold sI1 at h ⊢
  split at h
  · obtain ⟨x, h1, h2, h3⟩ := h; exact ⟨x, h1, h2, k _ _ h3⟩
  · exact h.elim
theorem I1_cases {P : I8 → Prop} {F : I8 → D} {ws : List W} {A : AH} {Q : WK} (h : sI1 P F ws A Q) : ∃ x : I8, ws = [.t x.L] ∧ P x ∧ Q (.t (F x)) A := by
  unfold sI1 at h
  split at h
  · obtain ⟨x, rfl, h2, h3⟩ := h; exact ⟨x, rfl, h2, h3⟩
  · exact h.elim
theorem I1_go {P : I8 → Prop} {F : I8 → D} {x : I8} {A : AH} {Q : WK} (h : P x) (z : Q (.t (F x)) A) : sI1 P F [.t x.L] A Q := by
  unfold sI1; exact ⟨x, rfl, h, z⟩
@[irreducible] def sI2 (P : I8 → I8 → Prop) (F : I8 → I8 → D) : OL := fun ws A Q => match ws with
  | [.t d, .t e] => ∃ x y : I8, (d = x.L ∧ e = y.L) ∧ P x y ∧ Q (.t (F x y)) A
  | _ => False
theorem mon_I2 {P : I8 → I8 → Prop} {F : I8 → I8 → D} : MonL (sI2 P F) := fun ws A Q Q' k h => by
  unfold sI2 at h ⊢
  split at h
  · obtain ⟨x, y, h1, h2, h3⟩ := h; exact ⟨x, y, h1, h2, k _ _ h3⟩
  · exact h.elim
theorem I2_cases {P : I8 → I8 → Prop} {F : I8 → I8 → D} {ws : List W} {A : AH} {Q : WK} (h : sI2 P F ws A Q) : ∃ x y : I8, ws = [.t x.L, .t y.L] ∧ P x y ∧ Q (.t (F x y)) A := by
  unfold sI2 at h
  split at h
  · obtain ⟨x, y, ⟨rfl, rfl⟩, h2, h3⟩ := h; exact ⟨x, y, rfl, h2, h3⟩
  · exact h.elim
theorem I2_go {P : I8 → I8 → Prop} {F : I8 → I8 → D} {x y : I8} {A : AH} {Q : WK} (h : P x y) (z : Q (.t (F x y)) A) : sI2 P F [.t x.L, .t y.L] A Q := by
  unfold sI2; exact ⟨x, y, ⟨rfl, rfl⟩, h, z⟩
abbrev sLMirror8 : OL := sI1 (fun _ => True) fun x => (mirI x).L
abbrev sLEight : OL := sI2 (fun x y => x.Z 100 ∧ y.Z 100) fun x y => (mulI x y).L
/-- the law's eye on an eight -/
@[irreducible] def sSame : OL := fun ws A Q => match ws with
  | [.t d, .t (.int B), .t e] => ∃ x : I8, (d = (e8 x B).D ∧ e = x.L) ∧ (B ≠ 0 ∧ Si 3000 B ∧ x.Z 3000) ∧ Q (.t (.bl true)) A
  | _ => False
theorem mon_same : MonL sSame := fun ws A Q Q' k h => by
  unfold sSame at h ⊢
  split at h
  · obtain ⟨x, h1, h2, h3⟩ := h; exact ⟨x, h1, h2, k _ _ h3⟩
  · exact h.elim
theorem same_cases {ws : List W} {A : AH} {Q : WK} (h : sSame ws A Q) : ∃ (x : I8) (B : Int), ws = [.t (e8 x B).D, .t (.int B), .t x.L] ∧ (B ≠ 0 ∧ Si 3000 B ∧ x.Z 3000) ∧ Q (.t (.bl true)) A := by
  unfold sSame at h
  split at h
  · obtain ⟨x, ⟨rfl, rfl⟩, h2, h3⟩ := h; exact ⟨x, _, rfl, h2, h3⟩
  · exact h.elim
theorem same8 {x : I8} {B : Int} (hB : B ≠ 0) (zB : Si n B) (z : x.Z n) (hn : n ≤ 3000) : Told sSame [.t (e8 x B).D, .t (.int B), .t x.L] (.bl true) :=
  ⟨fun C Q q => by unfold sSame; exact ⟨x, ⟨rfl, rfl⟩, ⟨hB, zB.up hn, z.up hn⟩, q⟩⟩
end
end Hw
namespace Hw
open PySem L2
/-! ### texts and kinds of eights -/
section
variable {G : Gc} {k j n nc : Nat} {base : OL} {x : I8} {B : Int}
@[irreducible] def sShown8 : OL := fun ws A Q => match ws with
  | [.t (.int B), .t d] => ∃ x : I8, d = x.L ∧ (B ≠ 0 ∧ Si 1000 B ∧ x.Z 1000) ∧ Q (.t (.str (e8Text (e8 x B)))) A
  | _ => False
theorem mon_shown8 : MonL sShown8 := fun ws A Q Q' k h => by
  unfold sShown8 at h ⊢
  split at h
  · obtain ⟨x, h1, h2, h3⟩ := h; exact ⟨x, h1, h2, k _ _ h3⟩
  · exact h.elim
theorem shown8_cases {ws : List W} {A : AH} {Q : WK} (h : sShown8 ws A Q) : ∃ (x : I8) (B : Int), ws = [.t (.int B), .t x.L] ∧ (B ≠ 0 ∧ Si 1000 B ∧ x.Z 1000) ∧ Q (.t (.str (e8Text (e8 x B)))) A := by
  unfold sShown8 at h
  split at h
  · obtain ⟨x, rfl, h2, h3⟩ := h; exact ⟨x, _, rfl, h2, h3⟩
  · exact h.elim
theorem shown8_told (hB : B ≠ 0) (zB : Si n B) (zx : x.Z n) (hn : n ≤ 1000) : Told sShown8 [.t (.int B), .t x.L] (.str (e8Text (e8 x B))) :=
  ⟨fun C Q q => by unfold sShown8; exact ⟨x, rfl, ⟨hB, zB.up hn, zx.up hn⟩, q⟩⟩
theorem four_join {a b c d : Rat} (h1 : pStr a) (h2 : pStr b) (h3 : pStr c) (h4 : pStr d) : ∃ J, Str.join ", " [ratText a, ratText b, ratText c, ratText d] = J ∧ J.length ≤ 16100 ∧ ([ratText a, ratText b, ratText c, ratText d].map (·.length)).sum + [ratText a, ratText b, ratText c, ratText d].length * (", " : Str).length ≤ 16777216 := by
  have t1 := rtext_len h1
  have t2 := rtext_len h2
  have t3 := rtext_len h3
  have t4 := rtext_len h4
  have z2 : (", " : Str).length = 2 := by decide +kernel
  have lj := join_length_add [ratText a, ratText b, ratText c, ratText d] (by simp)
  simp only [piled_cons, piled_nil] at lj
  refine ⟨_, rfl, by omega, ?_⟩
  simp only [List.map_cons, List.map_nil, List.sum_cons, List.sum_nil, List.length_cons, List.length_nil, z2]
  omega
theorem text_eq {y : R8} {J1 J2 : Str} (h1 : Str.join ", " [ratText y.a, ratText y.b, ratText y.c, ratText y.d] = J1) (h2 : Str.join ", " [ratText y.p, ratText y.q, ratText y.r, ratText y.s] = J2) : e8Text y = ((("Eight((" : Str) ++ J1) ++ "), (" ++ J2) ++ "))" := by
  unfold e8Text fourText
  rw [h1, h2]
  have e1 : ("Eight((" : Str) = ("Eight(" : Str) ++ "(" := by decide +kernel
  have e2 : ("), (" : Str) = (")" : Str) ++ ((", " : Str) ++ "(") := by decide +kernel
  have e3 : ("))" : Str) = (")" : Str) ++ ")" := by decide +kernel
  rw [e1, e2, e3]
  simp only [str_assoc]
/-- the texts of eights within lists -/
def ownE8 : D → Option Str
  | .ins 1 [.tup [.rat a, .rat b, .rat c, .rat d], .tup [.rat p, .rat q, .rat r, .rat s]] =>
    if (a.num.natAbs < 2 ^ 1900 ∧ a.den < 2 ^ 1900) ∧ (b.num.natAbs < 2 ^ 1900 ∧ b.den < 2 ^ 1900) ∧ (c.num.natAbs < 2 ^ 1900 ∧ c.den < 2 ^ 1900) ∧ (d.num.natAbs < 2 ^ 1900 ∧ d.den < 2 ^ 1900) ∧ (p.num.natAbs < 2 ^ 1900 ∧ p.den < 2 ^ 1900) ∧ (q.num.natAbs < 2 ^ 1900 ∧ q.den < 2 ^ 1900) ∧ (r.num.natAbs < 2 ^ 1900 ∧ r.den < 2 ^ 1900) ∧ (s.num.natAbs < 2 ^ 1900 ∧ s.den < 2 ^ 1900) then some (e8Text ⟨a, b, c, d, p, q, r, s⟩) else none
  | _ => none
theorem ownE8_cases {d : D} {t : Str} (h : ownE8 d = some t) : ∃ y : R8, d = y.D ∧ y.Z 1900 ∧ t = e8Text y := by
  unfold ownE8 at h
  split at h
  · split at h
    · rename_i a b c d p q r s hc
      obtain ⟨ha, hb, hc, hd, hp, hq, hr, hs⟩ := hc
      cases h
      exact ⟨⟨a, b, c, d, p, q, r, s⟩, rfl, ⟨⟨ha.1, ha.2⟩, ⟨hb.1, hb.2⟩, ⟨hc.1, hc.2⟩, ⟨hd.1, hd.2⟩, ⟨hp.1, hp.2⟩, ⟨hq.1, hq.2⟩, ⟨hr.1, hr.2⟩, ⟨hs.1, hs.2⟩⟩, rfl⟩
    · cases h
  · cases h
theorem ownE8_of {y : R8} (z : y.Z 1900) : ownE8 y.D = some (e8Text y) := by
  show (if _ then some (e8Text ⟨y.a, y.b, y.c, y.d, y.p, y.q, y.r, y.s⟩) else none) = _
  rw [if_pos ⟨⟨z.a.t, z.a.b⟩, ⟨z.b.t, z.b.b⟩, ⟨z.c.t, z.c.b⟩, ⟨z.d.t, z.d.b⟩, ⟨z.p.t, z.p.b⟩, ⟨z.q.t, z.q.b⟩, ⟨z.r.t, z.r.b⟩, ⟨z.s.t, z.s.b⟩⟩]
theorem e8_len {y : R8} (z : y.Z 1900) : (e8Text y).length ≤ 33000 := by
  have l1 := four_len z.a z.b z.c z.d
  have l2 := four_len z.p z.q z.r z.s
  have e1 : ("Eight(" : Str).length = 6 := by decide +kernel
  have e2 : (", " : Str).length = 2 := by decide +kernel
  have e3 : (")" : Str).length = 1 := by decide +kernel
  unfold e8Text
  rw [str_app, str_app, str_app, str_app, e1, e2, e3]
  omega
theorem lfE_len (d : D) (t : Str) (h : lfT ownE8 d = some t) : t.length ≤ 33000 := by
  rcases lfT_cases h with h | h
  · have := flat_len h
    omega
  · obtain ⟨y, rfl, z, rfl⟩ := ownE8_cases h
    exact e8_len z
theorem leaf_e8 {f : Addr} (O : OwnStr G isE8 "__repr__" f (G.T.at_ 1)) (cal : Cal { G with gd := false } k (.ref f) 1 [] (posK sReprE)) : LeafRp G k (lfT ownE8) := by
  refine leaf_rp O cal fun d t h => ?_
  obtain ⟨y, rfl, z, rfl⟩ := ownE8_cases h
  exact ⟨rfl, fun A Q q => e1_go z q⟩
theorem rdT_e8 {m : Nat} {y : R8} (z : y.Z 1900) : rdT (lfT ownE8) m y.D = some (e8Text y) := by
  have e : lfT ownE8 y.D = some (e8Text y) := by
    show (match flatT y.D with
      | some t => some t
      | none => ownE8 y.D) = _
    exact ownE8_of z
  cases m <;> simpa only [rdT] using e
theorem rdT_bl {m : Nat} {b : Bool} : ∃ t, rdT (lfT ownE8) m (.bl b) = some t := by
  cases m <;> exact ⟨_, by simp only [rdT, lfT, flatT]; rfl⟩
theorem repr_toldE {l : List D} (h : ∀ d ∈ l, ∃ t, rdT (lfT ownE8) n d = some t) (hz : szDs l < 60) : ∃ t, Told (reprTW (lfT ownE8) n base) [.t (.lst l)] (.str t) := by
  obtain ⟨t, ht⟩ := rdT_lst h
  refine ⟨t, ⟨fun C Q z => ?_⟩⟩
  unfold reprTW
  refine ⟨t, ht, rdT_fits lfE_len ht ?_, z⟩
  rw [sizeLine_eq]
  have e : szD (.lst l) = szDs l + 1 := by simp [szD]
  rw [e]
  have : (szDs l + 1) * (33000 + 5) ≤ 60 * 33005 := Nat.mul_le_mul (by omega) (by omega)
  omega
theorem repr_bools (b c : Bool) : ∃ t, Told (reprTW (lfT ownE8) 1 base) [.t (.lst [.bl b, .bl c])] (.str t) :=
  repr_toldE (fun d hd => by
    simp only [List.mem_cons, List.not_mem_nil, or_false] at hd
    rcases hd with rfl | rfl <;> exact rdT_bl) (by simp [szDs, szD])
/-! kinds -/
def I8.poseI (x : I8) : Bool := [x.a != 0, x.b != 0, x.c != 0, x.d != 0].any id && (x.a * x.p + x.b * x.q + x.c * x.r + x.d * x.s == 0)
def I8.hingeI (x : I8) : Bool := [x.b != 0, x.c != 0, x.d != 0].any id && (x.p == 0 && (x.b * x.q + x.c * x.r + x.d * x.s == 0))
theorem sgn_mk {a : Int} (hB : B ≠ 0) : ((mkR a B).num.sign == 0) = (a == 0) := by
  rw [← mk_zero (a := a) hB]
  rw [Bool.eq_iff_iff]
  simp [Int.sign_eq_zero_iff_zero]
theorem pose8 (hB : B ≠ 0) (zx : x.Z n) (zB : Si n B) (hn : 8 * n + 3 ≤ 3980) : Told sPoseE [.t (e8 x B).D] (.bl x.poseI) := by
  refine ⟨fun C Q z => e1_go ⟨n, hn, e8_z hB zx zB (Nat.le_refl _)⟩ ?_⟩
  have e : poseB (e8 x B) = x.poseI := by
    unfold poseB nouB dotR I8.poseI
    simp only [mk_mul, mk_add1, sgn_mk hB, sgn_mk (Int.mul_ne_zero hB hB), List.all_cons, List.all_nil, List.any_cons, List.any_nil, id_eq, Bool.and_true, Bool.or_false, Bool.not_and, bne]
  rw [e]
  exact z
theorem hinge8 (hB : B ≠ 0) (zx : x.Z n) (zB : Si n B) (hn : 8 * n + 3 ≤ 3980) : Told sHingeE [.t (e8 x B).D] (.bl x.hingeI) := by
  refine ⟨fun C Q z => e1_go ⟨n, hn, e8_z hB zx zB (Nat.le_refl _)⟩ ?_⟩
  have e : hingeB (e8 x B) = x.hingeI := by
    unfold hingeB nouB3 I8.hingeI
    simp only [mk_mul, mk_add1, sgn_mk hB, sgn_mk (Int.mul_ne_zero hB hB), List.all_cons, List.all_nil, List.any_cons, List.any_nil, id_eq, Bool.and_true, Bool.or_false, Bool.not_and, bne]
    rw [Bool.and_assoc, Bool.and_comm (x.b * x.q + x.c * x.r + x.d * x.s == 0)]
  rw [e]
  exact z
theorem dotL4 {a b c d p q r s : Int} (h : Sm8 a b c d p q r s) : Told sLDotN [.t (l4 a b c d), .t (l4 p q r s)] (.int (a * p + b * q + c * r + d * s)) := by
  refine ⟨fun C Q z => And.intro h ?_⟩
  have e : [a * p, b * q, c * r, d * s].sum = a * p + b * q + c * r + d * s := by simp [Int.add_assoc]
  show Q (.t (.int [a * p, b * q, c * r, d * s].sum)) C
  rw [e]
  exact z
theorem dotL3 {a b c p q r : Int} (h : Sm8 a b c 0 p q r 0) : Told sLDotN [.t (.lst [.int a, .int b, .int c]), .t (.lst [.int p, .int q, .int r])] (.int (a * p + b * q + c * r)) := by
  refine ⟨fun C Q z => And.intro h ?_⟩
  have e : [a * p, b * q, c * r].sum = a * p + b * q + c * r := by simp [Int.add_assoc]
  show Q (.t (.int [a * p, b * q, c * r].sum)) C
  rw [e]
  exact z
@[irreducible] def sKinds : OL := fun ws A Q => match ws with
  | [.t d, .t e] => ∃ (x : I8) (B : Int), (d = (e8 x B).D ∧ e = x.L) ∧ (B ≠ 0 ∧ Si 400 B ∧ x.Z 400) ∧ Q (.t (.bl true)) A
  | _ => False
theorem mon_kinds : MonL sKinds := fun ws A Q Q' k h => by
  unfold sKinds at h ⊢
  split at h
  · obtain ⟨x, B, h1, h2, h3⟩ := h; exact ⟨x, B, h1, h2, k _ _ h3⟩
  · exact h.elim
theorem kinds_cases {ws : List W} {A : AH} {Q : WK} (h : sKinds ws A Q) : ∃ (x : I8) (B : Int), ws = [.t (e8 x B).D, .t x.L] ∧ (B ≠ 0 ∧ Si 400 B ∧ x.Z 400) ∧ Q (.t (.bl true)) A := by
  unfold sKinds at h
  split at h
  · obtain ⟨x, B, ⟨rfl, rfl⟩, h2, h3⟩ := h; exact ⟨x, B, rfl, h2, h3⟩
  · exact h.elim
theorem kinds_told (hB : B ≠ 0) (zB : Si n B) (zx : x.Z n) (hn : n ≤ 400) : Told sKinds [.t (e8 x B).D, .t x.L] (.bl true) :=
  ⟨fun C Q q => by unfold sKinds; exact ⟨x, B, ⟨rfl, rfl⟩, ⟨hB, zB.up hn, zx.up hn⟩, q⟩⟩
end
end Hw
namespace Hw
open PySem L2
/-! ### undoing, by fours -/
structure Q4 where
  a : Rat
  b : Rat
  c : Rat
  d : Rat
def Q4.m (x y : Q4) : Q4 := ⟨q1 x.a x.b x.c x.d y.a y.b y.c y.d, q2 x.a x.b x.c x.d y.a y.b y.c y.d, q3 x.a x.b x.c x.d y.a y.b y.c y.d, q4 x.a x.b x.c x.d y.a y.b y.c y.d⟩
def Q4.n (x : Q4) : Q4 := ⟨-x.a, -x.b, -x.c, -x.d⟩
def Q4.p (x y : Q4) : Q4 := ⟨x.a + y.a, x.b + y.b, x.c + y.c, x.d + y.d⟩
def Q4.one : Q4 := ⟨1, 0, 0, 0⟩
def Q4.nil : Q4 := ⟨0, 0, 0, 0⟩
theorem Q4.assoc (x y z : Q4) : (x.m y).m z = x.m (y.m z) := by
  cases x; cases y; cases z
  simp only [Q4.m, q1, q2, q3, q4, Q4.mk.injEq]
  refine ⟨?_, ?_, ?_, ?_⟩ <;> grind
theorem Q4.m_n (x y : Q4) : x.m y.n = (x.m y).n := by
  cases x; cases y
  simp only [Q4.m, Q4.n, q1, q2, q3, q4, Q4.mk.injEq]
  refine ⟨?_, ?_, ?_, ?_⟩ <;> grind
theorem Q4.n_m (x y : Q4) : x.n.m y = (x.m y).n := by
  cases x; cases y
  simp only [Q4.m, Q4.n, q1, q2, q3, q4, Q4.mk.injEq]
  refine ⟨?_, ?_, ?_, ?_⟩ <;> grind
theorem Q4.n_n (x : Q4) : x.n.n = x := by
  cases x
  simp only [Q4.n, Q4.mk.injEq]
  refine ⟨?_, ?_, ?_, ?_⟩ <;> grind
theorem Q4.one_m (x : Q4) : Q4.one.m x = x := by
  cases x
  simp only [Q4.m, Q4.one, q1, q2, q3, q4, Q4.mk.injEq]
  refine ⟨?_, ?_, ?_, ?_⟩ <;> grind
theorem Q4.m_one (x : Q4) : x.m Q4.one = x := by
  cases x
  simp only [Q4.m, Q4.one, q1, q2, q3, q4, Q4.mk.injEq]
  refine ⟨?_, ?_, ?_, ?_⟩ <;> grind
theorem Q4.n_p (x : Q4) : x.n.p x = Q4.nil := by
  cases x
  simp only [Q4.n, Q4.p, Q4.nil, Q4.mk.injEq]
  refine ⟨?_, ?_, ?_, ?_⟩ <;> grind
theorem Q4.p_n (x : Q4) : x.p x.n = Q4.nil := by
  cases x
  simp only [Q4.n, Q4.p, Q4.nil, Q4.mk.injEq]
  refine ⟨?_, ?_, ?_, ?_⟩ <;> grind
def R8.f (x : R8) : Q4 := ⟨x.a, x.b, x.c, x.d⟩
def R8.g (x : R8) : Q4 := ⟨x.p, x.q, x.r, x.s⟩
def R8.iv (x : R8) : Q4 := ⟨undA x, undB x, undC x, undE x⟩
theorem R8.fg {x y : R8} (h1 : x.f = y.f) (h2 : x.g = y.g) : x = y := by
  cases x; cases y
  simp only [R8.f, R8.g, Q4.mk.injEq] at h1 h2
  simp only [R8.mk.injEq]
  exact ⟨h1.1, h1.2.1, h1.2.2.1, h1.2.2.2, h2.1, h2.2.1, h2.2.2.1, h2.2.2.2⟩
theorem und_f (x : R8) : (undR x).f = x.iv := rfl
theorem und_g (x : R8) : (undR x).g = ((x.iv.m x.g).m x.iv).n := rfl
theorem mul_f (x y : R8) : (mulR x y).f = x.f.m y.f := rfl
theorem mul_g (x y : R8) : (mulR x y).g = (x.f.m y.g).p (x.g.m y.f) := rfl
def R8.nr (x : R8) : Rat := nrm x.a x.b x.c x.d
theorem iv_r {x : R8} (h : x.nr ≠ 0) : x.f.m x.iv = Q4.one := by
  have e : x.nr * (((1 : Int) : Rat) / x.nr) = 1 := by
    rw [Rat.intCast_one]
    grind
  obtain ⟨i, hi⟩ : ∃ i, ((1 : Int) : Rat) / x.nr = i := ⟨_, rfl⟩
  rw [hi] at e
  simp only [Q4.m, R8.f, R8.iv, undA, undB, undC, undE, Q4.one, q1, q2, q3, q4, Q4.mk.injEq]
  rw [show nrm x.a x.b x.c x.d = x.nr from rfl, hi]
  unfold R8.nr nrm at e
  refine ⟨?_, ?_, ?_, ?_⟩ <;> grind
theorem iv_l {x : R8} (h : x.nr ≠ 0) : x.iv.m x.f = Q4.one := by
  have e : x.nr * (((1 : Int) : Rat) / x.nr) = 1 := by
    rw [Rat.intCast_one]
    grind
  obtain ⟨i, hi⟩ : ∃ i, ((1 : Int) : Rat) / x.nr = i := ⟨_, rfl⟩
  rw [hi] at e
  simp only [Q4.m, R8.f, R8.iv, undA, undB, undC, undE, Q4.one, q1, q2, q3, q4, Q4.mk.injEq]
  rw [show nrm x.a x.b x.c x.d = x.nr from rfl, hi]
  unfold R8.nr nrm at e
  refine ⟨?_, ?_, ?_, ?_⟩ <;> grind
def oneR : R8 := ⟨1, 0, 0, 0, 0, 0, 0, 0⟩
theorem mul_und {x : R8} (h : x.nr ≠ 0) : mulR x (undR x) = oneR := by
  refine R8.fg ?_ ?_
  · rw [mul_f, und_f, iv_r h]; rfl
  · rw [mul_g, und_f, und_g, Q4.m_n, Q4.assoc, ← Q4.assoc, iv_r h, Q4.one_m, Q4.n_p]; rfl
theorem und_mul {x : R8} (h : x.nr ≠ 0) : mulR (undR x) x = oneR := by
  refine R8.fg ?_ ?_
  · rw [mul_f, und_f, iv_l h]; rfl
  · rw [mul_g, und_f, und_g, Q4.n_m, Q4.assoc, iv_l h, Q4.m_one, Q4.p_n]; rfl
theorem und_nr {x : R8} (h : x.nr ≠ 0) : (undR x).nr ≠ 0 := by
  intro e
  have z := nrm_prod x.a x.b x.c x.d (undA x) (undB x) (undC x) (undE x)
  have o := iv_r h
  simp only [Q4.m, R8.f, R8.iv, Q4.one, q1, q2, q3, q4, Q4.mk.injEq] at o
  obtain ⟨o1, o2, o3, o4⟩ := o
  rw [o1, o2, o3, o4] at z
  rw [show nrm (undA x) (undB x) (undC x) (undE x) = (undR x).nr from rfl, e] at z
  rw [Rat.mul_zero] at z
  exact absurd z (by unfold nrm; decide +kernel)
theorem und_und {x : R8} (h : x.nr ≠ 0) : undR (undR x) = x := by
  have h2 := und_nr h
  have e : (undR x).iv = x.f := by
    have l := iv_l h2
    rw [und_f] at l
    have : ((undR x).iv.m x.iv).m x.f = x.f := by rw [l, Q4.one_m]
    rw [Q4.assoc, iv_l h, Q4.m_one] at this
    exact this
  refine R8.fg ?_ ?_
  · rw [und_f, e]
  · rw [und_g, e, und_g, Q4.m_n, Q4.n_m, Q4.n_n]
    rw [Q4.assoc x.iv x.g x.iv, ← Q4.assoc x.f x.iv, iv_r h, Q4.one_m, Q4.assoc, iv_l h, Q4.m_one]
/-! .. of ints over a bottom -/
def I8.nI (x : I8) : Int := x.a * x.a + x.b * x.b + x.c * x.c + x.d * x.d
def undI (x : I8) (B : Int) : I8 := ⟨x.a * B * (B * x.nI), (0 - x.b) * B * (B * x.nI), (0 - x.c) * B * (B * x.nI), (0 - x.d) * B * (B * x.nI),
  0 - i1 (i1 (x.a * B) ((0 - x.b) * B) ((0 - x.c) * B) ((0 - x.d) * B) x.p x.q x.r x.s) (i2 (x.a * B) ((0 - x.b) * B) ((0 - x.c) * B) ((0 - x.d) * B) x.p x.q x.r x.s) (i3 (x.a * B) ((0 - x.b) * B) ((0 - x.c) * B) ((0 - x.d) * B) x.p x.q x.r x.s) (i4 (x.a * B) ((0 - x.b) * B) ((0 - x.c) * B) ((0 - x.d) * B) x.p x.q x.r x.s) (x.a * B) ((0 - x.b) * B) ((0 - x.c) * B) ((0 - x.d) * B),
  0 - i2 (i1 (x.a * B) ((0 - x.b) * B) ((0 - x.c) * B) ((0 - x.d) * B) x.p x.q x.r x.s) (i2 (x.a * B) ((0 - x.b) * B) ((0 - x.c) * B) ((0 - x.d) * B) x.p x.q x.r x.s) (i3 (x.a * B) ((0 - x.b) * B) ((0 - x.c) * B) ((0 - x.d) * B) x.p x.q x.r x.s) (i4 (x.a * B) ((0 - x.b) * B) ((0 - x.c) * B) ((0 - x.d) * B) x.p x.q x.r x.s) (x.a * B) ((0 - x.b) * B) ((0 - x.c) * B) ((0 - x.d) * B),
  0 - i3 (i1 (x.a * B) ((0 - x.b) * B) ((0 - x.c) * B) ((0 - x.d) * B) x.p x.q x.r x.s) (i2 (x.a * B) ((0 - x.b) * B) ((0 - x.c) * B) ((0 - x.d) * B) x.p x.q x.r x.s) (i3 (x.a * B) ((0 - x.b) * B) ((0 - x.c) * B) ((0 - x.d) * B) x.p x.q x.r x.s) (i4 (x.a * B) ((0 - x.b) * B) ((0 - x.c) * B) ((0 - x.d) * B) x.p x.q x.r x.s) (x.a * B) ((0 - x.b) * B) ((0 - x.c) * B) ((0 - x.d) * B),
  0 - i4 (i1 (x.a * B) ((0 - x.b) * B) ((0 - x.c) * B) ((0 - x.d) * B) x.p x.q x.r x.s) (i2 (x.a * B) ((0 - x.b) * B) ((0 - x.c) * B) ((0 - x.d) * B) x.p x.q x.r x.s) (i3 (x.a * B) ((0 - x.b) * B) ((0 - x.c) * B) ((0 - x.d) * B) x.p x.q x.r x.s) (i4 (x.a * B) ((0 - x.b) * B) ((0 - x.c) * B) ((0 - x.d) * B) x.p x.q x.r x.s) (x.a * B) ((0 - x.b) * B) ((0 - x.c) * B) ((0 - x.d) * B)⟩
section
variable {x y : I8} {A B : Int} {n m nc : Nat}
theorem e8_nr : (e8 x B).nr = mkR x.nI (B * B) := nrm_mk ..
theorem e8_nz (hB : B ≠ 0) (h : x.nI ≠ 0) : (e8 x B).nr ≠ 0 := by
  rw [e8_nr]
  exact mkR_ne h (Int.mul_ne_zero hB hB)
theorem undA_mk (hB : B ≠ 0) : undA (e8 x B) = mkR (x.a * B) x.nI := by
  unfold undA
  rw [show nrm (e8 x B).a (e8 x B).b (e8 x B).c (e8 x B).d = mkR x.nI (B * B) from e8_nr]
  exact und_mk hB
theorem undB_mk (hB : B ≠ 0) : undB (e8 x B) = mkR ((0 - x.b) * B) x.nI := by
  unfold undB
  rw [show nrm (e8 x B).a (e8 x B).b (e8 x B).c (e8 x B).d = mkR x.nI (B * B) from e8_nr, mk_neg1]
  exact und_mk hB
theorem undC_mk (hB : B ≠ 0) : undC (e8 x B) = mkR ((0 - x.c) * B) x.nI := by
  unfold undC
  rw [show nrm (e8 x B).a (e8 x B).b (e8 x B).c (e8 x B).d = mkR x.nI (B * B) from e8_nr, mk_neg1]
  exact und_mk hB
theorem undE_mk (hB : B ≠ 0) : undE (e8 x B) = mkR ((0 - x.d) * B) x.nI := by
  unfold undE
  rw [show nrm (e8 x B).a (e8 x B).b (e8 x B).c (e8 x B).d = mkR x.nI (B * B) from e8_nr, mk_neg1]
  exact und_mk hB
theorem undR_mk (hB : B ≠ 0) (h : x.nI ≠ 0) : undR (e8 x B) = e8 (undI x B) (x.nI * B * x.nI) := by
  have cut : ∀ t : Int, mkR t x.nI = mkR (t * (B * x.nI)) (x.nI * B * x.nI) := fun t => by
    rw [show x.nI * B * x.nI = x.nI * (B * x.nI) from by rw [Int.mul_assoc]]
    exact (mk_cut (Int.mul_ne_zero hB h)).symm
  unfold undR twoU fstU e8
  simp only [show undA ⟨mkR x.a B, mkR x.b B, mkR x.c B, mkR x.d B, mkR x.p B, mkR x.q B, mkR x.r B, mkR x.s B⟩ = _ from undA_mk hB, show undB ⟨mkR x.a B, mkR x.b B, mkR x.c B, mkR x.d B, mkR x.p B, mkR x.q B, mkR x.r B, mkR x.s B⟩ = _ from undB_mk hB, show undC ⟨mkR x.a B, mkR x.b B, mkR x.c B, mkR x.d B, mkR x.p B, mkR x.q B, mkR x.r B, mkR x.s B⟩ = _ from undC_mk hB, show undE ⟨mkR x.a B, mkR x.b B, mkR x.c B, mkR x.d B, mkR x.p B, mkR x.q B, mkR x.r B, mkR x.s B⟩ = _ from undE_mk hB, q1_mk, q2_mk, q3_mk, q4_mk, mk_neg1]
  rw [cut (x.a * B), cut ((0 - x.b) * B), cut ((0 - x.c) * B), cut ((0 - x.d) * B)]
  rfl
theorem nI_z (zx : x.Z n) : Si (2 * n + 3) x.nI := (zx.f.dot zx.f).up (by omega)
theorem four_i {a b c d p q r s : Int} (h : S4 n a b c d) (k : S4 m p q r s) : S4 (n + m + 3) (i1 a b c d p q r s) (i2 a b c d p q r s) (i3 a b c d p q r s) (i4 a b c d p q r s) := h.prod k
theorem und_sz8 (zx : x.Z n) (zB : Si n B) : S4 (2 * n) (x.a * B) ((0 - x.b) * B) ((0 - x.c) * B) ((0 - x.d) * B) ∧ S4 (3 * n + 3) (i1 (x.a * B) ((0 - x.b) * B) ((0 - x.c) * B) ((0 - x.d) * B) x.p x.q x.r x.s) (i2 (x.a * B) ((0 - x.b) * B) ((0 - x.c) * B) ((0 - x.d) * B) x.p x.q x.r x.s) (i3 (x.a * B) ((0 - x.b) * B) ((0 - x.c) * B) ((0 - x.d) * B) x.p x.q x.r x.s) (i4 (x.a * B) ((0 - x.b) * B) ((0 - x.c) * B) ((0 - x.d) * B) x.p x.q x.r x.s) ∧
    Si (3 * n + 3) (x.nI * B) ∧ Si (5 * n + 6) (x.nI * B * x.nI) ∧ (undI x B).Z (5 * n + 6) := by
  have h1 := (zx.f.mirror.by_ zB).up (m := 2 * n) (by omega)
  have h2 := (four_i h1 zx.g).up (m := 3 * n + 3) (by omega)
  have h3 := (four_i h2 h1).up (m := 5 * n + 6) (by omega)
  have h4 : Si (3 * n + 3) (x.nI * B) := ((nI_z zx).mul zB).up (by omega)
  have h5 : Si (5 * n + 6) (x.nI * B * x.nI) := (h4.mul (nI_z zx)).up (by omega)
  have h6 : Si (3 * n + 3) (B * x.nI) := (zB.mul (nI_z zx)).up (by omega)
  have h7 := (h1.by_ h6).up (m := 5 * n + 6) (by omega)
  exact ⟨h1, h2, h4, h5, ⟨h7, ⟨si_neg h3.a, si_neg h3.b, si_neg h3.c, si_neg h3.d⟩⟩⟩
theorem fst1 (hB : B ≠ 0) : fstU (e8 x B) q1 = mkR (i1 (x.a * B) ((0 - x.b) * B) ((0 - x.c) * B) ((0 - x.d) * B) x.p x.q x.r x.s) (x.nI * B) := by
  unfold fstU
  rw [undA_mk hB, undB_mk hB, undC_mk hB, undE_mk hB]
  exact q1_mk
theorem fst2 (hB : B ≠ 0) : fstU (e8 x B) q2 = mkR (i2 (x.a * B) ((0 - x.b) * B) ((0 - x.c) * B) ((0 - x.d) * B) x.p x.q x.r x.s) (x.nI * B) := by
  unfold fstU
  rw [undA_mk hB, undB_mk hB, undC_mk hB, undE_mk hB]
  exact q2_mk
theorem fst3 (hB : B ≠ 0) : fstU (e8 x B) q3 = mkR (i3 (x.a * B) ((0 - x.b) * B) ((0 - x.c) * B) ((0 - x.d) * B) x.p x.q x.r x.s) (x.nI * B) := by
  unfold fstU
  rw [undA_mk hB, undB_mk hB, undC_mk hB, undE_mk hB]
  exact q3_mk
theorem fst4 (hB : B ≠ 0) : fstU (e8 x B) q4 = mkR (i4 (x.a * B) ((0 - x.b) * B) ((0 - x.c) * B) ((0 - x.d) * B) x.p x.q x.r x.s) (x.nI * B) := by
  unfold fstU
  rw [undA_mk hB, undB_mk hB, undC_mk hB, undE_mk hB]
  exact q4_mk
theorem und_P (hB : B ≠ 0) (h : x.nI ≠ 0) (zx : x.Z n) (zB : Si n B) (hn : 40 * n + 80 ≤ 3990) : PUnd (e8 x B) := by
  obtain ⟨h1, h2, h3, h4, h5⟩ := und_sz8 zx zB
  have zN := nI_z zx
  have e := e8_z hB zx zB (Nat.le_refl n)
  have hNB : x.nI * B ≠ 0 := Int.mul_ne_zero h hB
  have hNBN : x.nI * B * x.nI ≠ 0 := Int.mul_ne_zero hNB h
  have a1 := mk_sz (n := 2 * n + 3) h (h1.a.up (by omega)) zN
  have a2 := mk_sz (n := 2 * n + 3) h (h1.b.up (by omega)) zN
  have a3 := mk_sz (n := 2 * n + 3) h (h1.c.up (by omega)) zN
  have a4 := mk_sz (n := 2 * n + 3) h (h1.d.up (by omega)) zN
  have b1 := mk_sz (n := 3 * n + 3) hNB h2.a h3
  have b2 := mk_sz (n := 3 * n + 3) hNB h2.b h3
  have b3 := mk_sz (n := 3 * n + 3) hNB h2.c h3
  have b4 := mk_sz (n := 3 * n + 3) hNB h2.d h3
  have t := (four_i h2 h1).up (m := 5 * n + 6) (by omega)
  have f1 := fst1 (x := x) hB
  have f2 := fst2 (x := x) hB
  have f3 := fst3 (x := x) hB
  have f4 := fst4 (x := x) hB
  refine ⟨⟨n, by omega, e.a, e.b, e.c, e.d⟩, e8_nz hB h, ?_, ?_, ?_, ?_, ?_, ?_⟩
  · rw [undA_mk hB, undB_mk hB, undC_mk hB, undE_mk hB]
    exact ⟨2 * n + 3, by omega, a1, a2, a3, a4, e.p.up (by omega), e.q.up (by omega), e.r.up (by omega), e.s.up (by omega)⟩
  · rw [f1, f2, f3, f4, undA_mk hB, undB_mk hB, undC_mk hB, undE_mk hB]
    exact ⟨3 * n + 3, by omega, b1, b2, b3, b4, a1.up (by omega), a2.up (by omega), a3.up (by omega), a4.up (by omega)⟩
  · unfold twoU; rw [f1, f2, f3, f4, undA_mk hB, undB_mk hB, undC_mk hB, undE_mk hB, q1_mk]
    exact (mk_sz hNBN t.a h4).up (by omega)
  · unfold twoU; rw [f1, f2, f3, f4, undA_mk hB, undB_mk hB, undC_mk hB, undE_mk hB, q2_mk]
    exact (mk_sz hNBN t.b h4).up (by omega)
  · unfold twoU; rw [f1, f2, f3, f4, undA_mk hB, undB_mk hB, undC_mk hB, undE_mk hB, q3_mk]
    exact (mk_sz hNBN t.c h4).up (by omega)
  · unfold twoU; rw [f1, f2, f3, f4, undA_mk hB, undB_mk hB, undC_mk hB, undE_mk hB, q4_mk]
    exact (mk_sz hNBN t.d h4).up (by omega)
theorem und8 (hB : B ≠ 0) (h : x.nI ≠ 0) (zx : x.Z n) (zB : Si n B) (hn : 40 * n + 80 ≤ 3990) : Told sUndoneE [.t (e8 x B).D] (e8 (undI x B) (x.nI * B * x.nI)).D :=
  ⟨fun C Q z => e1_go (und_P hB h zx zB hn) (by rw [undR_mk hB h]; exact z)⟩
theorem und8_of {yr : R8} (hB : B ≠ 0) (h : x.nI ≠ 0) (zx : x.Z n) (zB : Si n B) (hn : 40 * n + 80 ≤ 3990) (e : undR (e8 x B) = yr) : Told sUndoneE [.t (e8 x B).D] yr.D :=
  ⟨fun C Q z => e1_go (und_P hB h zx zB hn) (by rw [e]; exact z)⟩
theorem mul8_of {zr : R8} (hA : A ≠ 0) (hB : B ≠ 0) (zx : x.Z n) (zy : y.Z n) (zA : Si n A) (zB : Si n B) (hn : 16 * n + 7 ≤ 3990) (e : mulR (e8 x A) (e8 y B) = zr) : Told sMulE [.t (e8 x A).D, .t (e8 y B).D] zr.D :=
  ⟨fun C Q z => e2_go ⟨n, hn, e8_z hA zx zA (Nat.le_refl _), e8_z hB zy zB (Nat.le_refl _)⟩ (by rw [e]; exact z)⟩
theorem oneR_mk : oneR = e8 ⟨1, 0, 0, 0, 0, 0, 0, 0⟩ 1 := by
  unfold oneR e8
  simp only [mkR_one]
  rfl
theorem und_nI (h : x.nI ≠ 0) (hB : B ≠ 0) : (undI x B).nI ≠ 0 := by
  intro e
  have z := und_nr (e8_nz hB h)
  rw [undR_mk hB h, e8_nr, e] at z
  exact z (by rw [mkR_i, Rat.intCast_zero, Rat.zero_mul])
/-- of a pose the undone one is a pose -/
theorem sand_dot (a b c d p q r s : Int) : a * i1 (i1 a b c d p q r s) (i2 a b c d p q r s) (i3 a b c d p q r s) (i4 a b c d p q r s) a b c d + b * i2 (i1 a b c d p q r s) (i2 a b c d p q r s) (i3 a b c d p q r s) (i4 a b c d p q r s) a b c d + c * i3 (i1 a b c d p q r s) (i2 a b c d p q r s) (i3 a b c d p q r s) (i4 a b c d p q r s) a b c d + d * i4 (i1 a b c d p q r s) (i2 a b c d p q r s) (i3 a b c d p q r s) (i4 a b c d p q r s) a b c d = (a * a + b * b + c * c + d * d) * (a * p - b * q - c * r - d * s) := by
  unfold i1 i2 i3 i4
  grind
theorem und_pose (hB : B ≠ 0) (h : x.poseI = true) (hn : x.nI ≠ 0) : (undI x B).poseI = true := by
  unfold I8.poseI at h ⊢
  rw [Bool.and_eq_true] at h ⊢
  obtain ⟨h1, h2⟩ := h
  have h2 : x.a * x.p + x.b * x.q + x.c * x.r + x.d * x.s = 0 := by simpa using h2
  constructor
  · have z := und_nI hn hB
    unfold I8.nI at z
    simp only [List.any_cons, List.any_nil, id_eq, Bool.or_false, Bool.or_eq_true, bne_iff_ne, ne_eq]
    by_cases e1 : (undI x B).a = 0
    · by_cases e2 : (undI x B).b = 0
      · by_cases e3 : (undI x B).c = 0
        · by_cases e4 : (undI x B).d = 0
          · rw [e1, e2, e3, e4] at z
            exact absurd rfl z
          · exact .inr (.inr (.inr e4))
        · exact .inr (.inr (.inl e3))
      · exact .inr (.inl e2)
    · exact .inl e1
  · have e := sand_dot (x.a * B) ((0 - x.b) * B) ((0 - x.c) * B) ((0 - x.d) * B) x.p x.q x.r x.s
    have e0 : x.a * B * x.p - (0 - x.b) * B * x.q - (0 - x.c) * B * x.r - (0 - x.d) * B * x.s = B * (x.a * x.p + x.b * x.q + x.c * x.r + x.d * x.s) := by grind
    rw [e0, h2, Int.mul_zero, Int.mul_zero] at e
    unfold undI
    simp only [beq_iff_eq]
    grind
@[irreducible] def sUndR : OL := fun ws A Q => match ws with
  | [.t d, .t (.int B), .t e] => ∃ x : I8, (d = (e8 x B).D ∧ e = x.L) ∧ (B ≠ 0 ∧ Si 5 B ∧ x.Z 5 ∧ x.nI ≠ 0) ∧ Q (.t (.bl true)) A
  | _ => False
theorem mon_undR : MonL sUndR := fun ws A Q Q' k h => by
  unfold sUndR at h ⊢
  split at h
  · obtain ⟨x, h1, h2, h3⟩ := h; exact ⟨x, h1, h2, k _ _ h3⟩
  · exact h.elim
theorem undR_cases {ws : List W} {A : AH} {Q : WK} (h : sUndR ws A Q) : ∃ (x : I8) (B : Int), ws = [.t (e8 x B).D, .t (.int B), .t x.L] ∧ (B ≠ 0 ∧ Si 5 B ∧ x.Z 5 ∧ x.nI ≠ 0) ∧ Q (.t (.bl true)) A := by
  unfold sUndR at h
  split at h
  · obtain ⟨x, ⟨rfl, rfl⟩, h2, h3⟩ := h; exact ⟨x, _, rfl, h2, h3⟩
  · exact h.elim
theorem undR_told (hB : B ≠ 0) (zB : Si 5 B) (zx : x.Z 5) (h : x.nI ≠ 0) : Told sUndR [.t (e8 x B).D, .t (.int B), .t x.L] (.bl true) :=
  ⟨fun C Q q => by unfold sUndR; exact ⟨x, ⟨rfl, rfl⟩, ⟨hB, zB, zx, h⟩, q⟩⟩
theorem told_eq {S : OL} {ws ws' : List W} {d : D} {C : AH} {Q : WK} (h : Told S ws d) (e : ws' = ws) (z : Q (.t d) C) : Irr S ws' C Q := by
  subst e; exact told_use h z
end
end Hw
namespace Hw
open PySem L2
/-! ### for k13's last def -/
theorem Q4.m_p (x y z : Q4) : x.m (y.p z) = (x.m y).p (x.m z) := by
  cases x; cases y; cases z
  simp only [Q4.m, Q4.p, q1, q2, q3, q4, Q4.mk.injEq]
  refine ⟨?_, ?_, ?_, ?_⟩ <;> grind
theorem Q4.p_m (x y z : Q4) : (x.p y).m z = (x.m z).p (y.m z) := by
  cases x; cases y; cases z
  simp only [Q4.m, Q4.p, q1, q2, q3, q4, Q4.mk.injEq]
  refine ⟨?_, ?_, ?_, ?_⟩ <;> grind
theorem Q4.p_assoc (x y z : Q4) : (x.p y).p z = x.p (y.p z) := by
  cases x; cases y; cases z
  simp only [Q4.p, Q4.mk.injEq]
  refine ⟨?_, ?_, ?_, ?_⟩ <;> grind
theorem Q4.p_comm (x y : Q4) : x.p y = y.p x := by
  cases x; cases y
  simp only [Q4.p, Q4.mk.injEq]
  refine ⟨?_, ?_, ?_, ?_⟩ <;> grind
theorem add_f (x y : R8) : (addR x y).f = x.f.p y.f := rfl
theorem add_g (x y : R8) : (addR x y).g = x.g.p y.g := rfl
theorem mulR_assoc (x y z : R8) : mulR (mulR x y) z = mulR x (mulR y z) := by
  refine R8.fg ?_ ?_
  · simp only [mul_f, Q4.assoc]
  · simp only [mul_f, mul_g, Q4.m_p, Q4.p_m, Q4.assoc, Q4.p_assoc]
theorem mulR_add (x y z : R8) : mulR (addR x y) z = addR (mulR x z) (mulR y z) := by
  refine R8.fg ?_ ?_
  · simp only [mul_f, add_f, Q4.p_m]
  · simp only [mul_f, mul_g, add_f, add_g, Q4.p_m]
    rw [Q4.p_assoc, Q4.p_assoc, ← Q4.p_assoc (y.f.m z.g), Q4.p_comm (y.f.m z.g), Q4.p_assoc]
section
variable {x y z w : I8} {A B : Int} {n m nc : Nat} {ob nb : O2}
def zero8 : I8 := ⟨0, 0, 0, 0, 0, 0, 0, 0⟩
theorem addI_0 (hA : A ≠ 0) (hB : B ≠ 0) : (e8 x A = e8 y B) ↔ subI x A y B = zero8 := by
  unfold e8 subI zero8
  simp only [R8.mk.injEq, I8.mk.injEq, mkR_same hA hB]
  constructor
  · rintro ⟨h1, h2, h3, h4, h5, h6, h7, h8⟩
    exact ⟨by omega, by omega, by omega, by omega, by omega, by omega, by omega, by omega⟩
  · rintro ⟨h1, h2, h3, h4, h5, h6, h7, h8⟩
    exact ⟨by omega, by omega, by omega, by omega, by omega, by omega, by omega, by omega⟩
theorem twice_0 (hA : A ≠ 0) : (e8 x A = e8 (addI x A x A) (A * A)) ↔ x = zero8 := by
  have one : ∀ i : Int, (i * (A * A) = (i * A + i * A) * A) ↔ i = 0 := fun i => by
    constructor
    · intro h
      have e : i * (A * A) = 0 := by grind
      rcases Int.mul_eq_zero.mp e with e | e
      · exact e
      · exact absurd e (Int.mul_ne_zero hA hA)
    · intro h
      subst h
      simp
  cases x
  unfold e8 addI zero8
  simp only [R8.mk.injEq, I8.mk.injEq, mkR_same hA (Int.mul_ne_zero hA hA), one]
/-! == and != of other things, an eight being none of them -/
theorem neE_str {t t' : Str} (h : t = t') : Told2 (eqE nc true (sEqE nc) (neDT oeN 1 (neNT nc))) (.t (.str t)) (.t (.str t')) (.bl false) := ⟨fun C Q z => (ne_str (nc := nc) (n := 1) h).go C Q z⟩
theorem eqE_str {t t' : Str} (h : t = t') : Told2 (eqE nc false (sEqE nc) (eqDT oeN 1 (eqNT nc))) (.t (.str t)) (.t (.str t')) (.bl true) := by
  subst h
  refine ⟨fun C Q z => ?_⟩
  show Q (.t (.bl (t == t))) C
  rw [beq_self_eq_true]
  exact z
theorem neE_bl {b b' : Bool} (h : b = b') : Told2 (eqE nc true (sEqE nc) (neDT oeN 1 (neNT nc))) (.t (.bl b)) (.t (.bl b')) (.bl false) := by
  subst h
  refine ⟨fun C Q z => ?_⟩
  show Q (.t (.bl (!(b == b)))) C
  rw [beq_self_eq_true]
  exact z
theorem neE_pair {a b c d : Rat} (h1 : a = c) (h2 : b = d) : Told2 (eqE nc true (sEqE nc) (neDT oeN 1 (neNT nc))) (.t (.tup [.rat a, .rat b])) (.t (.tup [.rat c, .rat d])) (.bl false) := by
  subst h1 h2
  have e : eqD oeN (1 + 1) (.tup [.rat a, .rat b]) (.tup [.rat a, .rat b]) = some true := by simp [eqD, eqPairs, oeN]
  exact ⟨fun C Q z => (ne_tup (base := neNT nc) e).go C Q z⟩
instance : DecidableEq I8 := fun x y => by
  cases x; cases y
  simp only [I8.mk.injEq]
  infer_instance
theorem eqE_L : Told2 (eqE nc false (sEqE nc) (eqDT oeN 1 (eqNT nc))) (.t x.L) (.t y.L) (.bl (decide (x = y))) := by
  have e : eqD oeN (1 + 1) x.L y.L = some (decide (x = y)) := by
    cases x; cases y
    simp [eqD, eqPairs, oeN, beq_dec]
  exact ⟨fun C Q z => (eq_lst (base := eqNT nc) e).go C Q z⟩
theorem told2_eq {r : O2} {u v u' v' : W} {d : D} {C : AH} {Q : WK} (h : Told2 r u v d) (e : u' = u) (e2 : v' = v) (k : Q (.t d) C) : Irr2 r u' v' C Q := by
  subst e e2; exact told2_use h k
theorem repr8_told {base : OL} (zx : (e8 x A).Z 1900) (hb : base = reprW isE8 (posK sReprE)) : Told (reprTW (lfT ownE8) 1 base) [.t (e8 x A).D] (.str (e8Text (e8 x A))) := by
  subst hb
  refine ⟨fun C Q z => ?_⟩
  unfold reprTW
  show reprW isE8 (posK sReprE) [.t (e8 x A).D] C Q
  unfold reprW
  exact ⟨rfl, e1_go zx ⟨_, rfl, z⟩⟩
theorem eight_told (zx : x.Z n) (zy : y.Z n) (hn : n ≤ 100) : Told sLEight [.t x.L, .t y.L] (mulI x y).L := ⟨fun C Q z => I2_go ⟨zx.up hn, zy.up hn⟩ z⟩
theorem mirror8_told : Told sLMirror8 [.t x.L] (mirI x).L := ⟨fun C Q z => I1_go trivial z⟩
theorem four_lst (a b c e : Rat) : Four (.lst [.rat a, .rat b, .rat c, .rat e]) a b c e := ⟨_, _, _, _, .inl rfl, ⟨rfl, fun _ => (nomatch ·)⟩, ⟨rfl, fun _ => (nomatch ·)⟩, ⟨rfl, fun _ => (nomatch ·)⟩, ⟨rfl, fun _ => (nomatch ·)⟩⟩
theorem mk_0 {A : Int} : mkR 0 A = 0 := by rw [mkR_i, Rat.intCast_zero, Rat.zero_mul]
theorem num_0 {A : Int} : NumOk (.int 0) (mkR 0 A) := ⟨by rw [mk_0]; rfl, fun j e => by cases e; exact Sm.of (by decide +kernel)⟩
theorem four_head (a A : Int) : Four (.tup [.rat (mkR a A), .int 0, .int 0, .int 0]) (mkR a A) (mkR 0 A) (mkR 0 A) (mkR 0 A) := ⟨_, _, _, _, .inr rfl, ⟨rfl, fun _ => (nomatch ·)⟩, num_0, num_0, num_0⟩
theorem mul_mir_r : mulI x (mirI x) = ⟨x.nI, 0, 0, 0, 2 * (x.a * x.p + x.b * x.q + x.c * x.r + x.d * x.s), 0, 0, 0⟩ := by
  unfold mulI mirI I8.nI i1 i2 i3 i4
  simp only [I8.mk.injEq]
  refine ⟨?_, ?_, ?_, ?_, ?_, ?_, ?_, ?_⟩ <;> grind
theorem mul_mir_l : mulI (mirI x) x = ⟨x.nI, 0, 0, 0, 2 * (x.a * x.p + x.b * x.q + x.c * x.r + x.d * x.s), 0, 0, 0⟩ := by
  unfold mulI mirI I8.nI i1 i2 i3 i4
  simp only [I8.mk.injEq]
  refine ⟨?_, ?_, ?_, ?_, ?_, ?_, ?_, ?_⟩ <;> grind
theorem mir_mul : mirI (mulI x y) = mulI (mirI y) (mirI x) := by
  unfold mulI mirI i1 i2 i3 i4
  simp only [I8.mk.injEq]
  refine ⟨?_, ?_, ?_, ?_, ?_, ?_, ?_, ?_⟩ <;> grind
theorem nI_mul : (mulI x y).nI = x.nI * y.nI := by
  unfold mulI I8.nI
  exact nrm_int ..
theorem dot_mul : (mulI x y).a * (mulI x y).p + (mulI x y).b * (mulI x y).q + (mulI x y).c * (mulI x y).r + (mulI x y).d * (mulI x y).s = x.nI * (y.a * y.p + y.b * y.q + y.c * y.r + y.d * y.s) + (x.a * x.p + x.b * x.q + x.c * x.r + x.d * x.s) * y.nI := by
  unfold mulI I8.nI i1 i2 i3 i4
  grind
theorem twice_by (hA : A ≠ 0) : e8 (byI x 2) (A * 1) = e8 (addI x A x A) (A * A) := by
  refine e8_same (Int.mul_ne_zero hA (by decide)) (Int.mul_ne_zero hA hA) ⟨?_, ?_, ?_, ?_, ?_, ?_, ?_, ?_⟩ <;> (unfold byI addI; grind)
def sMkE1 : OK2 := fun xs _ A Q => match xs with
  | [w] => sMkE [w, .t (.tup [.int 0, .int 0, .int 0, .int 0])] A Q
  | _ => False
def sAsE2 : OK2 := fun xs _ A Q => match xs with
  | [v, w] => sAsE [v, w, .t (.int 1)] A Q
  | _ => False
def kw11 (S : OL) : OK2 := fun xs ys A Q => match xs, ys with
  | [a], [b] => S [a, b] A Q
  | _, _ => False
theorem at_4 {l : List D} {d : D} (h : l[4]? = some d) : atI l 4 = some d := at_nat (n := 4) h
theorem at_5 {l : List D} {d : D} (h : l[5]? = some d) : atI l 5 = some d := at_nat (n := 5) h
theorem at_6 {l : List D} {d : D} (h : l[6]? = some d) : atI l 6 = some d := at_nat (n := 6) h
theorem at_7 {l : List D} {d : D} (h : l[7]? = some d) : atI l 7 = some d := at_nat (n := 7) h
theorem ups8 : ups 0 8 = [.t (.int 0), .t (.int 1), .t (.int 2), .t (.int 3), .t (.int 4), .t (.int 5), .t (.int 6), .t (.int 7)] := rfl
end
end Hw
namespace Hw
open PySem L2
/-! ### the end of laws of two classes -/
def atE (C E : Addr) : Nat → Addr
  | 0 => C
  | _ => E
def fldE : Nat → List Str
  | 1 => [("_first" : Str), ("_second" : Str)]
  | _ => []
theorem fldE_in {x : Str} {c : Nat} (h : x ∈ fldE c) : c = 1 ∧ (x = "_first" ∨ x = "_second") := by
  unfold fldE at h
  split at h
  · simp only [List.mem_cons, List.not_mem_nil, or_false] at h
    exact ⟨rfl, h⟩
  · simp at h
theorem fldE_no {x : Str} {c : Nat} (h1 : (x == ("_first" : Str)) = false) (h2 : (x == ("_second" : Str)) = false) (h : x ∈ fldE c) : False := by
  rcases (fldE_in h).2 with rfl | rfl
  · rw [beq_self_eq_true] at h1; cases h1
  · rw [beq_self_eq_true] at h2; cases h2
section
variable {G : Gc} {k n : Nat} {f : Addr} {fd : FuncData} {x : Str} {dws : List W} {l : List Src}
theorem fld_rat {x : Str} (hfl : G.T.flds = fldE) (h1 : (x == ("_first" : Str)) = false) (h2 : (x == ("_second" : Str)) = false) (cl : Cls G.K (G.T.at_ 0)) (na : NoAttr G.K (G.T.at_ 0) x) : FldOk G x :=
  ⟨fun _ => ⟨cl, na⟩, fun c h => by rw [hfl] at h; exact (fldE_no h1 h2 h).elim⟩
theorem fld_e8 {x : Str} (hfl : G.T.flds = fldE) (h1 : (x == ("_top" : Str)) = false) (h2 : (x == ("_bottom" : Str)) = false) (cl : Cls G.K (G.T.at_ 1)) (na : NoAttr G.K (G.T.at_ 1) x) : FldOk G x := by
  refine ⟨fun h => ?_, fun c h => ?_⟩
  · rcases h with rfl | rfl
    · rw [beq_self_eq_true] at h1; cases h1
    · rw [beq_self_eq_true] at h2; cases h2
  · rw [hfl] at h
    obtain ⟨rfl, _⟩ := fldE_in h
    exact ⟨cl, na⟩
theorem e8t_of (hfl : G.T.flds = fldE) : E8T G.T := by
  unfold E8T
  rw [hfl]
  rfl
/-- Eight(x), the second part by its default -/
theorem cal_mkE1 (C : Cal G k (.ref (G.T.at_ 1)) 1 [] (fun xs _ A Q => sMkE (xs ++ [.t (.tup [.int 0, .int 0, .int 0, .int 0])]) A Q)) : Cal G k (.ref (G.T.at_ 1)) 1 [] sMkE1 := by
  refine C.weakL (fun xs ys A Q Q' h z => ?_) fun xs ys A Q h1 h2 z => ?_
  · unfold sMkE1 at z ⊢
    split at z
    · exact mon_mkE _ _ _ _ h z
    · exact z.elim
  · obtain ⟨a, rfl⟩ := len1 h1
    exact z
theorem cal_mkEK {ks : List Str} (hk : ks.length = 2) (C : Cal G k (.ref (G.T.at_ 1)) 0 ks (fun _ ys A Q => sMkE ys.reverse A Q)) : Cal G k (.ref (G.T.at_ 1)) 0 ks (swp sMkE) := by
  refine C.weakL (fun xs ys A Q Q' h z => ?_) fun xs ys A Q h1 h2 z => ?_
  · unfold swp at z ⊢
    split at z
    · exact mon_mkE _ _ _ _ h z
    · exact z.elim
  · obtain ⟨a, b, rfl⟩ := len2 (h2.trans hk)
    exact z
theorem cal_asE2 (F : Fn G k f fd ["_law_pot_here", "_law_numbers", "_law_bottom"] sAsE) (B : Bd G fd ["_law_pot_here", "_law_numbers", "_law_bottom"] 2 [] [.t (.int 1)] [.p 0, .p 1, .d 0]) : Cal G k (.ref f) 2 [] sAsE2 := by
  refine (cal_fn F B fun xs ys h1 h2 => ?_).weakL (fun xs ys A Q Q' h z => ?_) fun xs ys A Q h1 h2 z => ?_
  · obtain rfl : ys = [] := List.length_eq_zero_iff.mp h2
    obtain ⟨a, b, rfl⟩ := len2 h1
    rfl
  · unfold sAsE2 at z ⊢
    split at z
    · exact F.mono _ _ _ _ h z
    · exact z.elim
  · obtain rfl : ys = [] := List.length_eq_zero_iff.mp h2
    obtain ⟨a, b, rfl⟩ := len2 h1
    exact z
/-- a method by one position and one keyword -/
theorem cal_kw11 {ps ks : List Str} {S : OL} (F : Fn G k f fd ps S) (B : Bd G fd ps 1 ks [] [.p 0, .k 0]) (hl : ps.length = 2) (hk : ks.length = 1) : Cal G k (.ref f) 1 ks (kw11 S) := by
  refine (cal_fn F B fun xs ys h1 h2 => ?_).weakL (fun xs ys A Q Q' h z => ?_) fun xs ys A Q h1 h2 z => ?_
  · obtain ⟨a, rfl⟩ := len1 h1
    obtain ⟨b, rfl⟩ := len1 (h2.trans hk)
    exact hl.symm
  · unfold kw11 at z ⊢
    split at z
    · exact F.mono _ _ _ _ h z
    · exact z.elim
  · obtain ⟨a, rfl⟩ := len1 h1
    obtain ⟨b, rfl⟩ := len1 (h2.trans hk)
    exact z
theorem mth_irr {m : Str} {pt : D → Bool} {ks : List Str} {S : OL} (F : Mth G k m pt n ks (posK S)) : Mth G k m pt n ks (posK (Irr S)) := by rw [irr_eq]; exact F
theorem mth_kirr {m : Str} {pt : D → Bool} {ks : List Str} {S : OL} (F : Mth G k m pt n ks (kw11 S)) : Mth G k m pt n ks (kw11 (Irr S)) := by rw [irr_eq]; exact F
theorem prp_irr {m : Str} {pt : D → Bool} {S : OL} (F : Prp G k m pt S) : Prp G k m pt (Irr S) := by rw [irr_eq]; exact F
theorem opE_irr {S : OL} {base : O2} {g : Value → Value → Sem Value} (F : SO2 G k g (opE S base)) : SO2 G k g (opE (Irr S) base) := by rw [irr_eq]; exact F
theorem negE_irr {S : OL} {base : O1} {g : Value → Sem Value} (F : SO1 G k g (negE S base)) : SO1 G k g (negE (Irr S) base) := by rw [irr_eq]; exact F
theorem cal_weakP {u : Value} {S S' : OL} (F : Cal G k u n [] (posK S)) (hm : MonL S') (h : ∀ ws A Q, S' ws A Q → S ws A Q) : Cal G k u n [] (posK S') := F.weak (fun xs ys A Q Q' h z => hm _ _ _ _ h z) fun xs ys A Q z => h _ _ _ z
theorem so2_up {g : Value → Value → Sem Value} {r : O2} {j : Nat} (F : SO2 G j g r) (h : j ≤ k) : SO2 G k g r := ⟨F.mono, fun X hX => F.run X (hX.mono h)⟩
theorem so1_up {g : Value → Sem Value} {r : O1} {j : Nat} (F : SO1 G j g r) (h : j ≤ k) : SO1 G k g r := ⟨F.mono, fun X hX => F.run X (hX.mono h)⟩
end
end Hw
set_option maxHeartbeats 0
namespace Hw
open PySem L2
local macro_rules | `(tactic| walk_at "hw slot") => `(tactic| focus (first | (with_reducible exact slot0) | (with_reducible apply slotS; walk_at "hw slot")))
local macro_rules | `(tactic| walk_at "hw n") => `(tactic| focus (first | exact nn_nil | (apply nn_cons; walk_at "hw n")))
local macro_rules | `(tactic| walk_at "hw ks") => `(tactic| focus (first | exact ks_nil | (apply ks_cons; walk_at "hw ks")))
local macro_rules | `(tactic| walk_at "hw bin") => `(tactic| focus (first
  | assumption | exact so_add (k := 0) | exact so_sub (k := 0) | exact so_mul (k := 0)
  | exact so_fdiv (k := 0) | exact so_mod (k := 0) | exact so_pow (k := 0)))
local macro_rules | `(tactic| walk_at "hw cmp") => `(tactic| focus (first
  | assumption | exact so_eqT (k := 0) | exact so_neT (k := 0) | exact so_lt (k := 0)
  | exact so_le (k := 0) | exact so_gt (k := 0) | exact so_ge (k := 0) | exact so_isT (k := 0)))
local macro_rules | `(tactic| walk_at "hw e") => `(tactic| focus (first
  | (show SE _ (.Name _ _) _; first | (apply se_nm; walk_at "hw slot"; (dsimp only [Ctx.blk]; decide +kernel)) | (apply se_namR; (with_reducible assumption); exact rfl; (dsimp only [Ctx.blk]; decide +kernel)) | (trace_state; fail)) | (show SE _ (.Constant _ _ _) _; first | exact se_int | exact se_bl | exact se_str | exact se_non | (trace_state; fail)) | (show SE _ (.Attribute _ _ _) _; first | (apply se_fldR; walk_at "hw e"; (with_reducible assumption); exact rfl; (intro _; first | exact rfl | with_unfolding_all exact rfl)) | (apply se_prpR; (with_reducible assumption); exact rfl; (dsimp only [Ctx.blk]; decide +kernel); walk_at "hw e"; (intro _; first | exact rfl | with_unfolding_all exact rfl)) | (trace_state; fail)) | (show SE _ (.Call (.Name _ _) _ _ _) _; first | (apply se_bifR; (with_reducible assumption); exact rfl; (dsimp only [Ctx.blk]; decide +kernel); (dsimp only [Ctx.blk]; decide +kernel); walk_at "hw a"; (intro _; first | exact rfl | with_unfolding_all exact rfl); (intro _; first | exact rfl | with_unfolding_all exact rfl)) | (apply se_fncR; walk_at "hw n"; walk_at "hw ks"; (with_reducible assumption); exact rfl; (dsimp only [Ctx.blk]; decide +kernel); (dsimp only [Ctx.blk]; decide +kernel); walk_at "hw a"; walk_at "hw k"; (intro _; exact ⟨rfl, rfl, rfl⟩); (intro _; first | exact rfl | with_unfolding_all exact rfl)) | (apply se_fnc0R; walk_at "hw ks"; (with_reducible assumption); exact rfl; (dsimp only [Ctx.blk]; decide +kernel); (dsimp only [Ctx.blk]; decide +kernel); walk_at "hw k"; (intro _; exact ⟨rfl, rfl, rfl⟩)) | (apply se_callV; walk_at "hw e"; assumption; exact lv_le (by dsimp only [Ctx.blk]; decide +kernel); walk_at "hw a"; walk_at "hw k"; (intro _; exact ⟨rfl, rfl, rfl⟩); (intro _; first | exact rfl | with_unfolding_all exact rfl)) | (trace_state; fail))
  | (show SE _ (.Call (.Attribute _ _ _) _ _ _) _; first | (apply se_join2; walk_at "hw e"; walk_at "hw e"; (intro _; first | exact rfl | with_unfolding_all exact rfl); (intro _; first | exact rfl | with_unfolding_all exact rfl); exact rfl) | (apply se_app; walk_at "hw e"; walk_at "hw e"; (intro _; first | exact rfl | with_unfolding_all exact rfl); (intro _; first | exact rfl | with_unfolding_all exact rfl | decide); exact rfl; (intro _; first | exact rfl | with_unfolding_all exact rfl); (intro _; first | exact rfl | with_unfolding_all exact rfl)) | (apply se_cmtR; (apply se_namR; (with_reducible assumption); exact rfl; (dsimp only [Ctx.blk]; decide +kernel)); (apply nn_s; walk_at "hw n"); walk_at "hw ks"; (with_reducible assumption); exact rfl; (dsimp only [Ctx.blk]; decide +kernel); walk_at "hw a"; walk_at "hw k"; (intro _; exact ⟨rfl, rfl, rfl⟩); (intro _; first | exact rfl | with_unfolding_all exact rfl); (intro _; first | exact rfl | with_unfolding_all exact rfl)) | (apply se_cmt0R; (apply se_namR; (with_reducible assumption); exact rfl; (dsimp only [Ctx.blk]; decide +kernel)); walk_at "hw ks"; (with_reducible assumption); exact rfl; (dsimp only [Ctx.blk]; decide +kernel); walk_at "hw k"; (intro _; exact ⟨rfl, rfl, rfl⟩); (intro _; first | exact rfl | with_unfolding_all exact rfl)) | (apply se_mthR; (apply nn_s; walk_at "hw n"); walk_at "hw ks"; (with_reducible assumption); exact rfl; (dsimp only [Ctx.blk]; decide +kernel); walk_at "hw e"; walk_at "hw a"; walk_at "hw k"; (intro _; exact ⟨rfl, rfl, rfl⟩); (intro _; first | exact rfl | with_unfolding_all exact rfl); (intro _; first | exact rfl | with_unfolding_all exact rfl)) | (apply se_mth0R; walk_at "hw ks"; (with_reducible assumption); exact rfl; (dsimp only [Ctx.blk]; decide +kernel); walk_at "hw e"; walk_at "hw k"; (intro _; exact ⟨rfl, rfl, rfl⟩); (intro _; first | exact rfl | with_unfolding_all exact rfl)) | (trace_state; fail)) | (apply se_bin; walk_at "hw bin"; exact lv_le (by dsimp only [Ctx.blk]; decide +kernel); walk_at "hw e"; walk_at "hw e") | (apply se_cmp; walk_at "hw cmp"; exact lv_le (by dsimp only [Ctx.blk]; decide +kernel); walk_at "hw e"; walk_at "hw e"; exact rfl) | (apply se_not; walk_at "hw e")
  | (apply se_un; (first | assumption | exact so_neg (k := 0)); exact lv_le (by dsimp only [Ctx.blk]; decide +kernel); walk_at "hw e") | (apply se_one; walk_at "hw e") | (apply se_and; walk_at "hw e"; walk_at "hw e") | (apply se_or; walk_at "hw e"; walk_at "hw e")
  | (apply se_if; walk_at "hw t"; walk_at "hw e"; walk_at "hw e") | (apply se_tup; walk_at "hw a") | (apply se_lst; walk_at "hw a") | (apply se_slcI; walk_at "hw e"; (first | exact bnd_none | exact bnd_some); (first | exact bnd_none | exact bnd_some))
  | (apply se_ix; walk_at "hw e"; walk_at "hw e"; (intro _ _; first | exact rfl | with_unfolding_all exact rfl)) | (show SE _ (.JoinedStr _ _) _; first | (apply se_join1; walk_at "hw e") | (apply se_join; walk_at "hw j") | (trace_state; fail)) | (apply se_fmt; walk_at "hw e") | exact se_dic
  | (apply se_lcG1; walk_at "hw slot"; exact rfl; (dsimp only [Ctx.blk]; decide +kernel); walk_at "hw i"; (dsimp only [Ctx.blk]; decide +kernel); walk_at "hw ts"; walk_at "hw e"; (intro _ _; first | exact rfl | with_unfolding_all exact rfl)) | (apply se_lcG2; walk_at "hw slot"; walk_at "hw slot"; exact rfl; (dsimp only [Ctx.blk]; decide +kernel); walk_at "hw i"; (dsimp only [Ctx.blk]; decide +kernel); (dsimp only [Ctx.blk]; decide +kernel); walk_at "hw ts"; walk_at "hw e"; (intro _ _; first | exact rfl | with_unfolding_all exact rfl)) | (trace_state; fail)))
local macro_rules | `(tactic| walk_at "hw j") => `(tactic| focus (first
  | exact sj_nil | (apply sj_cons; walk_at "hw e"; walk_at "hw j") | (trace_state; fail)))
local macro_rules | `(tactic| walk_at "hw ts") => `(tactic| focus (first
  | exact sts_nil | (apply sts_one; walk_at "hw t") | (trace_state; fail)))
local macro_rules | `(tactic| walk_at "hw gs") => `(tactic| focus (first
  | exact sgs_nil | (apply sgs_cons; walk_at "hw g"; walk_at "hw gs"; (intro _; first | exact rfl | with_unfolding_all exact rfl)) | (trace_state; fail)))
local macro_rules | `(tactic| walk_at "hw a") => `(tactic| focus (first
  | exact sa_nil | (apply sa_cons; walk_at "hw e"; walk_at "hw a"; (intro _; first | exact rfl | with_unfolding_all exact rfl)) | (trace_state; fail)))
local macro_rules | `(tactic| walk_at "hw k") => `(tactic| focus (first
  | exact sk_nil | (apply sk_cons; walk_at "hw e"; walk_at "hw k") | (trace_state; fail)))
local macro_rules | `(tactic| walk_at "hw t") => `(tactic| focus (first
  | (show ST _ (.Compare _ _ _ _) _; first | (apply st_cmp; walk_at "hw cmp"; exact lv_le (by dsimp only [Ctx.blk]; decide +kernel); walk_at "hw e"; walk_at "hw e"; exact rfl) | (trace_state; fail)) | (show ST _ (.BoolOp _ _ _) _; apply SW.st; walk_at "hw w") | (apply st_not; walk_at "hw t") | (apply st_truth; walk_at "hw e"; (intro _ _; first | exact rfl | with_unfolding_all exact rfl))
  | (trace_state; fail)))
local macro_rules | `(tactic| walk_at "hw w") => `(tactic| focus (first
  | (apply sw_and1; walk_at "hw t") | (apply sw_or1; walk_at "hw t") | (apply sw_and; walk_at "hw t"; walk_at "hw w") | (apply sw_or; walk_at "hw t"; walk_at "hw w")
  | (trace_state; fail)))
local macro_rules | `(tactic| walk_at "hw ss") => `(tactic| focus (first
  | exact sss_nil | (apply sss_one; walk_at "hw s") | (apply sss_cons; walk_at "hw s"; walk_at "hw ss") | (trace_state; fail)))
local macro_rules | `(tactic| walk_at "hw g") => `(tactic| focus (first
  | (apply sg_nm; walk_at "hw slot"; (dsimp only [Ctx.blk]; decide +kernel)) | (apply sg_ce; walk_at "hw slot"; exact rfl; (dsimp only [Ctx.blk]; decide +kernel)) | (apply sg_sq; walk_at "hw gs"; (intro _; first | exact rfl | with_unfolding_all exact rfl); (intro _; first | exact rfl | with_unfolding_all exact rfl)) | (apply sg_sub; walk_at "hw e"; walk_at "hw e"; (intro _ _; first | exact rfl | with_unfolding_all exact rfl))
  | (trace_state; fail)))
local macro_rules | `(tactic| walk_at "hw i") => `(tactic| focus (first
  | (apply si_rg1; (with_reducible assumption); (dsimp only [Ctx.blk]; decide +kernel); walk_at "hw a"; (intro _; first | exact rfl | with_unfolding_all exact rfl)) | (apply si_rg2; (with_reducible assumption); (dsimp only [Ctx.blk]; decide +kernel); walk_at "hw a"; (intro _; first | exact rfl | with_unfolding_all exact rfl); (intro _; first | exact rfl | with_unfolding_all exact rfl)) | (apply si_zipS; (with_reducible assumption); exact rfl; (dsimp only [Ctx.blk]; decide +kernel); walk_at "hw a"; (intro _; first | exact rfl | with_unfolding_all exact rfl); (intro _; first | exact rfl | with_unfolding_all exact rfl)) | (apply si_enum; (with_reducible assumption); exact rfl; (dsimp only [Ctx.blk]; decide +kernel); walk_at "hw a"; (intro _; first | exact rfl | with_unfolding_all exact rfl))
  | (apply si_any; walk_at "hw e") | (trace_state; fail)))
local macro_rules | `(tactic| walk_at "hw s") => `(tactic| focus (first
  | (apply ss_ret; walk_at "hw e") | (apply ss_ifL; walk_at "hw t") | exact ss_raise | exact ss_pass
  | (apply ss_lcG1; walk_at "hw slot"; (dsimp only [Ctx.blk]; decide +kernel); walk_at "hw slot"; exact rfl; (dsimp only [Ctx.blk]; decide +kernel); walk_at "hw i"; (dsimp only [Ctx.blk]; decide +kernel); walk_at "hw ts"; walk_at "hw e"; (intro _ _; first | exact rfl | with_unfolding_all exact rfl); exact rfl; decide +kernel) | (apply ss_st; walk_at "hw slot"; (dsimp only [Ctx.blk]; decide +kernel); walk_at "hw e"; (intro _; first | exact rfl | with_unfolding_all exact rfl)) | (apply ss_ce; walk_at "hw slot"; exact rfl; (dsimp only [Ctx.blk]; decide +kernel); walk_at "hw e"; (intro _; first | exact rfl | with_unfolding_all exact rfl)) | (apply ss_whileL; walk_at "hw t")
  | (apply ss_expr; walk_at "hw e"; (intro _; first | exact rfl | with_unfolding_all exact rfl)) | (apply ss_fld; assumption; (with_reducible assumption); walk_at "hw e"; walk_at "hw e"; (intro _; first | exact rfl | with_unfolding_all exact rfl)) | (apply ss_forG; walk_at "hw i"; walk_at "hw g"; (intro _ _; first | exact rfl | with_unfolding_all exact rfl)) | (apply ss_two; walk_at "hw slot"; walk_at "hw slot"; decide; decide +kernel; (dsimp only [Ctx.blk]; decide +kernel); walk_at "hw a"; (intro _; first | exact rfl | with_unfolding_all exact rfl))
  | (apply ss_three; walk_at "hw slot"; walk_at "hw slot"; walk_at "hw slot"; decide; decide; decide; decide +kernel; decide +kernel; decide +kernel; (dsimp only [Ctx.blk]; decide +kernel); walk_at "hw a"; (intro _; first | exact rfl | with_unfolding_all exact rfl)) | (apply ss_ce2; (dsimp only [Ctx.blk]; decide +kernel); walk_at "hw e"; walk_at "hw g"; (intro _; first | exact rfl | with_unfolding_all exact rfl); (intro _; first | exact rfl | with_unfolding_all exact rfl)) | (apply ss_ce3; (dsimp only [Ctx.blk]; decide +kernel); walk_at "hw e"; walk_at "hw g"; (intro _; first | exact rfl | with_unfolding_all exact rfl); (intro _; first | exact rfl | with_unfolding_all exact rfl)) | (apply ss_asg; walk_at "hw e"; walk_at "hw g"; (intro _; first | exact rfl | with_unfolding_all exact rfl); (intro _; first | exact rfl | exact swn2 | with_unfolding_all exact rfl); (intro _; first | exact rfl | with_unfolding_all exact rfl))
  | (trace_state; fail)))

local macro_rules | `(tactic| walk_at "hw side") => `(tactic| first | with_reducible assumption | exact rfl | ((with_reducible refine And.intro ?_ ?_) <;> walk_at "hw side") | exact List.cons_ne_nil _ _ | exact Nat.le_of_ble_eq_true rfl | (with_reducible apply sm_lit; decide +kernel) | (with_reducible apply get_set; with_reducible assumption) | (simp only [List.length_set, List.length_append]; done) | decide | omega | (simp only [str_app]; omega) | assumption | exact trivial)
local macro_rules | `(tactic| walk_at "hw flat") => `(tactic| first | exact ft_nil | (apply ft_int; (focus (walk_at "hw side")); walk_at "hw flat") | (apply ft_bl; walk_at "hw flat"))
local macro_rules | `(tactic| walk_at "hw cell") => `(tactic| first | with_reducible assumption | exact get_app | (apply get_set; walk_at "hw cell") | assumption)
local macro_rules | `(tactic| walk_at "hw take") => `(tactic| first | exact tk_app | (apply tk_set; walk_at "hw take"))
local macro_rules | `(tactic| walk_at "hw len") => `(tactic| first | exact (by decide : 0 < 100) | exact (by decide : 0 < 99) | exact (by decide : 0 < 98) | exact (by decide : 0 < 97) | exact (by decide : 0 < 96) | (apply putD_lt; walk_at "hw len"))
local macro_rules | `(tactic| walk_at "hw at") => `(tactic| first | exact at_0 rfl | exact at_1 rfl | exact at_2 rfl | exact at_3 rfl | exact at_4 rfl | exact at_5 rfl | exact at_6 rfl | exact at_7 rfl | assumption)
local macro_rules | `(tactic| walk_at "hw cond") => `(tactic| first | with_reducible assumption | exact rfl | exact beq_self_eq_true _ | exact decide_eq_true rfl | exact nself _ | decide | (simp only [isInt, isBl, isLst, isTup, isStr, isC, Bool.not_true, Bool.not_false, Bool.or_true, Bool.true_or, Bool.or_false, Bool.false_or]; done) | assumption | ((try simp only [beq_iff_eq, bne_iff_ne, ne_eq, decide_eq_true_eq, Bool.not_eq_true', Bool.not_eq_false', Bool.not_eq_true, Bool.not_eq_false, beq_eq_false_iff_ne, decide_eq_false_iff_not, Bool.and_eq_true, Bool.or_eq_true]); omega))
local macro_rules | `(tactic| walk_at "hw mon") => `(tactic| first | exact mon_dName | exact mon_dTup (mon_dCons mon_dName (mon_dCons mon_dName mon_dNil)) | exact mon_dTup (mon_dCons mon_dName (mon_dCons mon_dName (mon_dCons mon_dName mon_dNil))))
local macro_rules | `(tactic| walk_at "hw one") => `(tactic| (intro B K hB hj hK; (try simp only [wipeE, List.set_cons_zero, List.set_cons_succ]); (walk_at "hw steps"); exact hK))
local macro_rules | `(tactic| walk_at "hw each") => `(tactic| ((repeat (apply each_cons; (focus (walk_at "hw one")))); exact each_nil))
local macro_rules | `(tactic| walk_at "hw sub") => `(tactic| ((try (conv => whnf)); first
  | (apply told_use; (focus (with_reducible assumption))) | (apply told2_use; (focus (with_reducible assumption))) | (apply told_go; (focus (with_reducible assumption))) | (apply is4_go; (focus (with_reducible assumption))) | (apply are4_go; (focus (with_reducible assumption))) | (apply told4_go; (focus (with_reducible assumption))) | (apply And.intro; (focus (with_reducible assumption))) | (apply And.intro; (focus (exact rfl))) | (apply if_t; (focus (exact rfl))) | (apply if_f; (focus (exact rfl)))
  | (apply And.intro; (focus (walk_at "hw side"))) | (apply isi_int; (focus assumption)) | (apply isi_bool; (focus assumption))
  | (apply isi_list; (focus assumption)) | (apply isi_tuple; (focus assumption)) | (apply isi_str; (focus assumption))
  | (apply isi_lt; (focus assumption)) | (apply isi_cls; (focus assumption)) | (apply if_t; (focus (walk_at "hw cond")))
  | (apply if_f; (focus (walk_at "hw cond"))) | (apply put_go; (focus (walk_at "hw side")); (focus (walk_at "hw len"))) | (apply rp_lst; (focus (walk_at "hw flat")); (focus (walk_at "hw side")); (focus (walk_at "hw side"))) | (apply rp_own; (focus (walk_at "hw side"))) | (apply lc_each; (focus (walk_at "hw mon")); (focus (walk_at "hw each")); (focus (walk_at "hw side"))) | (apply ix_tup; (focus (walk_at "hw at")))
  | (apply ix_lst; (focus (walk_at "hw at"))) | (apply ix_loc; (focus (walk_at "hw side")); (focus (walk_at "hw at"))) | (apply set_0; (focus (walk_at "hw side")))
  | (apply set_1; (focus (walk_at "hw side"))) | (apply fldG_top) | (apply fldG_bottom) | (apply row3_go; (focus (with_reducible assumption)); (focus (with_reducible assumption))) | (apply row4_go; (focus (with_reducible assumption)); (focus (with_reducible assumption))) | (apply row8_go; (focus (with_reducible assumption)); (focus (with_reducible assumption))) | (apply fill3_go; (focus (with_reducible assumption)); (focus (with_reducible assumption))) | (apply fill4_go; (focus (with_reducible assumption)); (focus (with_reducible assumption))) | (apply drawn8_go; (focus (with_reducible assumption))) | (apply lineD_go; (focus (with_reducible assumption))) | (apply asE_go; (focus (with_reducible assumption)); (focus (with_reducible assumption)); (focus (with_reducible assumption))) | (apply I1_go; (focus (first | with_reducible assumption | exact trivial))) | (apply I2_go; (focus (with_reducible assumption))) | (apply slc_t1) | (apply slc_l1) | (apply slc_lo) | (apply slc_hi) | (apply fldE1; (focus assumption)) | (apply fldE2; (focus assumption)) | (apply mkE_rat) | (apply mkE_go; (focus (with_reducible assumption)); (focus (with_reducible assumption))) | (apply e1_go; (focus (first | with_reducible assumption | exact trivial))) | (apply e2_go; (focus (with_reducible assumption))) | (apply en_go; (focus (with_reducible assumption)); (focus (with_reducible assumption))) | (apply und4_go; (focus (with_reducible assumption)); (focus (with_reducible assumption)); (focus (with_reducible assumption)))
  | (apply rk_end) | (apply rt_end; (focus (walk_at "hw side"))) | (apply nx_end; (focus (walk_at "hw side"))) | (refine ⟨_, rfl, ?_⟩)))
local macro_rules | `(tactic| walk_at "hw env") => `(tactic| ((try simp only [startE, List.map_cons, List.map_nil, List.length_cons, List.length_nil, List.cons_append, List.nil_append, List.replicate_succ, List.replicate_zero, Nat.reduceAdd, Nat.reduceSub, Nat.zero_add]); (try simp only [List.set_cons_zero, List.set_cons_succ])))
local macro_rules | `(tactic| walk_at "hw wp") => `(tactic| first
  | ((with_reducible apply wp_end); (focus (exact rfl)))
  | ((with_reducible apply wp_at); (focus (exact rfl)); (focus (walk_at "hw s")))
  | (with_reducible apply wp_nil) | ((with_reducible apply wp_one); (focus (walk_at "hw s"))) | ((with_reducible apply wp_cons); (focus (walk_at "hw s"))))
local macro_rules | `(tactic| walk_at "hw go") => `(tactic| ((walk_at "hw env"); (walk_at "hw wp")))
local macro_rules | `(tactic| walk_at "hw steps") => `(tactic| repeat (walk_at "hw sub"))
local macro_rules | `(tactic| walk_at "hw st") => `(tactic| ((try (conv => whnf)); (walk_at "hw go"); (walk_at "hw steps")))
local macro_rules | `(tactic| walk_at "hw no") => `(tactic| ((try (conv => whnf)); (walk_at "hw env"); (with_reducible apply wp_no); (focus (exact rfl)); (focus (walk_at "hw t"))))
local macro_rules | `(tactic| walk_at "hw step") => `(tactic| first | ((try (conv => whnf)); (walk_at "hw go")) | (walk_at "hw sub"))
local macro_rules | `(tactic| walk_at "hw run") => `(tactic| repeat (walk_at "hw step"))
def top (i : Nat) : Stmt := PySem.Challenge.pw_hingerows_k13_whole_eights.main.body.getD i (.Pass ⟨0, 0, 0, 0⟩)
variable {G : Gc} {nc : Nat} {f : Addr} {fd : FuncData}
def FD (G : Gc) (s : Stmt) (x q : Str) (f : Addr) (fd : FuncData) : Prop := FunD G.K x q (defArgs s) (defBody s) (defScope s) [] [] f fd
abbrev t_isint : Stmt := top 11
theorem sc_isint : FnScope ["value"] ["value"] (defScope t_isint) := ⟨rfl, rfl, rfl, by decide +kernel, rfl, by decide +kernel, by decide +kernel⟩
theorem fn_isint (F : FD G t_isint "is_integer" "is_integer" f fd) (h0 : 0 < nc) (b_isi : Bif G 0 "isinstance" (isiW nc)) (n_int : Nam G "int" (.ty "int")) (n_bool : Nam G "bool" (.ty "bool")) : Fn G 1 f fd ["value"] (sIsInt nc) := by
  refine fn_bodyW F sc_isint mon_pure ?_
  intro ws A Q hl h
  match ws, hl with
  | [.loc n], _ => exact h.elim
  | [.t d], _ =>
    obtain ⟨h1, h2⟩ := h
    walk_at "hw run"
    cases d
    all_goals first | exact Bool.noConfusion h1 | (walk_at "hw run"; exact h2)
abbrev t_init : Stmt := inClass (top 14) 0
theorem sc_init : FnScope ["self", "top", "bottom", "divisor"] ["self", "top", "bottom"] (defScope t_init) := ⟨rfl, rfl, rfl, by decide +kernel, rfl, by decide +kernel, by decide +kernel⟩
theorem fn_init (F : FunD G.K "__init__" "Ratio.__init__" (defArgs t_init) (defBody t_init) (defScope t_init) [.int 1] [] f fd) (h0 : 0 < nc) (c_isint : Fnc G 1 "is_integer" 1 [] (posK (sIsInt nc))) (b_gcd : Bif G 0 "gcd" (i2W fun i j => ((Nat.gcd i.natAbs j.natAbs : Nat) : Int))) (cl : Cls G.K (G.T.at_ 0)) (na1 : NoAttr G.K (G.T.at_ 0) "_top") (na2 : NoAttr G.K (G.T.at_ 0) "_bottom") : Fn G 2 f fd ["self", "top", "bottom"] sInit := by
  refine fn_bodyW F sc_init mon_init ?_
  intro ws A Q hl h
  unfold sInit at h
  split at h
  · obtain ⟨h1, h2, h3, h4, h5⟩ := h
    rename_i n a b
    have e1 := mk_num a b h1
    have e2 := mk_den a b h1
    have g1 := gcd_ne a b h1
    have g2 : Sm ((Nat.gcd a.natAbs b.natAbs : Nat) : Int) := gcd_sm h1 h3
    have g3 : ((Nat.gcd a.natAbs b.natAbs : Nat) : Int) ≠ 0 := by omega
    have g4 : -((Nat.gcd a.natAbs b.natAbs : Nat) : Int) ≠ 0 := by omega
    have g5 : Sm (-((Nat.gcd a.natAbs b.natAbs : Nat) : Int)) := g2.neg
    walk_at "hw run"
    refine if_2 (fun hb => ?_) (fun hb => ?_)
    · rw [if_pos (of_decide_eq_true hb)] at e1 e2
      rw [← e1, ← e2] at h5
      walk_at "hw run"
      exact fn_sets h5
    · rw [if_neg (of_decide_eq_false hb)] at e1 e2
      rw [← e1, ← e2] at h5
      walk_at "hw run"
      exact fn_sets h5
  · exact h.elim
abbrev t_told : Stmt := top 16
theorem sc_told : FnScope ["number"] ["number"] (defScope t_told) := ⟨rfl, rfl, rfl, by decide +kernel, rfl, by decide +kernel, by decide +kernel⟩
theorem fn_told (F : FD G t_told "told_number" "told_number" f fd) (h0 : 0 < nc) (b_isi : Bif G 0 "isinstance" (isiW nc)) (n_Ratio : Nam G "Ratio" (.cls 0)) (c_isint : Fnc G 1 "is_integer" 1 [] (posK (sIsInt nc))) (c_mk1 : Fnc G 3 "Ratio" 1 [] sMk1) : Fn G 4 f fd ["number"] sTold := by
  refine fn_bodyW F sc_told mon_pure ?_
  intro ws A Q hl h
  unfold sTold pureS at h
  match ws with
  | [.t (.rat q)] =>
    obtain ⟨h1, h2⟩ := h
    walk_at "hw run"
    exact h2
  | [.t (.int i)] =>
    obtain ⟨h1, h2⟩ := h
    walk_at "hw run"
    exact h2
abbrev t_isnum : Stmt := top 15
theorem sc_isnum : FnScope ["value"] ["value"] (defScope t_isnum) := ⟨rfl, rfl, rfl, by decide +kernel, rfl, by decide +kernel, by decide +kernel⟩
theorem fn_isnum (F : FD G t_isnum "is_number" "is_number" f fd) (h0 : 0 < nc) (b_isi : Bif G 0 "isinstance" (isiW nc)) (n_Ratio : Nam G "Ratio" (.cls 0)) (c_isint : Fnc G 1 "is_integer" 1 [] (posK (sIsInt nc))) : Fn G 2 f fd ["value"] (sIsNum nc) := by
  refine fn_bodyW F sc_isnum mon_pure ?_
  intro ws A Q hl h
  match ws, hl with
  | [.loc n], _ => exact h.elim
  | [.t d], _ =>
    obtain ⟨h1, h2⟩ := h
    unfold isNum at h2
    walk_at "hw run"
    cases hd : isC 0 d
    · rw [hd] at h2
      walk_at "hw run"
      exact h2
    · rw [hd] at h2
      walk_at "hw run"
      exact h2
abbrev t_top : Stmt := inClass (top 14) 1
theorem sc_top : FnScope ["self"] ["self"] (defScope t_top) := ⟨rfl, rfl, rfl, by decide +kernel, rfl, by decide +kernel, by decide +kernel⟩
theorem fn_top (F : FD G t_top "top" "Ratio.top" f fd) (f1 : FldOk G "_top") : Fn G 1 f fd ["self"] sTop := by
  refine fn_bodyW F sc_top mon_pure ?_
  intro ws A Q hl h
  obtain ⟨q, rfl, h1, h2⟩ := uR_cases h
  walk_at "hw run"
  exact h2
abbrev t_bottom : Stmt := inClass (top 14) 2
theorem sc_bottom : FnScope ["self"] ["self"] (defScope t_bottom) := ⟨rfl, rfl, rfl, by decide +kernel, rfl, by decide +kernel, by decide +kernel⟩
theorem fn_bottom (F : FD G t_bottom "bottom" "Ratio.bottom" f fd) (f2 : FldOk G "_bottom") : Fn G 1 f fd ["self"] sBottom := by
  refine fn_bodyW F sc_bottom mon_pure ?_
  intro ws A Q hl h
  obtain ⟨q, rfl, h1, h2⟩ := uR_cases h
  walk_at "hw run"
  exact h2
abbrev t_sign : Stmt := inClass (top 14) 3
theorem sc_sign : FnScope ["self"] ["self"] (defScope t_sign) := ⟨rfl, rfl, rfl, by decide +kernel, rfl, by decide +kernel, by decide +kernel⟩
theorem fn_sign (F : FD G t_sign "sign" "Ratio.sign" f fd) (f1 : FldOk G "_top") : Fn G 1 f fd ["self"] sSign := by
  refine fn_bodyW F sc_sign mon_pure ?_
  intro ws A Q hl h
  obtain ⟨q, rfl, h1, h2⟩ := uR_cases h
  rcases sign_cases q.num with ⟨a1, a2⟩ | ⟨a1, a2, a3⟩ | ⟨a1, a2, a3⟩
  · rw [a2] at h2
    walk_at "hw run"
    exact h2
  · rw [a3] at h2
    walk_at "hw run"
    exact h2
  · rw [a3] at h2
    walk_at "hw run"
    exact h2
abbrev t_over : Stmt := inClass (top 14) 6
theorem sc_over : FnScope ["self", "other", "divisor"] ["self", "other"] (defScope t_over) := ⟨rfl, rfl, rfl, by decide +kernel, rfl, by decide +kernel, by decide +kernel⟩
theorem fn_over (F : FD G t_over "over" "Ratio.over" f fd) (h0 : 0 < nc) (c_told : Fnc G 4 "told_number" 1 [] (posK sTold)) (c_mk2 : Fnc G 3 "Ratio" 2 [] sMk2) (f1 : FldOk G "_top") (f2 : FldOk G "_bottom") : Fn G 5 f fd ["self", "other"] (bR pDiv fun q r => .rat (q / r)) := by
  refine fn_bodyW F sc_over mon_pure ?_
  intro ws A Q hl h
  rcases bR_cases h with ⟨q, r, rfl, h1, h2⟩ | ⟨q, i, rfl, h1, h2⟩
  · rw [← div_mk q r h1.2] at h2
    obtain ⟨s1, s2, s3, s4, s5, s6, s7, s8, s9, s0⟩ := h1.1.all
    have t2 : r.num ≠ 0 := fun z => h1.2 (num_zero.mp z)
    have t3 : (q.den * r.num : Int) ≠ 0 := Int.mul_ne_zero (den_ne q) t2
    walk_at "hw run"
    exact h2
  · rw [← div_mk q (i : Rat) h1.2] at h2
    obtain ⟨s1, s2, s3, s4, s5, s6, s7, s8, s9, s0⟩ := h1.1.all
    have t1 := sm_of_sz h1.1.2
    have t2 : (i : Rat).num ≠ 0 := fun z => h1.2 (num_zero.mp z)
    have t3 : (q.den * (i : Rat).num : Int) ≠ 0 := Int.mul_ne_zero (den_ne q) t2
    walk_at "hw run"
    exact h2
abbrev t_add : Stmt := inClass (top 14) 10
theorem sc_add : FnScope ["self", "other", "right", "top"] ["self", "other"] (defScope t_add) := ⟨rfl, rfl, rfl, by decide +kernel, rfl, by decide +kernel, by decide +kernel⟩
theorem fn_add (F : FD G t_add "__add__" "Ratio.__add__" f fd) (h0 : 0 < nc) (c_told : Fnc G 4 "told_number" 1 [] (posK sTold)) (c_mk2 : Fnc G 3 "Ratio" 2 [] sMk2) (f1 : FldOk G "_top") (f2 : FldOk G "_bottom") : Fn G 5 f fd ["self", "other"] (bR pSz fun q r => .rat (q + r)) := by
  refine fn_bodyW F sc_add mon_pure ?_
  intro ws A Q hl h
  rcases bR_cases h with ⟨q, r, rfl, h1, h2⟩ | ⟨q, i, rfl, h1, h2⟩
  · rw [← add_mk] at h2
    obtain ⟨s1, s2, s3, s4, s5, s6, s7, s8, s9, s0⟩ := h1.all
    walk_at "hw run"
    exact h2
  · rw [← add_mk] at h2
    obtain ⟨s1, s2, s3, s4, s5, s6, s7, s8, s9, s0⟩ := h1.all
    have t1 := sm_of_sz h1.2
    walk_at "hw run"
    exact h2
abbrev t_radd : Stmt := inClass (top 14) 11
theorem sc_radd : FnScope ["self", "other"] ["self", "other"] (defScope t_radd) := ⟨rfl, rfl, rfl, by decide +kernel, rfl, by decide +kernel, by decide +kernel⟩
theorem fn_radd (F : FD G t_radd "__radd__" "Ratio.__radd__" f fd) (o_add : SO2 G 5 (binaryOp .Add) (opL pSz (fun q r => .rat (q + r)) addL)) : Fn G 6 f fd ["self", "other"] (bRr pSz fun q r => .rat (q + r)) := by
  refine fn_bodyW F sc_radd mon_pure ?_
  intro ws A Q hl h
  obtain ⟨q, i, rfl, h1, h2⟩ := bRr_cases h
  have h3 : pSz q (i : Rat) := ⟨h1.2, h1.1⟩
  rw [Rat.add_comm] at h2
  walk_at "hw run"
  exact h2
abbrev t_sub : Stmt := inClass (top 14) 12
theorem sc_sub : FnScope ["self", "other"] ["self", "other"] (defScope t_sub) := ⟨rfl, rfl, rfl, by decide +kernel, rfl, by decide +kernel, by decide +kernel⟩
theorem fn_sub (F : FD G t_sub "__sub__" "Ratio.__sub__" f fd) (h0 : 0 < nc) (c_told : Fnc G 4 "told_number" 1 [] (posK sTold)) (o_add : SO2 G 5 (binaryOp .Add) (opL pSz (fun q r => .rat (q + r)) addL)) (o_neg : SO1 G 4 (unaryOp .USub) (negN pSz1 fun q => .rat (-q))) : Fn G 6 f fd ["self", "other"] (bR pSz fun q r => .rat (q - r)) := by
  refine fn_bodyW F sc_sub mon_pure ?_
  intro ws A Q hl h
  rcases bR_cases h with ⟨q, r, rfl, h1, h2⟩ | ⟨q, i, rfl, h1, h2⟩
  · rw [Rat.sub_eq_add_neg] at h2
    have t1 : pSz q (-r) := ⟨h1.1, h1.2.neg⟩
    have t2 : pSz1 r := h1.2
    walk_at "hw run"
    exact h2
  · rw [Rat.sub_eq_add_neg] at h2
    have t1 : pSz q (-(i : Rat)) := ⟨h1.1, h1.2.neg⟩
    have t2 : pSz1 (i : Rat) := h1.2
    have t3 := sm_of_sz h1.2
    walk_at "hw run"
    exact h2
abbrev t_rsub : Stmt := inClass (top 14) 13
theorem sc_rsub : FnScope ["self", "other"] ["self", "other"] (defScope t_rsub) := ⟨rfl, rfl, rfl, by decide +kernel, rfl, by decide +kernel, by decide +kernel⟩
theorem fn_rsub (F : FD G t_rsub "__rsub__" "Ratio.__rsub__" f fd) (h0 : 0 < nc) (c_told : Fnc G 4 "told_number" 1 [] (posK sTold)) (o_sub : SO2 G 6 (binaryOp .Sub) (opL pSz (fun q r => .rat (q - r)) subW)) : Fn G 7 f fd ["self", "other"] (bRr pSz fun q r => .rat (q - r)) := by
  refine fn_bodyW F sc_rsub mon_pure ?_
  intro ws A Q hl h
  obtain ⟨q, i, rfl, h1, h2⟩ := bRr_cases h
  have t3 := sm_of_sz h1.1
  walk_at "hw run"
  exact h2
abbrev t_mul : Stmt := inClass (top 14) 14
theorem sc_mul : FnScope ["self", "other", "right"] ["self", "other"] (defScope t_mul) := ⟨rfl, rfl, rfl, by decide +kernel, rfl, by decide +kernel, by decide +kernel⟩
theorem fn_mul (F : FD G t_mul "__mul__" "Ratio.__mul__" f fd) (h0 : 0 < nc) (c_told : Fnc G 4 "told_number" 1 [] (posK sTold)) (c_mk2 : Fnc G 3 "Ratio" 2 [] sMk2) (f1 : FldOk G "_top") (f2 : FldOk G "_bottom") : Fn G 5 f fd ["self", "other"] (bR pSz fun q r => .rat (q * r)) := by
  refine fn_bodyW F sc_mul mon_pure ?_
  intro ws A Q hl h
  rcases bR_cases h with ⟨q, r, rfl, h1, h2⟩ | ⟨q, i, rfl, h1, h2⟩
  · rw [← mul_mk] at h2
    obtain ⟨s1, s2, s3, s4, s5, s6, s7, s8, s9, s0⟩ := h1.all
    walk_at "hw run"
    exact h2
  · rw [← mul_mk] at h2
    obtain ⟨s1, s2, s3, s4, s5, s6, s7, s8, s9, s0⟩ := h1.all
    have t1 := sm_of_sz h1.2
    walk_at "hw run"
    exact h2
abbrev t_rmul : Stmt := inClass (top 14) 15
theorem sc_rmul : FnScope ["self", "other"] ["self", "other"] (defScope t_rmul) := ⟨rfl, rfl, rfl, by decide +kernel, rfl, by decide +kernel, by decide +kernel⟩
theorem fn_rmul (F : FD G t_rmul "__rmul__" "Ratio.__rmul__" f fd) (o_mul : SO2 G 5 (binaryOp .Mult) (opL pSz (fun q r => .rat (q * r)) mulW)) : Fn G 6 f fd ["self", "other"] (bRr pSz fun q r => .rat (q * r)) := by
  refine fn_bodyW F sc_rmul mon_pure ?_
  intro ws A Q hl h
  obtain ⟨q, i, rfl, h1, h2⟩ := bRr_cases h
  have h3 : pSz q (i : Rat) := ⟨h1.2, h1.1⟩
  rw [Rat.mul_comm] at h2
  walk_at "hw run"
  exact h2
abbrev t_neg : Stmt := inClass (top 14) 16
theorem sc_neg : FnScope ["self"] ["self"] (defScope t_neg) := ⟨rfl, rfl, rfl, by decide +kernel, rfl, by decide +kernel, by decide +kernel⟩
theorem fn_neg (F : FD G t_neg "__neg__" "Ratio.__neg__" f fd) (c_mk2 : Fnc G 3 "Ratio" 2 [] sMk2) (f1 : FldOk G "_top") (f2 : FldOk G "_bottom") : Fn G 4 f fd ["self"] (uR pSz1 fun q => .rat (-q)) := by
  refine fn_bodyW F sc_neg mon_pure ?_
  intro ws A Q hl h
  obtain ⟨q, rfl, h1, h2⟩ := uR_cases h
  obtain ⟨s1, s2, s3, s4⟩ := h1.all
  rw [← neg_mk] at h2
  walk_at "hw run"
  exact h2
abbrev t_eq : Stmt := inClass (top 14) 17
theorem sc_eq : FnScope ["self", "other"] ["self", "other"] (defScope t_eq) := ⟨rfl, rfl, rfl, by decide +kernel, rfl, by decide +kernel, by decide +kernel⟩
theorem fn_eq (F : FD G t_eq "__eq__" "Ratio.__eq__" f fd) (h0 : 0 < nc) (b_isi : Bif G 0 "isinstance" (isiW nc)) (n_Ratio : Nam G "Ratio" (.cls 0)) (f1 : FldOk G "_top") (f2 : FldOk G "_bottom") : Fn G 1 f fd ["self", "other"] (sEqR nc) := by
  refine fn_bodyW F sc_eq mon_pure ?_
  intro ws A Q hl h
  unfold sEqR pureS at h
  match ws with
  | [.t (.rat q), .t d] =>
    obtain ⟨h1, h2⟩ := h
    walk_at "hw run"
    cases d
    case rat r =>
      have h3 : Q (.t (.bl (decide (q = r)))) A := h2
      rw [eqR_eq] at h3
      by_cases e1 : q.num = r.num
      · have e1' : (q.num == r.num) = true := by simp [e1]
        walk_at "hw run"
        have e2 : ((q.den : Int) == r.den) = (decide (q.num = r.num) && decide ((q.den : Int) = r.den)) := by
          rw [e1, decide_eq_true rfl, Bool.true_and]
          exact beq_dec ..
        rw [← e2] at h3
        exact h3
      · have e1' : (q.num == r.num) = false := by simp [e1]
        walk_at "hw run"
        have e2 : (decide (q.num = r.num) && decide ((q.den : Int) = r.den)) = false := by simp [e1]
        rw [e2] at h3
        exact h3
    case ins c l =>
      have hc : isC 0 (.ins c l) = false := by
        have h1 : (decide (c < nc) && c != 0) = true := h1
        simp only [Bool.and_eq_true, bne_iff_ne, ne_eq] at h1
        show (c == 0) = false
        simp [h1.2]
      walk_at "hw run"
      exact h2
    all_goals first | exact Bool.noConfusion h1 | (walk_at "hw run"; exact h2)
abbrev t_total : Stmt := inClass (top 14) 5
theorem sc_total : FnScope ["cls", "numbers", "result", "number"] ["cls", "numbers"] (defScope t_total) := ⟨rfl, rfl, rfl, by decide +kernel, rfl, by decide +kernel, by decide +kernel⟩
theorem fn_total (F : FD G t_total "total" "Ratio.total" f fd) (h0 : 0 < nc) (c_islist : Fnc G 1 "is_list" 1 [] (posK (sIsList nc))) (k_mk1 : Cal G 3 (.ref (G.T.at_ 0)) 1 [] sMk1) (o_add : SO2 G 6 (binaryOp .Add) (opN pSz (fun q r => .rat (q + r)) addL)) (n_Ratio : Nam G "Ratio" (.cls 0)) : Fn G 7 f fd ["cls", "numbers"] sTotal := by
  refine fn_bodyW F sc_total mon_total ?_
  intro ws A Q hl h
  have stp : ∀ {D1 : Ed} {B : AH} {a b : Option W} (q : Rat) (d : D) (r : Rat), numD d = some r → pSz q r → D1.nx [a, b, some (.t (.rat (q + r))), some (.t d)] B →
      WpSs ⟨G, ["cls", "numbers", "result", "number"], defScope t_total, 6, true⟩ [(defBody t_total).getD 2 (.Pass ⟨0, 0, 0, 0⟩) |> fun s => match s with | .For _ _ (b :: _) _ _ => b | _ => .Pass ⟨0, 0, 0, 0⟩] D1 [a, b, some (.t (.rat q)), some (.t d)] B := by
    intro D1 B a b q d r hr hs z
    apply wp_one
    (focus walk_at "hw s")
    cases d <;> simp only [numD] at hr
    case int i => cases hr; walk_at "hw run"; exact z
    case rat r' => cases hr; walk_at "hw run"; exact z
    all_goals cases hr
  unfold sTotal at h
  split at h
  · walk_at "hw run"
    refine tot_loop2 _ stp _ _ _ ?_
    exact totW_mono (fun s z y => by walk_at "hw run"; exact z) _ _ h
  · walk_at "hw run"
    refine tot_loop2 _ stp _ _ _ ?_
    exact totW_mono (fun s z y => by walk_at "hw run"; exact z) _ _ h
  · exact h.elim
abbrev t_str : Stmt := inClass (top 14) 18
theorem sc_str : FnScope ["self"] ["self"] (defScope t_str) := ⟨rfl, rfl, rfl, by decide +kernel, rfl, by decide +kernel, by decide +kernel⟩
theorem fn_str (F : FD G t_str "__str__" "Ratio.__str__" f fd) (b_str : Bif G 0 "str" strI) (f1 : FldOk G "_top") (f2 : FldOk G "_bottom") : Fn G 1 f fd ["self"] (uR pStr fun q => .str (ratText q)) := by
  refine fn_bodyW F sc_str mon_pure ?_
  intro ws A Q hl h
  obtain ⟨q, rfl, h1, h2⟩ := uR_cases h
  have s1 : q.num.natAbs < 2 ^ 1900 := h1.t
  have s2 : (q.den : Int).natAbs < 2 ^ 1900 := by rw [Int.natAbs_natCast]; exact h1.b
  unfold ratText at h2
  by_cases e : (q.den : Int) = 1
  · rw [if_pos e] at h2
    have e' : ((q.den : Int) == 1) = true := by simp [e]
    walk_at "hw run"
    exact h2
  · rw [if_neg e] at h2
    have e' : ((q.den : Int) == 1) = false := by simp [e]
    have z0 : Str.empty.length = 0 := rfl
    have z1 : ("/" : Str).length = 1 := by decide +kernel
    have l1 := int_len s1
    have l2 := int_len s2
    rw [← str_nil ((toString q.num : String) : Str)] at h2
    walk_at "hw run"
    exact h2
abbrev t_repr : Stmt := inClass (top 14) 19
theorem sc_repr : FnScope ["self"] ["self"] (defScope t_repr) := ⟨rfl, rfl, rfl, by decide +kernel, rfl, by decide +kernel, by decide +kernel⟩
theorem fn_repr (F : FD G t_repr "__repr__" "Ratio.__repr__" f fd) (f1 : FldOk G "_top") (f2 : FldOk G "_bottom") : Fn G 1 f fd ["self"] (uR pStr fun q => .str (ratRepr q)) := by
  refine fn_bodyW F sc_repr mon_pure ?_
  intro ws A Q hl h
  obtain ⟨q, rfl, h1, h2⟩ := uR_cases h
  have s1 : q.num.natAbs < 2 ^ 1900 := h1.t
  have s2 : (q.den : Int).natAbs < 2 ^ 1900 := by rw [Int.natAbs_natCast]; exact h1.b
  have z0 : Str.empty.length = 0 := rfl
  have z1 : ("Ratio(" : Str).length = 6 := by decide +kernel
  have z2 : (", " : Str).length = 2 := by decide +kernel
  have z3 : (")" : Str).length = 1 := by decide +kernel
  have l1 := int_len s1
  have l2 := int_len s2
  unfold ratRepr at h2
  rw [← str_nil ("Ratio(" : Str)] at h2
  walk_at "hw run"
  exact h2
abbrev t_islist : Stmt := top 12
theorem sc_islist : FnScope ["value"] ["value"] (defScope t_islist) := ⟨rfl, rfl, rfl, by decide +kernel, rfl, by decide +kernel, by decide +kernel⟩
theorem fn_islist (F : FD G t_islist "is_list" "is_list" f fd) (h0 : 0 < nc) (b_isi : Bif G 0 "isinstance" (isiW nc)) (n_list : Nam G "list" (.ty "list")) (n_tuple : Nam G "tuple" (.ty "tuple")) : Fn G 1 f fd ["value"] (sIsList nc) := by
  refine fn_bodyW F sc_islist mon_pure ?_
  intro ws A Q hl h
  match ws, hl with
  | [.loc n], _ => exact h.elim
  | [.t d], _ =>
    obtain ⟨h1, h2⟩ := h
    walk_at "hw run"
    exact h2
abbrev t_mirror : Stmt := top 23
theorem sc_mirror : FnScope ["four", "a", "b", "c", "d"] ["four"] (defScope t_mirror) := ⟨rfl, rfl, rfl, by decide +kernel, rfl, by decide +kernel, by decide +kernel⟩
theorem fn_mirror (F : FD G t_mirror "four_mirror" "four_mirror" f fd) (o_neg : SO1 G 4 (unaryOp .USub) (negN pSz1 fun q => .rat (-q))) : Fn G 5 f fd ["four"] sMirror4 := by
  refine fn_bodyW F sc_mirror mon_pure ?_
  intro ws A Q hl h
  unfold sMirror4 pureS at h
  match ws, hl with
  | [.t (.tup [.rat a, .rat b, .rat c, .rat d])], _ =>
    obtain ⟨⟨h1, h2, h3⟩, h4⟩ := h
    walk_at "hw run"
    exact h4
abbrev t_product : Stmt := top 22
theorem sc_product : FnScope ["one", "other", "a", "b", "c", "d", "p", "q", "r", "s"] ["one", "other"] (defScope t_product) := ⟨rfl, rfl, rfl, by decide +kernel, rfl, by decide +kernel, by decide +kernel⟩
theorem fn_product (F : FD G t_product "four_product" "four_product" f fd) (o_add : SO2 G 6 (binaryOp .Add) (opN pSz (fun q r => .rat (q + r)) addL)) (o_sub : SO2 G 6 (binaryOp .Sub) (opL pSz (fun q r => .rat (q - r)) subW)) (o_mul : SO2 G 5 (binaryOp .Mult) (opL pSz (fun q r => .rat (q * r)) mulW)) : Fn G 7 f fd ["one", "other"] sProd4 := by
  refine fn_bodyW F sc_product mon_pure ?_
  intro ws A Q hl h
  unfold sProd4 pureS at h
  match ws, hl with
  | [.t (.tup [.rat a, .rat b, .rat c, .rat d]), .t (.tup [.rat p, .rat q, .rat r, .rat s])], _ =>
    obtain ⟨⟨n, hn, ha, hb, hc, hd, hp, hq, hr, hs⟩, h2⟩ := h
    obtain ⟨g00, g01, g02, g03, g04, g05, g06, g07, g08, g09, g010⟩ := row_sz hn ha hp hb hq hc hr hd hs
    obtain ⟨g10, g11, g12, g13, g14, g15, g16, g17, g18, g19, g110⟩ := row_sz hn ha hq hb hp hc hs hd hr
    obtain ⟨g20, g21, g22, g23, g24, g25, g26, g27, g28, g29, g210⟩ := row_sz hn ha hr hb hs hc hp hd hq
    obtain ⟨g30, g31, g32, g33, g34, g35, g36, g37, g38, g39, g310⟩ := row_sz hn ha hs hb hr hc hq hd hp
    walk_at "hw run"
    exact h2
abbrev t_are : Stmt := top 20
theorem sc_are : FnScope ["value", "many", "number"] ["value", "many"] (defScope t_are) := ⟨rfl, rfl, rfl, by decide +kernel, rfl, by decide +kernel, by decide +kernel⟩
theorem fn_are (F : FD G t_are "are_numbers" "are_numbers" f fd) (h0 : 0 < nc) (c_islist : Fnc G 1 "is_list" 1 [] (posK (sIsList nc))) (c_isnum : Fnc G 2 "is_number" 1 [] (posK (sIsNum nc))) (b_len : Bif G 0 "len" lenW) (b_all : Bif G 0 "all" (allW fun bs => bs.all id)) : Fn G 3 f fd ["value", "many"] sAre4 := by
  refine fn_bodyW F sc_are mon_are4 ?_
  intro ws A Q hl h
  obtain ⟨d, a, b, c, e, rfl, ⟨x, y, z, w, hd, ha, hb, hc, he⟩, h2⟩ := are4_cases h
  rcases hd with rfl | rfl
  · have ka := ha.cok h0 (nc := nc)
    have kb := hb.cok h0 (nc := nc)
    have kc := hc.cok h0 (nc := nc)
    have ke := he.cok h0 (nc := nc)
    walk_at "hw run"
    show Q (.t (.bl ([isNum x, isNum y, isNum z, isNum w].all id))) A
    rw [show [isNum x, isNum y, isNum z, isNum w].all id = true by simp [ha.num, hb.num, hc.num, he.num]]
    exact h2
  · have ka := ha.cok h0 (nc := nc)
    have kb := hb.cok h0 (nc := nc)
    have kc := hc.cok h0 (nc := nc)
    have ke := he.cok h0 (nc := nc)
    walk_at "hw run"
    show Q (.t (.bl ([isNum x, isNum y, isNum z, isNum w].all id))) A
    rw [show [isNum x, isNum y, isNum z, isNum w].all id = true by simp [ha.num, hb.num, hc.num, he.num]]
    exact h2
abbrev t_isfour : Stmt := top 18
theorem sc_isfour : FnScope ["value"] ["value"] (defScope t_isfour) := ⟨rfl, rfl, rfl, by decide +kernel, rfl, by decide +kernel, by decide +kernel⟩
theorem fn_isfour (F : FD G t_isfour "is_four" "is_four" f fd) (h0 : 0 < nc) (c_are : Fnc G 3 "are_numbers" 2 [] (posK sAre4)) : Fn G 4 f fd ["value"] sIs4 := by
  refine fn_bodyW F sc_isfour mon_is4 ?_
  intro ws A Q hl h
  obtain ⟨d, a, b, c, e, rfl, h1, h2⟩ := is4_cases h
  walk_at "hw run"
  exact h2
abbrev t_told4 : Stmt := top 21
theorem sc_told4 : FnScope ["four", "number"] ["four"] (defScope t_told4) := ⟨rfl, rfl, rfl, by decide +kernel, rfl, by decide +kernel, by decide +kernel⟩
theorem fn_told4 (F : FD G t_told4 "told_four" "told_four" f fd) (h0 : 0 < nc) (c_isfour : Fnc G 4 "is_four" 1 [] (posK sIs4)) (c_told : Fnc G 4 "told_number" 1 [] (posK sToldN)) (b_tup : Bif G 0 "tuple" tupB) : Fn G 5 f fd ["four"] sTold4 := by
  refine fn_bodyW F sc_told4 mon_told4 ?_
  intro ws A Q hl h
  obtain ⟨d, a, b, c, e, rfl, h1, h2⟩ := told4_cases h
  walk_at "hw st"
  obtain ⟨x, y, z, w, hd, ha, hb, hc, he⟩ := h1
  rcases hd with rfl | rfl
  · walk_at "hw run"
    exact h2
  · walk_at "hw run"
    exact h2
abbrev t_scaled : Stmt := top 26
theorem sc_scaled : FnScope ["numbers", "scale", "number"] ["numbers", "scale"] (defScope t_scaled) := ⟨rfl, rfl, rfl, by decide +kernel, rfl, by decide +kernel, by decide +kernel⟩
theorem fn_scaled (F : FD G t_scaled "scaled_numbers" "scaled_numbers" f fd) (o_mul : SO2 G 5 (binaryOp .Mult) (opL pSz (fun q r => .rat (q * r)) mulW)) (b_tup : Bif G 0 "tuple" tupB) : Fn G 6 f fd ["numbers", "scale"] sScaled4 := by
  refine fn_bodyW F sc_scaled mon_pure ?_
  intro ws A Q hl h
  unfold sScaled4 pureS at h
  match ws, hl with
  | [.t (.tup [.rat a, .rat b, .rat c, .rat d]), .t (.rat s)], _ =>
    obtain ⟨⟨h1, h2, h3, h4⟩, h5⟩ := h
    walk_at "hw run"
    exact h5
abbrev t_nought : Stmt := top 24
theorem sc_nought : FnScope ["numbers", "number"] ["numbers"] (defScope t_nought) := ⟨rfl, rfl, rfl, by decide +kernel, rfl, by decide +kernel, by decide +kernel⟩
theorem fn_nought (F : FD G t_nought "is_nought" "is_nought" f fd) (p_sign : Prp G 1 "sign" isRat sSign) (b_all : Bif G 0 "all" (allW fun bs => bs.all id)) : Fn G 3 f fd ["numbers"] sNoughtN := by
  refine fn_bodyW F sc_nought mon_pure ?_
  intro ws A Q hl h
  unfold sNoughtN pureS at h
  match ws, hl with
  | [.t (.tup [.rat a, .rat b, .rat c, .rat d])], _ =>
    obtain ⟨h1, h2⟩ := h
    walk_at "hw run"
    exact h2
  | [.t (.tup [.rat a, .rat b, .rat c])], _ =>
    obtain ⟨h1, h2⟩ := h
    walk_at "hw run"
    exact h2
abbrev t_dot : Stmt := top 27
theorem sc_dot : FnScope ["numbers", "others", "number", "other"] ["numbers", "others"] (defScope t_dot) := ⟨rfl, rfl, rfl, by decide +kernel, rfl, by decide +kernel, by decide +kernel⟩
theorem fn_dot (F : FD G t_dot "sum_of_products" "sum_of_products" f fd) (o_mul : SO2 G 5 (binaryOp .Mult) (opL pSz (fun q r => .rat (q * r)) mulW)) (z_zip : G.mg "zip" = none) (m_total : Cmt G 7 0 "total" 2 [] (posK sTotal)) (n_Ratio : Nam G "Ratio" (.cls 0)) : Fn G 8 f fd ["numbers", "others"] sDotN := by
  refine fn_bodyW F sc_dot mon_pure ?_
  intro ws A Q hl h
  unfold sDotN pureS at h
  match ws, hl with
  | [.t (.tup [.rat a, .rat b, .rat c, .rat d]), .t (.tup [.rat p, .rat q, .rat r, .rat s])], _ =>
    obtain ⟨⟨n, hn, ha, hb, hc, hd, hp, hq, hr, hs⟩, h2⟩ := h
    obtain ⟨g00, g01, g02, g03, g04, g05, g06, g07, g08, g09, g010⟩ := row_sz hn ha hp hb hq hc hr hd hs
    have z0 : ((0 : Int) : Rat) + a * p = a * p := by rw [Rat.intCast_zero, Rat.zero_add]
    have t0 : pSz ((0 : Int) : Rat) (a * p) := ⟨by rw [Rat.intCast_zero]; exact ⟨by decide +kernel, by decide +kernel⟩, g04.1⟩
    walk_at "hw run"
    rw [z0]
    refine ⟨g04, g05, g07, ?_⟩
    walk_at "hw run"
    exact h2
  | [.t (.tup [.rat a, .rat b, .rat c]), .t (.tup [.rat p, .rat q, .rat r])], _ =>
    obtain ⟨⟨n, hn, ha, hb, hc, hp, hq, hr⟩, h2⟩ := h
    obtain ⟨g00, g01, g02, g03, g04, g05, g06, g07, g08, g09, g010⟩ := row_sz hn ha hp hb hq hc hr hc hr
    have z0 : ((0 : Int) : Rat) + a * p = a * p := by rw [Rat.intCast_zero, Rat.zero_add]
    have t0 : pSz ((0 : Int) : Rat) (a * p) := ⟨by rw [Rat.intCast_zero]; exact ⟨by decide +kernel, by decide +kernel⟩, g04.1⟩
    walk_at "hw run"
    rw [z0]
    refine ⟨g04, g05, ?_⟩
    walk_at "hw run"
    exact h2
abbrev t_undone : Stmt := top 19
theorem sc_undone : FnScope ["four", "numbers", "norm"] ["four"] (defScope t_undone) := ⟨rfl, rfl, rfl, by decide +kernel, rfl, by decide +kernel, by decide +kernel⟩
theorem fn_undone (F : FD G t_undone "undone_four" "undone_four" f fd) (c_told4 : Fnc G 5 "told_four" 1 [] (posK sTold4)) (c_nought : Fnc G 3 "is_nought" 1 [] (posK sNought4)) (c_dot : Fnc G 8 "sum_of_products" 2 [] (posK sDot4)) (c_scaled : Fnc G 6 "scaled_numbers" 2 [] (posK sScaled4)) (c_mirror : Fnc G 5 "four_mirror" 1 [] (posK sMirror4)) (c_mk1 : Fnc G 3 "Ratio" 1 [] sMk1) (m_over : Mth G 5 "over" isRat 2 [] (posK (bR pDiv fun q r => .rat (q / r)))) (n_Ratio : Nam G "Ratio" (.cls 0)) : Fn G 10 f fd ["four"] sUndone4 := by
  refine fn_bodyW F sc_undone mon_undone4 ?_
  intro ws A Q hl h
  obtain ⟨x, a, b, c, d, rfl, h1, h2, h3, h4⟩ := undone4_cases h
  obtain ⟨u1, u2, u3, u4⟩ := und_sz h2 h3
  have h5 : ∃ n, 8 * n + 3 ≤ 3990 ∧ Sz n a ∧ Sz n b ∧ Sz n c ∧ Sz n d ∧ Sz n a ∧ Sz n b ∧ Sz n c ∧ Sz n d := u1
  have hN := nought_no h3
  have m1 : Sm 1 := Sm.of (by decide +kernel)
  have u5 : pDiv ((1 : Int) : Rat) (a * a + b * b + c * c + d * d) := u3
  have u6 : pSz a (((1 : Int) : Rat) / (a * a + b * b + c * c + d * d)) ∧ pSz (-b) (((1 : Int) : Rat) / (a * a + b * b + c * c + d * d)) ∧ pSz (-c) (((1 : Int) : Rat) / (a * a + b * b + c * c + d * d)) ∧ pSz (-d) (((1 : Int) : Rat) / (a * a + b * b + c * c + d * d)) := u4
  walk_at "hw run"
  exact h4
abbrev t_added : Stmt := top 25
theorem sc_added : FnScope ["numbers", "others", "number", "other"] ["numbers", "others"] (defScope t_added) := ⟨rfl, rfl, rfl, by decide +kernel, rfl, by decide +kernel, by decide +kernel⟩
theorem fn_added (F : FD G t_added "added" "added" f fd) (o_add : SO2 G 6 (binaryOp .Add) (opN pSz (fun q r => .rat (q + r)) addL)) (z_zip : G.mg "zip" = none) (b_tup : Bif G 0 "tuple" tupB) : Fn G 7 f fd ["numbers", "others"] sAdded := by
  refine fn_bodyW F sc_added mon_pure ?_
  intro ws A Q hl h
  unfold sAdded pureS at h
  match ws, hl with
  | [.t (.tup [.rat a, .rat b, .rat c, .rat d]), .t (.tup [.rat p, .rat q, .rat r, .rat s])], _ =>
    obtain ⟨⟨h1, h3, h4, h5⟩, h2⟩ := h
    walk_at "hw run"
    exact h2
abbrev t_shownf : Stmt := top 30
theorem sc_shownf : FnScope ["four", "inside", "number"] ["four"] (defScope t_shownf) := ⟨rfl, rfl, rfl, by decide +kernel, rfl, by decide +kernel, by decide +kernel⟩
theorem fn_shownf (F : FD G t_shownf "shown_four" "shown_four" f fd) (b_str : Bif G 4 "str" (strW isRat (posK (uR pStr fun q => .str (ratText q))))) : Fn G 5 f fd ["four"] sShownF := by
  refine fn_bodyW F sc_shownf mon_pure ?_
  intro ws A Q hl h
  unfold sShownF pureS at h
  match ws, hl with
  | [.t (.tup [.rat a, .rat b, .rat c, .rat d])], _ =>
    obtain ⟨⟨h1, h3, h4, h5⟩, h2⟩ := h
    have t1 := rtext_len h1
    have t2 := rtext_len h3
    have t3 := rtext_len h4
    have t4 := rtext_len h5
    have z2 : (", " : Str).length = 2 := by decide +kernel
    have z0 : Str.empty.length = 0 := rfl
    have z1 : ("(" : Str).length = 1 := by decide +kernel
    have z3 : (")" : Str).length = 1 := by decide +kernel
    have lj : (Str.join ", " [ratText a, ratText b, ratText c, ratText d]).length ≤ 16100 := by
      have := join_length_add [ratText a, ratText b, ratText c, ratText d] (by simp)
      simp only [piled_cons, piled_nil] at this
      omega
    unfold fourText at h2
    rw [← str_nil ("(" : Str)] at h2
    walk_at "hw run"
    refine join_go (ys := [ratText a, ratText b, ratText c, ratText d]) (by simp only [strsD]) (by simp only [List.map_cons, List.map_nil, List.sum_cons, List.sum_nil, List.length_cons, List.length_nil, z2]; omega) ?_
    obtain ⟨J, hJ⟩ : ∃ J, Str.join ", " [ratText a, ratText b, ratText c, ratText d] = J := ⟨_, rfl⟩
    rw [hJ] at lj h2
    rw [hJ]
    walk_at "hw run"
    exact h2
abbrev t_check : Stmt := top 31
theorem sc_check : FnScope ["eight"] ["eight"] (defScope t_check) := ⟨rfl, rfl, rfl, by decide +kernel, rfl, by decide +kernel, by decide +kernel⟩
theorem fn_check (F : FD G t_check "check_eight" "check_eight" f fd) (h0 : 0 < nc) (h1 : 1 < nc) (b_isi : Bif G 0 "isinstance" (isiW nc)) (n_Eight : Nam G "Eight" (.cls 1)) : Fn G 2 f fd ["eight"] sCheckE := by
  refine fn_bodyW F sc_check mon_pure ?_
  intro ws A Q hl h
  unfold sCheckE pureS at h
  match ws, hl with
  | [.t (.ins 1 [x, y])], _ =>
    obtain ⟨_, h2⟩ := h
    have ck := cok_e8 (l := [x, y]) h1
    walk_at "hw run"
    exact h2
abbrev t_einit : Stmt := inClass (top 29) 0
theorem sc_einit : FnScope ["self", "first", "second"] ["self", "first", "second"] (defScope t_einit) := ⟨rfl, rfl, rfl, by decide +kernel, rfl, by decide +kernel, by decide +kernel⟩
theorem fn_einit (F : FunD G.K "__init__" "Eight.__init__" (defArgs t_einit) (defBody t_einit) (defScope t_einit) [.ref t4] [] f fd) (cl1 : Cls G.K (G.T.at_ 1)) (en1 : NoAttr G.K (G.T.at_ 1) "_first") (en2 : NoAttr G.K (G.T.at_ 1) "_second") (c_told4 : Fnc G 5 "told_four" 1 [] (posK sTold4)) : Fn G 6 f fd ["self", "first", "second"] sInitE := by
  refine fn_bodyW F sc_einit mon_initE ?_
  intro ws A Q hl h
  unfold sInitE at h
  split at h
  · rename_i n x y
    obtain ⟨a, b, c, d, p, q, r, s, ⟨h1, h2⟩, h3, h4⟩ := h
    walk_at "hw run"
    exact fn_setsE h4
  · exact h.elim
abbrev t_efirst : Stmt := inClass (top 29) 3
theorem sc_efirst : FnScope ["self"] ["self"] (defScope t_efirst) := ⟨rfl, rfl, rfl, by decide +kernel, rfl, by decide +kernel, by decide +kernel⟩
theorem fn_efirst (F : FD G t_efirst "first" "Eight.first" f fd) (hE : E8T G.T) (fe1 : FldOk G "_first") : Fn G 1 f fd ["self"] sFirst := by
  refine fn_bodyW F sc_efirst mon_E1 ?_
  intro ws A Q hl h
  obtain ⟨x, rfl, _, h2⟩ := e1_cases h
  walk_at "hw run"
  exact h2
abbrev t_esecond : Stmt := inClass (top 29) 4
theorem sc_esecond : FnScope ["self"] ["self"] (defScope t_esecond) := ⟨rfl, rfl, rfl, by decide +kernel, rfl, by decide +kernel, by decide +kernel⟩
theorem fn_esecond (F : FD G t_esecond "second" "Eight.second" f fd) (hE : E8T G.T) (fe2 : FldOk G "_second") : Fn G 1 f fd ["self"] sSecond := by
  refine fn_bodyW F sc_esecond mon_E1 ?_
  intro ws A Q hl h
  obtain ⟨x, rfl, _, h2⟩ := e1_cases h
  walk_at "hw run"
  exact h2
abbrev t_emirror : Stmt := inClass (top 29) 5
theorem sc_emirror : FnScope ["self"] ["self"] (defScope t_emirror) := ⟨rfl, rfl, rfl, by decide +kernel, rfl, by decide +kernel, by decide +kernel⟩
theorem fn_emirror (F : FD G t_emirror "mirror" "Eight.mirror" f fd) (hE : E8T G.T) (fe1 : FldOk G "_first") (fe2 : FldOk G "_second") (c_mirror : Fnc G 5 "four_mirror" 1 [] (posK sMirror4)) (c_mkE : Fnc G 7 "Eight" 2 [] (posK sMkE)) : Fn G 8 f fd ["self"] sMirrorE := by
  refine fn_bodyW F sc_emirror mon_E1 ?_
  intro ws A Q hl h
  obtain ⟨x, rfl, h1, h2⟩ := e1_cases h
  have k1 : pSz1 x.b := h1.b
  have k2 : pSz1 x.c := h1.c
  have k3 : pSz1 x.d := h1.d
  have k4 : pSz1 x.q := h1.q
  have k5 : pSz1 x.r := h1.r
  have k6 : pSz1 x.s := h1.s
  walk_at "hw run"
  exact h2
abbrev t_enorm : Stmt := inClass (top 29) 7
theorem sc_enorm : FnScope ["self", "straight"] ["self"] (defScope t_enorm) := ⟨rfl, rfl, rfl, by decide +kernel, rfl, by decide +kernel, by decide +kernel⟩
theorem fn_enorm (F : FD G t_enorm "norm" "Eight.norm" f fd) (hE : E8T G.T) (fe1 : FldOk G "_first") (fe2 : FldOk G "_second") (c_dotN : Fnc G 8 "sum_of_products" 2 [] (posK sDotN)) (o_mul : SO2 G 5 (binaryOp .Mult) (opL pSz (fun q r => .rat (q * r)) mulW)) : Fn G 9 f fd ["self"] sNormE := by
  refine fn_bodyW F sc_enorm mon_E1 ?_
  intro ws A Q hl h
  obtain ⟨x, rfl, ⟨n, hn, z⟩, h2⟩ := e1_cases h
  have k1 : ∃ n, 8 * n + 3 ≤ 3990 ∧ Sz n x.a ∧ Sz n x.b ∧ Sz n x.c ∧ Sz n x.d ∧ Sz n x.a ∧ Sz n x.b ∧ Sz n x.c ∧ Sz n x.d := ⟨n, by omega, z.a, z.b, z.c, z.d, z.a, z.b, z.c, z.d⟩
  have k2 : ∃ n, 8 * n + 3 ≤ 3990 ∧ Sz n x.a ∧ Sz n x.b ∧ Sz n x.c ∧ Sz n x.d ∧ Sz n x.p ∧ Sz n x.q ∧ Sz n x.r ∧ Sz n x.s := ⟨n, by omega, z.a, z.b, z.c, z.d, z.p, z.q, z.r, z.s⟩
  have k3 : pSz (x.a * x.p + x.b * x.q + x.c * x.r + x.d * x.s) ((2 : Int) : Rat) := ⟨((((z.a.mul z.p).add (z.b.mul z.q)).add (z.c.mul z.r)).add (z.d.mul z.s)).up (by omega), ⟨by decide +kernel, by decide +kernel⟩⟩
  walk_at "hw run"
  exact h2
abbrev t_etimes : Stmt := inClass (top 29) 8
theorem sc_etimes : FnScope ["self", "number", "scale"] ["self", "number"] (defScope t_etimes) := ⟨rfl, rfl, rfl, by decide +kernel, rfl, by decide +kernel, by decide +kernel⟩
theorem fn_etimes (F : FD G t_etimes "times" "Eight.times" f fd) (hE : E8T G.T) (fe1 : FldOk G "_first") (fe2 : FldOk G "_second") (c_told : Fnc G 4 "told_number" 1 [] (posK sToldN)) (c_scaled : Fnc G 6 "scaled_numbers" 2 [] (posK sScaled4)) (c_mkE : Fnc G 7 "Eight" 2 [] (posK sMkE)) : Fn G 8 f fd ["self", "number"] sTimesE := by
  refine fn_bodyW F sc_etimes mon_EN ?_
  intro ws A Q hl h
  obtain ⟨x, e, t, rfl, h0, ⟨z, zt⟩, h2⟩ := en_cases h
  have k1 : pSz x.a t ∧ pSz x.b t ∧ pSz x.c t ∧ pSz x.d t := ⟨⟨z.a, zt⟩, ⟨z.b, zt⟩, ⟨z.c, zt⟩, ⟨z.d, zt⟩⟩
  have k2 : pSz x.p t ∧ pSz x.q t ∧ pSz x.r t ∧ pSz x.s t := ⟨⟨z.p, zt⟩, ⟨z.q, zt⟩, ⟨z.r, zt⟩, ⟨z.s, zt⟩⟩
  walk_at "hw run"
  exact h2
abbrev t_eadd : Stmt := inClass (top 29) 9
theorem sc_eadd : FnScope ["self", "other"] ["self", "other"] (defScope t_eadd) := ⟨rfl, rfl, rfl, by decide +kernel, rfl, by decide +kernel, by decide +kernel⟩
theorem fn_eadd (F : FD G t_eadd "__add__" "Eight.__add__" f fd) (hE : E8T G.T) (fe1 : FldOk G "_first") (fe2 : FldOk G "_second") (c_check : Fnc G 2 "check_eight" 1 [] (posK sCheckE)) (c_added : Fnc G 7 "added" 2 [] (posK sAdded)) (c_mkE : Fnc G 7 "Eight" 2 [] (posK sMkE)) : Fn G 8 f fd ["self", "other"] sAddE := by
  refine fn_bodyW F sc_eadd mon_E2 ?_
  intro ws A Q hl h
  obtain ⟨x, y, rfl, ⟨z, w⟩, h2⟩ := e2_cases h
  have k1 : pSz x.a y.a ∧ pSz x.b y.b ∧ pSz x.c y.c ∧ pSz x.d y.d := ⟨⟨z.a, w.a⟩, ⟨z.b, w.b⟩, ⟨z.c, w.c⟩, ⟨z.d, w.d⟩⟩
  have k2 : pSz x.p y.p ∧ pSz x.q y.q ∧ pSz x.r y.r ∧ pSz x.s y.s := ⟨⟨z.p, w.p⟩, ⟨z.q, w.q⟩, ⟨z.r, w.r⟩, ⟨z.s, w.s⟩⟩
  walk_at "hw run"
  exact h2
abbrev t_eneg : Stmt := inClass (top 29) 12
theorem sc_eneg : FnScope ["self"] ["self"] (defScope t_eneg) := ⟨rfl, rfl, rfl, by decide +kernel, rfl, by decide +kernel, by decide +kernel⟩
theorem fn_eneg (F : FD G t_eneg "__neg__" "Eight.__neg__" f fd) (m_times : Mth G 8 "times" isE8 2 [] (posK sTimesE)) : Fn G 9 f fd ["self"] sNegE := by
  refine fn_bodyW F sc_eneg mon_E1 ?_
  intro ws A Q hl h
  obtain ⟨x, rfl, z, h2⟩ := e1_cases h
  have nm : NumOk (.int (-1)) ((-1 : Int) : Rat) := ⟨rfl, fun i e => by cases e; exact Sm.of (by decide +kernel)⟩
  have kp : PN x ((-1 : Int) : Rat) := ⟨z, sz_one⟩
  have e : negR x = byR x ((-1 : Int) : Rat) := by unfold negR byR; simp only [neg_by]
  rw [e] at h2
  walk_at "hw run"
  exact h2
abbrev t_esub : Stmt := inClass (top 29) 10
theorem sc_esub : FnScope ["self", "other"] ["self", "other"] (defScope t_esub) := ⟨rfl, rfl, rfl, by decide +kernel, rfl, by decide +kernel, by decide +kernel⟩
theorem fn_esub (F : FD G t_esub "__sub__" "Eight.__sub__" f fd) (h0 : 0 < nc) (h1 : 1 < nc) (hE : E8T G.T) (c_check : Fnc G 2 "check_eight" 1 [] (posK sCheckE)) {ab : O2} (o_addE : SO2 G 8 (binaryOp .Add) (opE sAddE ab)) {nb : O1} (o_negE : SO1 G 9 (unaryOp .USub) (negE sNegE nb)) : Fn G 10 f fd ["self", "other"] sSubE := by
  refine fn_bodyW F sc_esub mon_E2 ?_
  intro ws A Q hl h
  obtain ⟨x, y, rfl, ⟨z, w⟩, h2⟩ := e2_cases h
  have k1 : y.Z 3990 := w
  have k2 : P2 x (negR y) := ⟨z, ⟨w.a.neg, w.b.neg, w.c.neg, w.d.neg, w.p.neg, w.q.neg, w.r.neg, w.s.neg⟩⟩
  have e : subR x y = addR x (negR y) := by unfold subR addR negR; simp only [sub_by]
  rw [e] at h2
  walk_at "hw run"
  exact h2
abbrev t_emul : Stmt := inClass (top 29) 11
theorem sc_emul : FnScope ["self", "other", "ahead", "behind"] ["self", "other"] (defScope t_emul) := ⟨rfl, rfl, rfl, by decide +kernel, rfl, by decide +kernel, by decide +kernel⟩
theorem fn_emul (F : FD G t_emul "__mul__" "Eight.__mul__" f fd) (hE : E8T G.T) (fe1 : FldOk G "_first") (fe2 : FldOk G "_second") (c_check : Fnc G 2 "check_eight" 1 [] (posK sCheckE)) (c_prod : Fnc G 7 "four_product" 2 [] (posK sProd4)) (c_added : Fnc G 7 "added" 2 [] (posK sAdded)) (c_mkE : Fnc G 7 "Eight" 2 [] (posK sMkE)) : Fn G 8 f fd ["self", "other"] sMulE := by
  refine fn_bodyW F sc_emul mon_E2 ?_
  intro ws A Q hl h
  obtain ⟨x, y, rfl, hz, h2⟩ := e2_cases h
  obtain ⟨m1, m2, m3, m4, m5, m6, m7⟩ := mul_sz hz
  have k1 : ∃ n, 8 * n + 3 ≤ 3990 ∧ Sz n x.a ∧ Sz n x.b ∧ Sz n x.c ∧ Sz n x.d ∧ Sz n y.a ∧ Sz n y.b ∧ Sz n y.c ∧ Sz n y.d := m1
  have k2 : ∃ n, 8 * n + 3 ≤ 3990 ∧ Sz n x.a ∧ Sz n x.b ∧ Sz n x.c ∧ Sz n x.d ∧ Sz n y.p ∧ Sz n y.q ∧ Sz n y.r ∧ Sz n y.s := m2
  have k3 : ∃ n, 8 * n + 3 ≤ 3990 ∧ Sz n x.p ∧ Sz n x.q ∧ Sz n x.r ∧ Sz n x.s ∧ Sz n y.a ∧ Sz n y.b ∧ Sz n y.c ∧ Sz n y.d := m3
  unfold q1 at m4
  unfold q2 at m5
  unfold q3 at m6
  unfold q4 at m7
  walk_at "hw run"
  exact h2
abbrev t_eundone : Stmt := inClass (top 29) 6
theorem sc_eundone : FnScope ["self", "back", "twice"] ["self"] (defScope t_eundone) := ⟨rfl, rfl, rfl, by decide +kernel, rfl, by decide +kernel, by decide +kernel⟩
theorem fn_eundone (F : FD G t_eundone "undone" "Eight.undone" f fd) (hE : E8T G.T) (fe1 : FldOk G "_first") (fe2 : FldOk G "_second") (c_noughtN : Fnc G 3 "is_nought" 1 [] (posK sNoughtN)) (c_und4 : Fnc G 10 "undone_four" 1 [] (posK sUndone4)) (c_prod : Fnc G 7 "four_product" 2 [] (posK sProd4)) (c_scaled : Fnc G 6 "scaled_numbers" 2 [] (posK sScaled4)) (c_mk1 : Fnc G 3 "Ratio" 1 [] sMk1) (n_Ratio : Nam G "Ratio" (.cls 0)) (c_mkE : Fnc G 7 "Eight" 2 [] (posK sMkE)) (o_neg : SO1 G 4 (unaryOp .USub) (negN pSz1 fun q => .rat (-q))) : Fn G 11 f fd ["self"] sUndoneE := by
  refine fn_bodyW F sc_eundone mon_E1 ?_
  intro ws A Q hl h
  obtain ⟨x, rfl, hz, h2⟩ := e1_cases h
  have hN := nought_no hz.nz
  have b4 := hz.b4
  have nz := hz.nz
  have f4 := four_rat x.a x.b x.c x.d
  have k1 := hz.u1
  have k2 := hz.u2
  have k3 : pSz (twoU x q1) ((-1 : Int) : Rat) := ⟨hz.z1, sz_one⟩
  have k4 : pSz (twoU x q2) ((-1 : Int) : Rat) := ⟨hz.z2, sz_one⟩
  have k5 : pSz (twoU x q3) ((-1 : Int) : Rat) := ⟨hz.z3, sz_one⟩
  have k6 : pSz (twoU x q4) ((-1 : Int) : Rat) := ⟨hz.z4, sz_one⟩
  have m1 : Sm (-1) := Sm.of (by decide +kernel)
  unfold undR at h2
  rw [neg_by, neg_by, neg_by, neg_by] at h2
  walk_at "hw run"
  exact h2
abbrev t_epose : Stmt := inClass (top 29) 1
theorem sc_epose : FnScope ["self"] ["self"] (defScope t_epose) := ⟨rfl, rfl, rfl, by decide +kernel, rfl, by decide +kernel, by decide +kernel⟩
theorem fn_epose (F : FD G t_epose "is_pose" "Eight.is_pose" f fd) (hE : E8T G.T) (fe1 : FldOk G "_first") (fe2 : FldOk G "_second") (c_noughtN : Fnc G 3 "is_nought" 1 [] (posK sNoughtN)) (c_dotN : Fnc G 8 "sum_of_products" 2 [] (posK sDotN)) (p_sign : Prp G 1 "sign" isRat sSign) : Fn G 9 f fd ["self"] sPoseE := by
  refine fn_bodyW F sc_epose mon_E1 ?_
  intro ws A Q hl h
  obtain ⟨x, rfl, ⟨n, hn, z⟩, h2⟩ := e1_cases h
  have k2 : ∃ n, 8 * n + 3 ≤ 3990 ∧ Sz n x.a ∧ Sz n x.b ∧ Sz n x.c ∧ Sz n x.d ∧ Sz n x.p ∧ Sz n x.q ∧ Sz n x.r ∧ Sz n x.s := ⟨n, by omega, z.a, z.b, z.c, z.d, z.p, z.q, z.r, z.s⟩
  unfold poseB nouB at h2
  cases hb : ([x.a.num.sign == 0, x.b.num.sign == 0, x.c.num.sign == 0, x.d.num.sign == 0].all id)
  · rw [hb] at h2
    walk_at "hw run"
    exact h2
  · rw [hb] at h2
    walk_at "hw run"
    exact h2
abbrev t_ehinge : Stmt := inClass (top 29) 2
theorem sc_ehinge : FnScope ["self", "direction", "moment", "has_line"] ["self"] (defScope t_ehinge) := ⟨rfl, rfl, rfl, by decide +kernel, rfl, by decide +kernel, by decide +kernel⟩
theorem fn_ehinge (F : FD G t_ehinge "is_hinge" "Eight.is_hinge" f fd) (hE : E8T G.T) (fe1 : FldOk G "_first") (fe2 : FldOk G "_second") (c_noughtN : Fnc G 3 "is_nought" 1 [] (posK sNoughtN)) (c_dotN : Fnc G 8 "sum_of_products" 2 [] (posK sDotN)) (p_sign : Prp G 1 "sign" isRat sSign) : Fn G 9 f fd ["self"] sHingeE := by
  refine fn_bodyW F sc_ehinge mon_E1 ?_
  intro ws A Q hl h
  obtain ⟨x, rfl, ⟨n, hn, z⟩, h2⟩ := e1_cases h
  have k2 : ∃ n, 8 * n + 3 ≤ 3990 ∧ Sz n x.b ∧ Sz n x.c ∧ Sz n x.d ∧ Sz n x.q ∧ Sz n x.r ∧ Sz n x.s := ⟨n, by omega, z.b, z.c, z.d, z.q, z.r, z.s⟩
  unfold hingeB nouB3 at h2
  cases hb : ([x.b.num.sign == 0, x.c.num.sign == 0, x.d.num.sign == 0].all id)
  · rw [hb] at h2
    cases hd : ((x.b * x.q + x.c * x.r + x.d * x.s).num.sign == 0)
    · rw [hd] at h2
      walk_at "hw run"
      exact h2
    · rw [hd] at h2
      walk_at "hw run"
      exact h2
  · rw [hb] at h2
    walk_at "hw run"
    exact h2
abbrev t_eeq : Stmt := inClass (top 29) 13
theorem sc_eeq : FnScope ["self", "other"] ["self", "other"] (defScope t_eeq) := ⟨rfl, rfl, rfl, by decide +kernel, rfl, by decide +kernel, by decide +kernel⟩
theorem fn_eeq (F : FD G t_eeq "__eq__" "Eight.__eq__" f fd) (h0 : 0 < nc) (h1 : 1 < nc) (hE : E8T G.T) (fe1 : FldOk G "_first") (fe2 : FldOk G "_second") (b_isi : Bif G 0 "isinstance" (isiW nc)) (n_Eight : Nam G "Eight" (.cls 1)) {be : O2} (o_eq : SO2 G 3 (compareOp .Eq) (Irr2 (eqDT oeN 1 be))) : Fn G 4 f fd ["self", "other"] (sEqE nc) := by
  refine fn_bodyW F sc_eeq mon_eqEE ?_
  intro ws A Q hl h
  obtain ⟨x, e, rfl, h1', h3, h2⟩ := eqE_cases h
  rcases h1' with ⟨y, rfl⟩ | h1'
  · have f1 := eq_fourD (n := 1) (base := be) (a := x.a) (b := x.b) (c := x.c) (d := x.d) (p := y.a) (q := y.b) (r := y.c) (s := y.d)
    have f2 := eq_fourD (n := 1) (base := be) (a := x.p) (b := x.q) (c := x.r) (d := x.s) (p := y.p) (q := y.q) (r := y.r) (s := y.s)
    have h4 : Q (.t (.bl (decide (x.a = y.a ∧ x.b = y.b ∧ x.c = y.c ∧ x.d = y.d) && decide (x.p = y.p ∧ x.q = y.q ∧ x.r = y.r ∧ x.s = y.s)))) A := h2
    cases hb : decide (x.a = y.a ∧ x.b = y.b ∧ x.c = y.c ∧ x.d = y.d)
    · rw [hb] at f1 h4
      walk_at "hw run"
      exact h4
    · rw [hb] at f1 h4
      walk_at "hw run"
      exact h4
  · rw [eqE8_no h1'] at h2
    walk_at "hw run"
    exact h2
abbrev t_erepr : Stmt := inClass (top 29) 14
theorem sc_erepr : FnScope ["self"] ["self"] (defScope t_erepr) := ⟨rfl, rfl, rfl, by decide +kernel, rfl, by decide +kernel, by decide +kernel⟩
theorem fn_erepr (F : FD G t_erepr "__repr__" "Eight.__repr__" f fd) (hE : E8T G.T) (fe1 : FldOk G "_first") (fe2 : FldOk G "_second") (c_shownF : Fnc G 5 "shown_four" 1 [] (posK sShownF)) : Fn G 6 f fd ["self"] sReprE := by
  refine fn_bodyW F sc_erepr mon_E1 ?_
  intro ws A Q hl h
  obtain ⟨x, rfl, z, h2⟩ := e1_cases h
  have k1 : pStr x.a ∧ pStr x.b ∧ pStr x.c ∧ pStr x.d := ⟨z.a, z.b, z.c, z.d⟩
  have k2 : pStr x.p ∧ pStr x.q ∧ pStr x.r ∧ pStr x.s := ⟨z.p, z.q, z.r, z.s⟩
  have z0 : Str.empty.length = 0 := rfl
  have z1 : ("Eight(" : Str).length = 6 := by decide +kernel
  have z2 : (", " : Str).length = 2 := by decide +kernel
  have z3 : (")" : Str).length = 1 := by decide +kernel
  have l1 := four_len z.a z.b z.c z.d
  have l2 := four_len z.p z.q z.r z.s
  unfold e8Text at h2
  rw [← str_nil ("Eight(" : Str)] at h2
  walk_at "hw run"
  exact h2
abbrev t_draw : Stmt := top 34
theorem sc_draw : FnScope ["_law_pot_here", "_law_size", "_law_digit"] ["_law_pot_here", "_law_size"] (defScope t_draw) := ⟨rfl, rfl, rfl, by decide +kernel, rfl, by decide +kernel, by decide +kernel⟩
theorem fn_draw (F : FD G t_draw "_law_draw" "_law_draw" f fd) (b_divmod : Bif G 0 "divmod" divmodW) (b_int : Bif G 0 "int" (i1W fun i => i)) : Fn G 1 f fd ["_law_pot_here", "_law_size"] sDraw := by
  refine fn_bodyW F sc_draw mon_draw ?_
  intro ws A Q hl h
  unfold sDraw at h
  split at h
  · rename_i j n
    obtain ⟨⟨a, b, ha, hb, hb2, hg⟩, hn, hn2, hQ⟩ := h
    walk_at "hw run"
    refine if_2 (fun hc => ?_) (fun hc => ?_)
    · walk_at "hw run"
      exact hQ _ _ (Pot.set hg (Int.ediv_nonneg ha (by omega)) hb hb2) Kp.set (Int.emod_nonneg _ (by omega)) (Int.emod_lt_of_pos _ hn)
    · have sb : Sm b := Si.sm (n := 31) (by unfold Si; omega) (by decide)
      have x1 := Int.fmod_nonneg_of_pos (b * 48271 + 18191) (b := 2147483587) (by decide)
      have x2 := Int.fmod_lt_of_pos (b * 48271 + 18191) (b := 2147483587) (by decide)
      have sx : Sm ((b * 48271 + 18191).fmod 2147483587) := Si.sm (n := 31) (by unfold Si; omega) (by decide)
      have hn0 : n ≠ 0 := by omega
      walk_at "hw run"
      exact hQ _ _ (Pot.set hg ha x1 (Int.lt_trans x2 (by decide))) Kp.set (Int.fmod_nonneg_of_pos _ hn) (Int.fmod_lt_of_pos _ hn)
  · exact h.elim
abbrev t_lpot : Stmt := top 33
theorem sc_lpot : FnScope ["_law_script", "_law_k", "_law_cell"] ["_law_script", "_law_k"] (defScope t_lpot) := ⟨rfl, rfl, rfl, by decide +kernel, rfl, by decide +kernel, by decide +kernel⟩
theorem fn_lpot (F : FD G t_lpot "_law_pot" "_law_pot" f fd) (b_abs : Bif G 0 "abs" (i1W fun i => if i < 0 then -i else i)) (b_max : Bif G 0 "max" (i2W fun i j => if j > i then j else i)) (b_int : Bif G 0 "int" (i1W fun i => i)) (b_len : Bif G 0 "len" lenW) : Fn G 1 f fd ["_law_script", "_law_k"] sPot := by
  refine fn_bodyKW F sc_lpot mon_pot ?_
  intro ws A Q hl h
  unfold sPot at h
  split at h
  · rename_i l k
    obtain ⟨⟨ns, rfl, hn⟩, hk, hk2, hQ⟩ := h
    have mk : Sm k := Si.sm (n := 31) (by unfold Si; omega) (by decide)
    have mk2 : Sm (2 * k + 271) := Si.sm (n := 31) (by unfold Si; omega) (by decide)
    have fin : ∀ v : Int, Q (.loc A.length) (A ++ [.live (.lst [.int (if v > 0 then v else 0), .int (((v + 10 ^ 18).fmod 2147483549 * (2 * k + 271) + 1013).fmod 2147483543 + 1)])]) := fun v => by
      have y1 := Int.fmod_nonneg_of_pos ((v + 10 ^ 18).fmod 2147483549 * (2 * k + 271) + 1013) (b := 2147483543) (by decide)
      have y2 := Int.fmod_lt_of_pos ((v + 10 ^ 18).fmod 2147483549 * (2 * k + 271) + 1013) (b := 2147483543) (by decide)
      refine hQ _ ⟨_, _, ?_, ?_, ?_, get_app⟩ (by simp) (fun i hi => List.getElem?_append_left hi)
      · split <;> omega
      · omega
      · omega
    have sv : ∀ v : Int, Sm (v.fmod 2147483549) := fun v => by
      have y1 := Int.fmod_nonneg_of_pos v (b := 2147483549) (by decide)
      have y2 := Int.fmod_lt_of_pos v (b := 2147483549) (by decide)
      exact Si.sm (n := 31) (by unfold Si; omega) (by decide)
    walk_at "hw run"
    refine if_2 (fun hc => ?_) (fun hc => ?_)
    · have hc' : k < (ns.map D.int).length := of_decide_eq_true hc
      obtain ⟨d, hd, hat⟩ := at_int hk hc'
      obtain ⟨n, _, rfl⟩ := List.mem_map.mp hd
      have s1 := sv (if n < 0 then -n else n)
      walk_at "hw st"
      walk_at "hw env"
      apply wp_at
      exact rfl
      (focus apply ss_ret; apply se_lstL; walk_at "hw a")
      walk_at "hw run"
      have := fin ((if n < 0 then -n else n) - 10 ^ 18)
      rw [Int.sub_add_cancel] at this
      exact this
    · have s1 := sv (601 * k + 337)
      walk_at "hw env"
      apply wp_nil
      conv => whnf
      apply wp_at
      exact rfl
      (focus apply ss_ret; apply se_lstL; walk_at "hw a")
      walk_at "hw run"
      have := fin ((601 * k + 337) - 10 ^ 18)
      rw [Int.sub_add_cancel] at this
      exact this
  · exact h.elim
abbrev t_lfour : Stmt := top 35
theorem sc_lfour : FnScope ["_law_one", "_law_other", "_law_a", "_law_b", "_law_c", "_law_d", "_law_p", "_law_q", "_law_r", "_law_s", "_law_first", "_law_second"] ["_law_one", "_law_other"] (defScope t_lfour) := ⟨rfl, rfl, rfl, by decide +kernel, rfl, by decide +kernel, by decide +kernel⟩
theorem fn_lfour (F : FD G t_lfour "_law_four" "_law_four" f fd)  : Fn G 1 f fd ["_law_one", "_law_other"] sLFour := by
  refine fn_bodyW F sc_lfour mon_lfour ?_
  intro ws A Q hl h
  obtain ⟨x, y, a, b, c, d, p, q, r, s, rfl, hx, hy, ⟨sa, sb, sc, sd, sp, sq, sr, ss⟩, h2⟩ := lfour_cases h
  rcases hx with rfl | rfl
  · rcases hy with rfl | rfl
    · walk_at "hw run"
      exact h2
    · walk_at "hw run"
      exact h2
  · rcases hy with rfl | rfl
    · walk_at "hw run"
      exact h2
    · walk_at "hw run"
      exact h2
abbrev t_lmirror : Stmt := top 36
theorem sc_lmirror : FnScope ["_law_numbers", "_law_at", "_law_number"] ["_law_numbers"] (defScope t_lmirror) := ⟨rfl, rfl, rfl, by decide +kernel, rfl, by decide +kernel, by decide +kernel⟩
theorem fn_lmirror (F : FD G t_lmirror "_law_mirror" "_law_mirror" f fd) (z_enum : G.mg "enumerate" = none) : Fn G 1 f fd ["_law_numbers"] sLMirror8 := by
  refine fn_bodyW F sc_lmirror mon_I1 ?_
  intro ws A Q hl h
  obtain ⟨x, rfl, _, h2⟩ := I1_cases h
  walk_at "hw run"
  exact h2
abbrev t_leight : Stmt := top 37
theorem sc_leight : FnScope ["_law_one", "_law_other", "_law_near", "_law_far", "_law_number", "_law_more"] ["_law_one", "_law_other"] (defScope t_leight) := ⟨rfl, rfl, rfl, by decide +kernel, rfl, by decide +kernel, by decide +kernel⟩
theorem fn_leight (F : FD G t_leight "_law_eight" "_law_eight" f fd) (c_lfour : Fnc G 1 "_law_four" 2 [] (posK (Irr sLFour))) (z_zip : G.mg "zip" = none) (o_add : SO2 G 6 (binaryOp .Add) (opN pSz (fun q r => .rat (q + r)) addL)) : Fn G 7 f fd ["_law_one", "_law_other"] sLEight := by
  refine fn_bodyW F sc_leight mon_I2 ?_
  intro ws A Q hl h
  obtain ⟨x, y, rfl, ⟨zx, zy⟩, h2⟩ := I2_cases h
  have t1 := lfour_told (x := l4 x.a x.b x.c x.d) (y := l4 y.p y.q y.r y.s) (.inl rfl) (.inl rfl) zx.f zy.g (by decide) (by decide)
  have t2 := lfour_told (x := l4 x.p x.q x.r x.s) (y := l4 y.a y.b y.c y.d) (.inl rfl) (.inl rfl) zx.g zy.f (by decide) (by decide)
  have t3 := lfour_told (x := l4 x.a x.b x.c x.d) (y := l4 y.a y.b y.c y.d) (.inl rfl) (.inl rfl) zx.f zy.f (by decide) (by decide)
  walk_at "hw run"
  exact h2
abbrev t_ldot : Stmt := top 38
theorem sc_ldot : FnScope ["_law_one", "_law_other", "_law_near", "_law_far"] ["_law_one", "_law_other"] (defScope t_ldot) := ⟨rfl, rfl, rfl, by decide +kernel, rfl, by decide +kernel, by decide +kernel⟩
theorem fn_ldot (F : FD G t_ldot "_law_dot" "_law_dot" f fd) (z_zip : G.mg "zip" = none) (b_sum : Bif G 0 "sum" sumW) : Fn G 1 f fd ["_law_one", "_law_other"] sLDotN := by
  refine fn_bodyW F sc_ldot mon_pure ?_
  intro ws A Q hl h
  unfold sLDotN pureS at h
  match ws, hl with
  | [.t (.lst [.int a, .int b, .int c, .int d]), .t (.lst [.int p, .int q, .int r, .int s])], _ =>
    obtain ⟨⟨sa, sb, sc, sd, sp, sq, sr, ss⟩, h2⟩ := h
    walk_at "hw run"
    exact h2
  | [.t (.lst [.int a, .int b, .int c]), .t (.lst [.int p, .int q, .int r])], _ =>
    obtain ⟨⟨sa, sb, sc, sd, sp, sq, sr, ss⟩, h2⟩ := h
    walk_at "hw run"
    exact h2
abbrev t_lcross : Stmt := top 39
theorem sc_lcross : FnScope ["_law_one", "_law_other", "_law_a", "_law_b", "_law_c", "_law_p", "_law_q", "_law_r"] ["_law_one", "_law_other"] (defScope t_lcross) := ⟨rfl, rfl, rfl, by decide +kernel, rfl, by decide +kernel, by decide +kernel⟩
theorem fn_lcross (F : FD G t_lcross "_law_cross" "_law_cross" f fd)  : Fn G 1 f fd ["_law_one", "_law_other"] sCross := by
  refine fn_bodyW F sc_lcross mon_pure ?_
  intro ws A Q hl h
  unfold sCross pureS at h
  match ws, hl with
  | [.t (.lst [.int a, .int b, .int c]), .t (.lst [.int p, .int q, .int r])], _ =>
    obtain ⟨⟨⟨sa, sb, sc⟩, sp, sq, sr⟩, h2⟩ := h
    walk_at "hw run"
    exact h2
abbrev t_lis : Stmt := top 40
theorem sc_lis : FnScope ["_law_told", "_law_bottom", "_law_numbers", "_law_one", "_law_number"] ["_law_told", "_law_bottom", "_law_numbers"] (defScope t_lis) := ⟨rfl, rfl, rfl, by decide +kernel, rfl, by decide +kernel, by decide +kernel⟩
theorem fn_lis (F : FD G t_lis "_law_is" "_law_is" f fd) (h0 : 0 < nc) (b_isi : Bif G 0 "isinstance" (isiW nc)) (n_tuple : Nam G "tuple" (.ty "tuple")) (n_Ratio : Nam G "Ratio" (.cls 0)) (b_len : Bif G 0 "len" lenW) (b_all : Bif G 0 "all" (allW fun bs => bs.all id)) (p_top : Prp G 1 "top" isRat sTop) (p_bottom : Prp G 1 "bottom" isRat sBottom) (z_zip : G.mg "zip" = none) : Fn G 3 f fd ["_law_told", "_law_bottom", "_law_numbers"] sLIs := by
  refine fn_bodyW F sc_lis mon_pure ?_
  intro ws A Q hl h
  unfold sLIs pureS at h
  match ws, hl with
  | [.t (.tup [.rat a, .rat b, .rat c, .rat d]), .t (.int B), .t (.lst [.int p, .int q, .int r, .int s])], _ =>
    obtain ⟨⟨ha, hb, hc, hd, sB, sp, sq, sr, ss⟩, h2⟩ := h
    have a1 : Sm a.num := Si.sm ha.num (by decide)
    have a2 : Sm (a.den : Int) := Si.sm ha.den (by decide)
    have b1 : Sm b.num := Si.sm hb.num (by decide)
    have b2 : Sm (b.den : Int) := Si.sm hb.den (by decide)
    have c1 : Sm c.num := Si.sm hc.num (by decide)
    have c2 : Sm (c.den : Int) := Si.sm hc.den (by decide)
    have d1 : Sm d.num := Si.sm hd.num (by decide)
    have d2 : Sm (d.den : Int) := Si.sm hd.den (by decide)
    walk_at "hw run"
    exact h2
abbrev t_passed : Stmt := top 41
theorem sc_passed : FnScope ["_law_pot_here", "_law_numbers", "_law_bottom", "_law_found", "_law_number", "_law_whole"] ["_law_pot_here", "_law_numbers", "_law_bottom"] (defScope t_passed) := ⟨rfl, rfl, rfl, by decide +kernel, rfl, by decide +kernel, by decide +kernel⟩
theorem fn_passed (F : FunD G.K "_law_passed" "_law_passed" (defArgs t_passed) (defBody t_passed) (defScope t_passed) [.int 1] [] f fd) (h0 : 0 < nc) (c_draw : Fnc G 1 "_law_draw" 2 [] (posK sDraw)) (c_mk2 : Fnc G 3 "Ratio" 2 [] sMk2) (n_Ratio : Nam G "Ratio" (.cls 0)) (b_tup : Bif G 0 "tuple" tupB) : Fn G 4 f fd ["_law_pot_here", "_law_numbers", "_law_bottom"] sPassed := by
  refine fn_bodyW F sc_passed mon_passed ?_
  intro ws A Q hl h
  unfold sPassed at h
  split at h
  · rename_i j a b c d B
    obtain ⟨hp, ⟨b0, b1⟩, ⟨ha, hb, hc, hd⟩, hQ⟩ := h
    have mB : Sm B := Si.sm (n := 31) (by unfold Si; omega) (by decide)
    have nB : B ≠ 0 := by omega
    walk_at "hw env"
    apply wp_at
    exact rfl
    (focus apply ss_asg; apply se_lstL; walk_at "hw a"; walk_at "hw g"; (intro _; exact rfl); (intro _; first | exact rfl | exact swn2); (intro _; exact rfl))
    walk_at "hw run"
    conv => whnf
    refine for_inv mon_dName wp_mon (fun i e B' => ∃ (A' : AH) (acc : List D) (y z : Option W), B' = A' ++ [Cell.live (AO.lst acc)] ∧ Pot A' j ∧ Kp A A' j ∧ acc.length = i ∧ (∀ (t : Nat) (x : D), acc[t]? = some x → ∃ n : Int, [a, b, c, d][t]? = some n ∧ NumOk x (mkR n B)) ∧
      e = [some (.loc j), some (.t (.lst [.int a, .int b, .int c, .int d])), some (.t (.int B)), some (.loc A.length), y, z]) ⟨A, [], none, none, rfl, hp, Kp.refl, rfl, fun t x h => by have h' : ([] : List D)[t]? = some x := h; simp at h', rfl⟩ ?_ ?_
    · rintro i w e B' hw ⟨A1, acc, y, z, rfl, p1, k1, l1, a1, rfl⟩
      obtain ⟨n, rfl, hn, ln⟩ : ∃ n, w = .t (.int n) ∧ [a, b, c, d][i]? = some n ∧ Lim 1000 n := by
        match i, hw with
        | 0, e => exact ⟨a, (Option.some.inj e).symm, rfl, ha⟩
        | 1, e => exact ⟨b, (Option.some.inj e).symm, rfl, hb⟩
        | 2, e => exact ⟨c, (Option.some.inj e).symm, rfl, hc⟩
        | 3, e => exact ⟨d, (Option.some.inj e).symm, rfl, hd⟩
      have sn : Sm n := Si.sm (n := 31) (by unfold Si; unfold Lim at ln; omega) (by decide)
      have sf : Sm (n.fdiv B) := by
        rw [Int.fdiv_eq_ediv_of_nonneg n (by omega)]
        have := Int.natAbs_ediv_le_natAbs n B
        exact Si.sm (n := 31) (by unfold Si; unfold Lim at ln; omega) (by decide)
      have lA : A1.length = A.length := k1.len
      have quot : (n.fdiv B * B == n) = true → NumOk (.int (n.fdiv B)) (mkR n B) := fun hc => by
        have e : n.fdiv B * B = n := by simpa using hc
        refine ⟨?_, fun i h => by cases h; exact sf⟩
        show some ((n.fdiv B : Int) : Rat) = _
        rw [← mkR_one, mk_same (c := n) (d := B) (by decide) nB (by rw [e, Int.mul_one])]
      have ratio : NumOk (.rat (mkR n B)) (mkR n B) := ⟨rfl, fun i h => by cases h⟩
      have fin : ∀ (B2 : AH) (x : D) (y z : Option W), B2.length = A1.length → Pot B2 j → Kp A1 B2 j → NumOk x (mkR n B) → ∃ (A' : AH) (acc' : List D) (y' z' : Option W), B2 ++ [Cell.live (AO.lst (acc ++ [x]))] = A' ++ [Cell.live (AO.lst acc')] ∧ Pot A' j ∧ Kp A A' j ∧ acc'.length = i + 1 ∧ (∀ (t : Nat) (x : D), acc'[t]? = some x → ∃ n : Int, [a, b, c, d][t]? = some n ∧ NumOk x (mkR n B)) ∧
          [some (W.loc j), some (.t (.lst [.int a, .int b, .int c, .int d])), some (.t (.int B)), some (.loc A.length), y, z] = [some (W.loc j), some (.t (.lst [.int a, .int b, .int c, .int d])), some (.t (.int B)), some (.loc A.length), y', z'] := fun B2 x y z lB pB kB ok =>
        ⟨B2, _, y, z, rfl, pB, k1.trans kB, by simp [l1], grow (P := fun x n => NumOk x (mkR n B)) a1 (by rw [l1]; exact hn) ok, rfl⟩
      have i4 : i < 4 := by
        have := (List.getElem?_eq_some_iff.mp hn).1
        exact this
      walk_at "hw run"
      refine if_2 (fun hc => ?_) (fun hc => ?_)
      · walk_at "hw run"
        refine ⟨p1.app, by omega, by omega, fun A2 v p2 k2 v0 v1 => ?_⟩
        obtain ⟨B2, rfl, lB, pB, kB⟩ := pot_cut p1 p2 k2
        walk_at "hw run"
        conv => whnf
        refine ⟨⟨acc, at_last (lB.trans lA)⟩, ?_⟩
        walk_at "hw run"
        refine if_2 (fun hv => ?_) (fun hv => ?_)
        · walk_at "hw run"
          refine app_go (at_last (lB.trans lA)) (by omega) ?_
          rw [set_last (lB.trans lA)]
          walk_at "hw run"
          exact fin B2 _ _ _ lB pB kB (quot hc)
        · walk_at "hw run"
          refine app_go (at_last (lB.trans lA)) (by omega) ?_
          rw [set_last (lB.trans lA)]
          walk_at "hw run"
          exact fin B2 _ _ _ lB pB kB ratio
      · walk_at "hw run"
        conv => whnf
        refine ⟨⟨acc, at_last lA⟩, ?_⟩
        walk_at "hw run"
        refine app_go (at_last lA) (by omega) ?_
        rw [set_last lA]
        walk_at "hw run"
        exact fin A1 _ _ _ rfl p1 Kp.refl ratio
    · rintro e B' ⟨A1, acc, y, z, rfl, p1, k1, l1, a1, rfl⟩
      have lA : A1.length = A.length := k1.len
      obtain ⟨x0, x1, x2, x3, rfl⟩ : ∃ x y z w, acc = [x, y, z, w] := by
        match acc, l1 with
        | [x, y, z, w], _ => exact ⟨x, y, z, w, rfl⟩
      have f0 : NumOk x0 (mkR a B) := by obtain ⟨m, e, h⟩ := a1 0 x0 rfl; cases e; exact h
      have f1 : NumOk x1 (mkR b B) := by obtain ⟨m, e, h⟩ := a1 1 x1 rfl; cases e; exact h
      have f2 : NumOk x2 (mkR c B) := by obtain ⟨m, e, h⟩ := a1 2 x2 rfl; cases e; exact h
      have f3 : NumOk x3 (mkR d B) := by obtain ⟨m, e, h⟩ := a1 3 x3 rfl; cases e; exact h
      conv => whnf
      walk_at "hw run"
      refine ⟨p1.app, by omega, by omega, fun A2 v p2 k2 v0 v1 => ?_⟩
      obtain ⟨B2, rfl, lB, pB, kB⟩ := pot_cut p1 p2 k2
      have tk : (B2 ++ [Cell.live (AO.lst [x0, x1, x2, x3])]).take A.length = B2 := by rw [← lA, ← lB, List.take_left]
      walk_at "hw run"
      refine if_2 (fun hv => ?_) (fun hv => ?_)
      · walk_at "hw run"
        refine rt_new (Nat.le_refl _) (at_last (lB.trans lA)) ?_
        rw [tk]
        exact hQ _ _ pB (k1.trans kB) ⟨_, _, _, _, .inl rfl, f0, f1, f2, f3⟩
      · refine tup_loc (at_last (lB.trans lA)) ?_
        refine rt_cut ?_
        rw [tk]
        exact hQ _ _ pB (k1.trans kB) ⟨_, _, _, _, .inr rfl, f0, f1, f2, f3⟩
  · exact h.elim
abbrev t_lrow : Stmt := top 42
theorem sc_lrow : FnScope ["_law_pot_here", "_law_many", "_law_most", "_law_place"] ["_law_pot_here", "_law_many", "_law_most"] (defScope t_lrow) := ⟨rfl, rfl, rfl, by decide +kernel, rfl, by decide +kernel, by decide +kernel⟩
theorem fn_lrow (F : FD G t_lrow "_law_row" "_law_row" f fd) (c_draw : Fnc G 1 "_law_draw" 2 [] (posK sDraw)) (z_range : G.mg "range" = none) : Fn G 2 f fd ["_law_pot_here", "_law_many", "_law_most"] sRowN := by
  refine fn_bodyW F sc_lrow mon_rowN ?_
  intro ws A Q hl h
  obtain ⟨j, n, k, rfl, hn, hp, ⟨k0, k1⟩, hQ⟩ := rown_cases h
  have m2 : Sm (2 : Int) := Sm.of (by decide +kernel)
  have mk : Sm k := Si.sm (n := 31) (by unfold Si; omega) (by decide)
  rcases hn with rfl | rfl | rfl
  all_goals
    walk_at "hw run"
    refine lc_turns mon_dName (fun i acc A' => Pot A' j ∧ Kp A A' j ∧ acc.length = i ∧ ∀ d ∈ acc, ∃ v, d = .int v ∧ Lim k v) (by decide) (fun _ _ _ z => z.2.2.1) ⟨hp, Kp.refl, rfl, by simp⟩ ?_ ?_
    · rintro i w acc A1 c K hw ⟨p1, k1', l1, a1⟩ hl1 hK
      walk_at "hw run"
      refine ⟨p1.app, by omega, by omega, fun A2 v p2 k2 v0 v1 => ?_⟩
      obtain ⟨B2, rfl, lB, pB, kB⟩ := pot_cut p1 p2 k2
      walk_at "hw run"
      refine hK _ B2 (lB.trans hl1) ⟨pB, k1'.trans kB, by simp [l1], fun d hd => ?_⟩
      rcases List.mem_append.1 hd with hd | hd
      · exact a1 d hd
      · obtain rfl := List.mem_singleton.1 hd
        exact ⟨_, rfl, by omega, by omega⟩
    · rintro acc A1 ⟨p1, k1', l1, a1⟩ hl1
      obtain ⟨l, rfl, hl'⟩ := ints_of (P := Lim k) a1
      exact rt_end hl1 (hQ A1 l p1 k1' (by simpa [ups_len] using l1) hl')
abbrev t_lfilled : Stmt := top 43
theorem sc_lfilled : FnScope ["_law_pot_here", "_law_many", "_law_most", "_law_found"] ["_law_pot_here", "_law_many", "_law_most"] (defScope t_lfilled) := ⟨rfl, rfl, rfl, by decide +kernel, rfl, by decide +kernel, by decide +kernel⟩
theorem fn_lfilled (F : FD G t_lfilled "_law_filled" "_law_filled" f fd) (c_row : Fnc G 2 "_law_row" 3 [] (posK sRowN)) (b_any : Bif G 0 "any" anyDW) {mb : O2} (o_rep : SO2 G 6 (binaryOp .Mult) (repL mb)) (o_add : SO2 G 6 (binaryOp .Add) (opN pSz (fun q r => .rat (q + r)) addL)) : Fn G 7 f fd ["_law_pot_here", "_law_many", "_law_most"] sFilled := by
  refine fn_bodyW F sc_lfilled mon_filled ?_
  intro ws A Q hl h
  obtain ⟨j, n, k, rfl, hn, hp, ⟨k0, k1⟩, hQ⟩ := fill_cases h
  have hk : 0 ≤ k ∧ k < 100 := ⟨by omega, k1⟩
  have z0 : Lim k 0 := ⟨by omega, by omega⟩
  have z1 : Lim k 1 := ⟨by omega, by omega⟩
  rcases hn with rfl | rfl
  · walk_at "hw run"
    intro A1 a b c p1 k1' ha hb hc
    have ll := k1'.len
    walk_at "hw run"
    refine if_2 (fun hh => ?_) (fun hh => ?_)
    · walk_at "hw run"
      refine hQ A1 [a, b, c] p1 k1' rfl (by simp [ha, hb, hc]) ?_
      simp at hh
      simp
      exact hh
    · walk_at "hw run"
      exact hQ A1 [0, 0, 1] p1 k1' rfl (by simp [z0, z1]) (by simp)
  · walk_at "hw run"
    intro A1 a b c d p1 k1' ha hb hc hd
    have ll := k1'.len
    walk_at "hw run"
    refine if_2 (fun hh => ?_) (fun hh => ?_)
    · walk_at "hw run"
      refine hQ A1 [a, b, c, d] p1 k1' rfl (by simp [ha, hb, hc, hd]) ?_
      simp at hh
      simp
      exact hh
    · walk_at "hw run"
      exact hQ A1 [0, 0, 0, 1] p1 k1' rfl (by simp [z0, z1]) (by simp)
abbrev t_lpose : Stmt := top 44
theorem sc_lpose : FnScope ["_law_pot_here", "_law_four_here", "_law_point", "_law_number"] ["_law_pot_here"] (defScope t_lpose) := ⟨rfl, rfl, rfl, by decide +kernel, rfl, by decide +kernel, by decide +kernel⟩
theorem fn_lpose (F : FD G t_lpose "_law_pose" "_law_pose" f fd) (c_filled : Fnc G 7 "_law_filled" 3 [] (posK sFilled)) (c_row : Fnc G 2 "_law_row" 3 [] (posK sRowN)) (c_lfour : Fnc G 1 "_law_four" 2 [] (posK (Irr sLFour))) (o_add : SO2 G 6 (binaryOp .Add) (opN pSz (fun q r => .rat (q + r)) addL)) : Fn G 8 f fd ["_law_pot_here"] (sDrawn8 24) := by
  refine fn_bodyW F sc_lpose mon_drawn8 ?_
  intro ws A Q hl h
  obtain ⟨j, rfl, hp, hQ⟩ := drawn8_cases h
  have h02 : (0 : Int) < 2 ∧ (2 : Int) < 100 := ⟨by decide, by decide⟩
  have h03 : (0 : Int) ≤ 3 ∧ (3 : Int) < 100 := ⟨by decide, by decide⟩
  walk_at "hw run"
  intro A1 a b c d p1 k1 ha hb hc hd hne
  walk_at "hw run"
  intro A2 x y z p2 k2 hx hy hz
  have kk := k1.trans k2
  have ll := kk.len
  have m2 : Sm (2 : Int) := Sm.of (by decide +kernel)
  have z0 : Lim 3 0 := ⟨by decide, by decide⟩
  have s1 : S4 5 a b c d := S4.lim ha hb hc hd (by decide)
  have s2 : S4 5 0 x y z := S4.lim z0 hx hy hz (by decide)
  have ma := s1.a.sm (by decide)
  have mb := s1.b.sm (by decide)
  have mc := s1.c.sm (by decide)
  have md := s1.d.sm (by decide)
  have t1 := lfour_told (x := l4 0 x y z) (y := l4 a b c d) (.inl rfl) (.inl rfl) s2 s1 (by decide) (by decide)
  obtain ⟨f1, f2, f3, f4⟩ := lim_four z0 hx hy hz ha hb hc hd
  have cat : ((fun l => D.int 0 :: l) [] ++ [D.int x, D.int y, D.int z]) = [D.int 0, D.int x, D.int y, D.int z] := rfl
  walk_at "hw run"
  rw [cat]
  walk_at "hw run"
  exact hQ A2 ⟨2 * a, 2 * b, 2 * c, 2 * d, _, _, _, _⟩ p2 kk ⟨lim_two ha, lim_two hb, lim_two hc, lim_two hd, f1, f2, f3, f4⟩
abbrev t_lasE : Stmt := top 45
theorem sc_lasE : FnScope ["_law_pot_here", "_law_numbers", "_law_bottom"] ["_law_pot_here", "_law_numbers", "_law_bottom"] (defScope t_lasE) := ⟨rfl, rfl, rfl, by decide +kernel, rfl, by decide +kernel, by decide +kernel⟩
theorem fn_lasE (F : FunD G.K "_law_as_eight" "_law_as_eight" (defArgs t_lasE) (defBody t_lasE) (defScope t_lasE) [.int 1] [] f fd) (c_passed : Fnc G 4 "_law_passed" 3 [] (posK sPassed)) (c_mkE : Fnc G 7 "Eight" 2 [] (posK sMkE)) : Fn G 8 f fd ["_law_pot_here", "_law_numbers", "_law_bottom"] sAsE := by
  refine fn_bodyW F sc_lasE mon_asE ?_
  intro ws A Q hl h
  obtain ⟨j, x, B, rfl, hp, hB, hx, hQ⟩ := asE_cases h
  have L1 : Lim 1000 x.a ∧ Lim 1000 x.b ∧ Lim 1000 x.c ∧ Lim 1000 x.d := ⟨hx.a, hx.b, hx.c, hx.d⟩
  have L2 : Lim 1000 x.p ∧ Lim 1000 x.q ∧ Lim 1000 x.r ∧ Lim 1000 x.s := ⟨hx.p, hx.q, hx.r, hx.s⟩
  walk_at "hw run"
  intro A1 u p1 k1 f1
  walk_at "hw run"
  intro A2 v p2 k2 f2
  have kk := k1.trans k2
  have ll := kk.len
  walk_at "hw run"
  exact hQ A2 p2 kk
abbrev t_lline : Stmt := top 46
theorem sc_lline : FnScope ["_law_pot_here", "_law_direction", "_law_point"] ["_law_pot_here"] (defScope t_lline) := ⟨rfl, rfl, rfl, by decide +kernel, rfl, by decide +kernel, by decide +kernel⟩
theorem fn_lline (F : FD G t_lline "_law_line" "_law_line" f fd) (c_filled : Fnc G 7 "_law_filled" 3 [] (posK sFilled)) (c_row : Fnc G 2 "_law_row" 3 [] (posK sRowN)) (c_cross : Fnc G 1 "_law_cross" 2 [] (posK sCross)) : Fn G 8 f fd ["_law_pot_here"] sLineD := by
  refine fn_bodyW F sc_lline mon_lineD ?_
  intro ws A Q hl h
  obtain ⟨j, rfl, hp, hQ⟩ := lineD_cases h
  have h02 : (0 : Int) < 2 ∧ (2 : Int) < 100 := ⟨by decide, by decide⟩
  have h03 : (0 : Int) ≤ 3 ∧ (3 : Int) < 100 := ⟨by decide, by decide⟩
  walk_at "hw run"
  intro A1 u v w p1 k1 hu hv hw hne
  walk_at "hw run"
  intro A2 x y z p2 k2 hx hy hz
  have kk := k1.trans k2
  have ll := kk.len
  have s1 : S4 5 0 u v w := S4.lim ⟨by decide, by decide⟩ hu hv hw (by decide)
  have s2 : S4 5 0 x y z := S4.lim ⟨by decide, by decide⟩ hx hy hz (by decide)
  have mu := s1.b.sm (by decide)
  have mv := s1.c.sm (by decide)
  have mw := s1.d.sm (by decide)
  have mx := s2.b.sm (by decide)
  have my := s2.c.sm (by decide)
  have mz := s2.d.sm (by decide)
  walk_at "hw run"
  exact hQ A2 u v w x y z _ _ _ p2 kk ⟨hu, hv, hw⟩ ⟨hx, hy, hz⟩ ⟨lim_cross hy hw hz hv, lim_cross hz hu hx hw, lim_cross hx hv hy hu⟩
abbrev t_lsame : Stmt := top 47
theorem sc_lsame : FnScope ["_law_eight_here", "_law_bottom", "_law_numbers"] ["_law_eight_here", "_law_bottom", "_law_numbers"] (defScope t_lsame) := ⟨rfl, rfl, rfl, by decide +kernel, rfl, by decide +kernel, by decide +kernel⟩
theorem fn_lsame (F : FD G t_lsame "_law_same" "_law_same" f fd) (h0 : 0 < nc) (h1 : 1 < nc) (hE : E8T G.T) (b_isi : Bif G 0 "isinstance" (isiW nc)) (n_Eight : Nam G "Eight" (.cls 1)) (c_lis : Fnc G 3 "_law_is" 3 [] (posK (Irr sLIs))) (m_first : Mth G 1 "first" isE8 1 [] (posK (Irr sFirst))) (m_second : Mth G 1 "second" isE8 1 [] (posK (Irr sSecond))) : Fn G 5 f fd ["_law_eight_here", "_law_bottom", "_law_numbers"] sSame := by
  refine fn_bodyW F sc_lsame mon_same ?_
  intro ws A Q hl h
  obtain ⟨x, B, rfl, ⟨hB, zB, zx⟩, h2⟩ := same_cases h
  have ck := cok_e8 (l := [r4 x.a x.b x.c x.d B, r4 x.p x.q x.r x.s B]) h1
  have t1 := first8 (x := x) (A := B)
  have t2 := second8 (x := x) (A := B)
  have t3 := lis_told hB zx.f zB (by decide)
  have t4 := lis_told hB zx.g zB (by decide)
  walk_at "hw run"
  exact h2
abbrev t_ldrawn : Stmt := top 49
theorem sc_ldrawn : FnScope ["_law_pot_here", "_law_way", "_law_direction", "_law_point", "_law_moment"] ["_law_pot_here"] (defScope t_ldrawn) := ⟨rfl, rfl, rfl, by decide +kernel, rfl, by decide +kernel, by decide +kernel⟩
theorem fn_ldrawn (F : FD G t_ldrawn "_law_drawn" "_law_drawn" f fd) (c_draw : Fnc G 1 "_law_draw" 2 [] (posK sDraw)) (c_row : Fnc G 2 "_law_row" 3 [] (posK sRowN)) (c_line : Fnc G 8 "_law_line" 1 [] (posK sLineD)) (c_pose : Fnc G 8 "_law_pose" 1 [] (posK (sDrawn8 24))) (o_add : SO2 G 6 (binaryOp .Add) (opN pSz (fun q r => .rat (q + r)) addL)) : Fn G 9 f fd ["_law_pot_here"] (sDrawn8 24) := by
  refine fn_bodyW F sc_ldrawn mon_drawn8 ?_
  intro ws A Q hl h
  obtain ⟨j, rfl, hp, hQ⟩ := drawn8_cases h
  have h03 : (0 : Int) ≤ 3 ∧ (3 : Int) < 100 := ⟨by decide, by decide⟩
  have h06 : (0 : Int) ≤ 6 ∧ (6 : Int) < 100 := ⟨by decide, by decide⟩
  have z0 : Lim 24 0 := ⟨by decide, by decide⟩
  walk_at "hw run"
  intro A1 t p1 k1 t0 t6
  walk_at "hw run"
  refine if_2 (fun h1 => ?_) (fun h1 => ?_)
  · walk_at "hw run"
    intro A2 a b c d p2 k2 ha hb hc hd
    have kk := k1.trans k2
    have ll := kk.len
    walk_at "hw run"
    exact hQ A2 ⟨0, 0, 0, 0, a, b, c, d⟩ p2 kk ⟨z0, z0, z0, z0, ha.up (by decide), hb.up (by decide), hc.up (by decide), hd.up (by decide)⟩
  walk_at "hw run"
  refine if_2 (fun h2 => ?_) (fun h2 => ?_)
  · walk_at "hw run"
    rintro A2 u v w x y z m1 m2 m3 p2 k2 ⟨hu, hv, hw⟩ ⟨hx, hy, hz⟩ ⟨l1, l2, l3⟩
    walk_at "hw run"
    intro A3 t2 p3 k3 b0 b1
    have kk := k1.trans (k2.trans k3)
    have ll := kk.len
    walk_at "hw run"
    exact hQ A3 ⟨t2 - 2, u, v, w, 0, m1, m2, m3⟩ p3 kk ⟨(show Lim 24 (t2 - 2) from ⟨by omega, by omega⟩), hu.up (by decide), hv.up (by decide), hw.up (by decide), z0, l1.up (by decide), l2.up (by decide), l3.up (by decide)⟩
  walk_at "hw run"
  refine if_2 (fun h3 => ?_) (fun h3 => ?_)
  · walk_at "hw run"
    intro A2 x p2 k2 hx
    have kk := k1.trans k2
    have ll := kk.len
    walk_at "hw run"
    exact hQ A2 x p2 kk hx
  · walk_at "hw run"
    intro A2 x p2 k2 hx
    have kk := k1.trans k2
    have ll := kk.len
    walk_at "hw run"
    exact hQ A2 x p2 kk (hx.up (by decide))
abbrev t_lshown : Stmt := top 48
theorem sc_lshown : FnScope ["_law_bottom", "_law_numbers", "_law_some", "_law_number"] ["_law_bottom", "_law_numbers"] (defScope t_lshown) := ⟨rfl, rfl, rfl, by decide +kernel, rfl, by decide +kernel, by decide +kernel⟩
theorem fn_lshown (F : FD G t_lshown "_law_shown" "_law_shown" f fd) (c_mk2 : Fnc G 3 "Ratio" 2 [] sMk2) (n_Ratio : Nam G "Ratio" (.cls 0)) (b_str : Bif G 4 "str" (strW isRat (posK (uR pStr fun q => .str (ratText q))))) (o_add : SO2 G 6 (binaryOp .Add) (opN pSz (fun q r => .rat (q + r)) addL)) : Fn G 7 f fd ["_law_bottom", "_law_numbers"] sShown8 := by
  refine fn_bodyW F sc_lshown mon_shown8 ?_
  intro ws A Q hl h
  obtain ⟨x, B, rfl, ⟨hB, zB, zx⟩, h2⟩ := shown8_cases h
  have sz : ∀ {i : Int}, Si 1000 i → pStr (mkR i B) := fun h => (mk_sz hB h zB).up (by decide)
  have p1 := sz zx.f.a
  have p2 := sz zx.f.b
  have p3 := sz zx.f.c
  have p4 := sz zx.f.d
  have p5 := sz zx.g.a
  have p6 := sz zx.g.b
  have p7 := sz zx.g.c
  have p8 := sz zx.g.d
  have m1 := zx.f.a.sm (by decide)
  have m2 := zx.f.b.sm (by decide)
  have m3 := zx.f.c.sm (by decide)
  have m4 := zx.f.d.sm (by decide)
  have m5 := zx.g.a.sm (by decide)
  have m6 := zx.g.b.sm (by decide)
  have m7 := zx.g.c.sm (by decide)
  have m8 := zx.g.d.sm (by decide)
  have mB := zB.sm (by decide)
  have z2 : (", " : Str).length = 2 := by decide +kernel
  have y1 : ("Eight((" : Str).length = 7 := by decide +kernel
  have y2 : ("), (" : Str).length = 4 := by decide +kernel
  have y3 : ("))" : Str).length = 2 := by decide +kernel
  obtain ⟨J1, hJ1, lj1, lk1⟩ := four_join p1 p2 p3 p4
  obtain ⟨J2, hJ2, lj2, lk2⟩ := four_join p5 p6 p7 p8
  rw [text_eq (y := e8 x B) hJ1 hJ2] at h2
  walk_at "hw run"
  refine join_go (ys := [ratText (mkR x.a B), ratText (mkR x.b B), ratText (mkR x.c B), ratText (mkR x.d B)]) rfl lk1 ?_
  rw [hJ1]
  walk_at "hw run"
  refine join_go (ys := [ratText (mkR x.p B), ratText (mkR x.q B), ratText (mkR x.r B), ratText (mkR x.s B)]) (by simp only [strsD]) lk2 ?_
  rw [hJ2]
  walk_at "hw run"
  exact h2
abbrev t_lkinds : Stmt := top 50
theorem sc_lkinds : FnScope ["_law_eight_here", "_law_numbers", "_law_first", "_law_second", "_law_is_pose", "_law_is_hinge"] ["_law_eight_here", "_law_numbers"] (defScope t_lkinds) := ⟨rfl, rfl, rfl, by decide +kernel, rfl, by decide +kernel, by decide +kernel⟩
theorem fn_lkinds (F : FD G t_lkinds "_law_kinds_right" "_law_kinds_right" f fd) (c_dotL : Fnc G 1 "_law_dot" 2 [] (posK (Irr sLDotN))) (p_pose : Prp G 9 "is_pose" isE8 (Irr sPoseE)) (p_hinge : Prp G 9 "is_hinge" isE8 (Irr sHingeE)) {rb : OL} (b_repr : Bif G 9 "repr" (Irr (reprTW (lfT ownE8) 1 rb))) (b_any : Bif G 0 "any" anyDW) : Fn G 11 f fd ["_law_eight_here", "_law_numbers"] sKinds := by
  refine fn_bodyW F sc_lkinds mon_kinds ?_
  intro ws A Q hl h
  obtain ⟨x, B, rfl, ⟨hB, zB, zx⟩, h2⟩ := kinds_cases h
  have t1 := pose8 hB zx zB (by decide)
  have t2 := hinge8 hB zx zB (by decide)
  have t3 : Told sLDotN [.t (l4 x.a x.b x.c x.d), .t (l4 x.p x.q x.r x.s)] (.int (x.a * x.p + x.b * x.q + x.c * x.r + x.d * x.s)) := dotL4 (zx.f.sm8 zx.g (by decide) (by decide))
  have t4 : Told sLDotN [.t (.lst [.int x.b, .int x.c, .int x.d]), .t (.lst [.int x.q, .int x.r, .int x.s])] (.int (x.b * x.q + x.c * x.r + x.d * x.s)) := dotL3 ⟨zx.f.b.sm (by decide), zx.f.c.sm (by decide), zx.f.d.sm (by decide), Sm.of (by decide +kernel), zx.g.b.sm (by decide), zx.g.c.sm (by decide), zx.g.d.sm (by decide), Sm.of (by decide +kernel)⟩
  obtain ⟨bp, hbp⟩ : ∃ b, x.poseI = b := ⟨_, rfl⟩
  obtain ⟨bh, hbh⟩ : ∃ b, x.hingeI = b := ⟨_, rfl⟩
  rw [hbp] at t1
  rw [hbh] at t2
  obtain ⟨tx, r0⟩ := repr_bools (base := rb) bp bh
  walk_at "hw st"
  conv => whnf
  walk_at "hw env"
  apply wp_cutE (fun _ : Unit => True) fun _ e => e.set 4 (some (.t (.bl bp)))
  exact rfl
  (focus walk_at "hw s")
  · unfold I8.poseI at hbp
    walk_at "hw steps"
    refine if_2 (fun hc => ?_) (fun hc => ?_)
    · rw [hc, Bool.true_and] at hbp
      rw [← hbp]
      walk_at "hw steps"
      exact ⟨(), trivial, rfl⟩
    · rw [hc, Bool.false_and] at hbp
      rw [← hbp]
      walk_at "hw steps"
      exact ⟨(), trivial, rfl⟩
  intro _ _
  conv => whnf
  walk_at "hw env"
  apply wp_cutE (fun _ : Unit => True) fun _ e => e.set 5 (some (.t (.bl bh)))
  exact rfl
  (focus walk_at "hw s")
  · unfold I8.hingeI at hbh
    walk_at "hw steps"
    refine if_2 (fun hc => ?_) (fun hc => ?_)
    · rw [hc, Bool.true_and] at hbh
      walk_at "hw steps"
      refine if_2 (fun hd => ?_) (fun hd => ?_)
      · rw [hd, Bool.true_and] at hbh
        rw [← hbh]
        walk_at "hw steps"
        exact ⟨(), trivial, rfl⟩
      · rw [hd, Bool.false_and] at hbh
        rw [← hbh]
        walk_at "hw steps"
        exact ⟨(), trivial, rfl⟩
    · rw [hc, Bool.false_and] at hbh
      rw [← hbh]
      walk_at "hw steps"
      exact ⟨(), trivial, rfl⟩
  intro _ _
  walk_at "hw run"
  rw [beq_self_eq_true]
  exact h2
abbrev t_lundone : Stmt := top 51
theorem sc_lundone : FnScope ["_law_eight_here", "_law_bottom", "_law_numbers", "_law_back"] ["_law_eight_here", "_law_bottom", "_law_numbers"] (defScope t_lundone) := ⟨rfl, rfl, rfl, by decide +kernel, rfl, by decide +kernel, by decide +kernel⟩
theorem fn_lundone (F : FD G t_lundone "_law_undone_right" "_law_undone_right" f fd) (h0 : 0 < nc) (h1 : 1 < nc) (m_undone : Mth G 11 "undone" isE8 1 [] (posK (Irr sUndoneE))) (o_mulE : SO2 G 8 (binaryOp .Mult) (opE (Irr sMulE) (repL (opN pSz (fun q r => .rat (q * r)) mulW)))) (o_eqE : SO2 G 4 (compareOp .Eq) (Irr2 (eqE nc false (sEqE nc) (eqDT oeN 1 (eqNT nc))))) (c_same : Fnc G 5 "_law_same" 3 [] (posK (Irr sSame))) (p_pose : Prp G 9 "is_pose" isE8 (Irr sPoseE)) (o_add : SO2 G 6 (binaryOp .Add) (opN pSz (fun q r => .rat (q + r)) addL)) : Fn G 13 f fd ["_law_eight_here", "_law_bottom", "_law_numbers"] sUndR := by
  refine fn_bodyW F sc_lundone mon_undR ?_
  intro ws A Q hl h
  obtain ⟨x, B, rfl, ⟨hB, zB, zx, hn⟩, h2⟩ := undR_cases h
  obtain ⟨-, -, h3, h4, h5⟩ := und_sz8 zx zB
  have hN : x.nI * B * x.nI ≠ 0 := Int.mul_ne_zero (Int.mul_ne_zero hn hB) hn
  have u1 := und8 hB hn zx zB (by decide)
  have nz := e8_nz hB hn
  have u2 : Told sUndoneE [.t (e8 (undI x B) (x.nI * B * x.nI)).D] (e8 x B).D := und8_of hN (und_nI hn hB) h5 h4 (by decide) (by rw [← undR_mk hB hn]; exact und_und nz)
  have t1 : Told sMulE [.t (e8 x B).D, .t (e8 (undI x B) (x.nI * B * x.nI)).D] (e8 ⟨1, 0, 0, 0, 0, 0, 0, 0⟩ 1).D := mul8_of hB hN (zx.up (m := 31) (by decide)) h5 (zB.up (by decide)) h4 (by decide) (by rw [← undR_mk hB hn, ← oneR_mk]; exact mul_und nz)
  have t2 : Told sMulE [.t (e8 (undI x B) (x.nI * B * x.nI)).D, .t (e8 x B).D] (e8 ⟨1, 0, 0, 0, 0, 0, 0, 0⟩ 1).D := mul8_of hN hB h5 (zx.up (m := 31) (by decide)) h4 (zB.up (by decide)) (by decide) (by rw [← undR_mk hB hn, ← oneR_mk]; exact und_mul nz)
  have z1 : (⟨1, 0, 0, 0, 0, 0, 0, 0⟩ : I8).Z 5 := ⟨⟨by unfold Si; decide, by unfold Si; decide, by unfold Si; decide, by unfold Si; decide⟩, ⟨by unfold Si; decide, by unfold Si; decide, by unfold Si; decide, by unfold Si; decide⟩⟩
  have o1 : Si 5 (1 : Int) := by unfold Si; decide
  have s1 := same8 (x := ⟨1, 0, 0, 0, 0, 0, 0, 0⟩) (B := 1) (by decide) o1 z1 (by decide)
  have e1 : Told2 (eqE nc false (sEqE nc) (eqDT oeN 1 (eqNT nc))) (.t (e8 x B).D) (.t (e8 x B).D) (.bl true) := eq8 (decide_eq_true rfl) h1
  have p1 := pose8 hB zx zB (by decide)
  have p2 := pose8 hN h5 h4 (by decide)
  obtain ⟨b1, hb1⟩ : ∃ b, x.poseI = b := ⟨_, rfl⟩
  obtain ⟨y, hy⟩ : ∃ y, undI x B = y := ⟨_, rfl⟩
  obtain ⟨N, hN2⟩ : ∃ N, x.nI * B * x.nI = N := ⟨_, rfl⟩
  have p3 : b1 = true → y.poseI = true := fun e => by rw [← hy]; exact und_pose hB (hb1.trans e) hn
  rw [hb1] at p1
  rw [hy, hN2] at u1 u2 t1 t2 p2
  walk_at "hw st"
  walk_at "hw no"
  · walk_at "hw steps"
    refine told_eq s1 rfl ?_
    walk_at "hw steps"
    refine told_eq s1 rfl ?_
    walk_at "hw steps"
    exact rfl
  cases b1
  · walk_at "hw run"
    exact h2
  · rw [p3 rfl] at p2
    walk_at "hw run"
    exact h2
abbrev t_lright : Stmt := top 52
theorem sc_lright : FnScope ["_law_pot_here", "_law_low", "_law_deep", "_law_number", "_law_one", "_law_two", "_law_three", "_law_near", "_law_far", "_law_last", "_law_shown_here", "_law_sums", "_law_product", "_law_norm", "_law_n", "_law_s", "_law_again", "_law_at", "_law_entry"] ["_law_pot_here"] (defScope t_lright) := ⟨rfl, rfl, rfl, by decide +kernel, rfl, by decide +kernel, by decide +kernel⟩
theorem fn_lright (F : FD G t_lright "_law_right" "_law_right" f fd) (h0 : 0 < nc) (h1 : 1 < nc) (c_draw : Fnc G 1 "_law_draw" 2 [] (posK sDraw)) (c_drawn : Fnc G 9 "_law_drawn" 1 [] (posK (sDrawn8 24))) (c_row : Fnc G 2 "_law_row" 3 [] (posK sRowN)) (c_asE : Fnc G 8 "_law_as_eight" 3 [] (posK sAsE)) (c_asE2 : Fnc G 8 "_law_as_eight" 2 [] sAsE2) (c_same : Fnc G 5 "_law_same" 3 [] (posK (Irr sSame))) (c_kinds : Fnc G 11 "_law_kinds_right" 2 [] (posK (Irr sKinds))) (c_undr : Fnc G 13 "_law_undone_right" 3 [] (posK (Irr sUndR))) (c_shown8 : Fnc G 7 "_law_shown" 2 [] (posK (Irr sShown8))) (c_leight : Fnc G 7 "_law_eight" 2 [] (posK (Irr sLEight))) (c_lmirror8 : Fnc G 1 "_law_mirror" 1 [] (posK (Irr sLMirror8))) (c_dotL : Fnc G 1 "_law_dot" 2 [] (posK (Irr sLDotN))) (b_repr : Bif G 9 "repr" (Irr (reprTW (lfT ownE8) 1 (reprW isE8 (posK sReprE))))) (o_mulE : SO2 G 8 (binaryOp .Mult) (opE (Irr sMulE) (repL (opN pSz (fun q r => .rat (q * r)) mulW)))) (o_addE : SO2 G 8 (binaryOp .Add) (opE (Irr sAddE) (opN pSz (fun q r => .rat (q + r)) addL))) (o_subE : SO2 G 10 (binaryOp .Sub) (opE (Irr sSubE) subW)) (o_negE : SO1 G 9 (unaryOp .USub) (negE (Irr sNegE) (negN pSz1 fun q => .rat (-q)))) (o_eqE : SO2 G 4 (compareOp .Eq) (Irr2 (eqE nc false (sEqE nc) (eqDT oeN 1 (eqNT nc))))) (o_neE : SO2 G 6 (compareOp .NotEq) (Irr2 (eqE nc true (sEqE nc) (neDT oeN 1 (neNT nc))))) (m_times : Mth G 8 "times" isE8 2 [] (posK (Irr sTimesE))) (m_timesK : Mth G 8 "times" isE8 1 ["number"] (kw11 (Irr sTimesE))) (m_mirror : Mth G 8 "mirror" isE8 1 [] (posK (Irr sMirrorE))) (m_norm : Mth G 9 "norm" isE8 1 [] (posK (Irr sNormE))) (m_first : Mth G 1 "first" isE8 1 [] (posK (Irr sFirst))) (c_mkE : Fnc G 7 "Eight" 2 [] (posK sMkE)) (c_mkE1 : Fnc G 7 "Eight" 1 [] sMkE1) (c_mkEK : Fnc G 7 "Eight" 0 ["second", "first"] (swp sMkE)) (c_mk2 : Fnc G 3 "Ratio" 2 [] sMk2) (n_Ratio : Nam G "Ratio" (.cls 0)) (b_tup : Bif G 0 "tuple" tupB) (b_any : Bif G 0 "any" anyDW) (z_range : G.mg "range" = none) : Fn G 14 f fd ["_law_pot_here"] sYes := by
  refine fn_bodyW F sc_lright mon_yes ?_
  intro ws A Q hl h
  unfold sYes at h
  split at h
  · rename_i j
    obtain ⟨hp, hQ⟩ := h
    walk_at "hw run"
    intro A1 u p1 k1 u0 u1
    walk_at "hw run"
    intro A2 v p2 k2 v0 v1
    walk_at "hw run"
    intro A3 t0 p3 k3 t1 t2
    have h02 : (0 : Int) ≤ 2 ∧ (2 : Int) < 100 := ⟨by decide, by decide⟩
    have h01 : (0 : Int) < 1 ∧ (1 : Int) < 100 := ⟨by decide, by decide⟩
    walk_at "hw run"
    obtain ⟨lo, hlo, lo0, lo4⟩ : ∃ lo, 1 + u = lo ∧ 1 ≤ lo ∧ lo ≤ 3 := ⟨_, rfl, by omega, by omega⟩
    obtain ⟨de, hde, de0, de4⟩ : ∃ de, 1 + v = de ∧ 1 ≤ de ∧ de ≤ 3 := ⟨_, rfl, by omega, by omega⟩
    obtain ⟨t, ht, t3, t4⟩ : ∃ t, t0 - 4 = t ∧ -4 ≤ t ∧ t ≤ 4 := ⟨_, rfl, by omega, by omega⟩
    rw [hlo, hde, ht]
    intro A4 x p4 k4 hx
    walk_at "hw run"
    intro A5 y p5 k5 hy
    walk_at "hw run"
    intro A6 w p6 k6 hw
    have kl0 : 0 < lo ∧ lo < 100 := ⟨by omega, by omega⟩
    have kd0 : 0 < de ∧ de < 100 := ⟨by omega, by omega⟩
    have x3 : x.In 1000 := hx.up (by decide)
    have y3 : y.In 1000 := hy.up (by decide)
    have w3 : w.In 1000 := hw.up (by decide)
    walk_at "hw run"
    intro A7 p7 k7
    walk_at "hw run"
    intro A8 p8 k8
    walk_at "hw run"
    intro A9 p9 k9
    have kk := k1.trans (k2.trans (k3.trans (k4.trans (k5.trans (k6.trans (k7.trans (k8.trans k9)))))))
    have kl := kk.len
    have nl : lo ≠ 0 := by omega
    have nd : de ≠ 0 := by omega
    have one : (1 : Int) ≠ 0 := by decide
    have nld : lo * de ≠ 0 := Int.mul_ne_zero nl nd
    have nll : lo * lo ≠ 0 := Int.mul_ne_zero nl nl
    have zl : Si 5 lo := by unfold Si; omega
    have zd : Si 5 de := by unfold Si; omega
    have zt : Si 5 t := by unfold Si; omega
    have o1 : Si 5 (1 : Int) := by unfold Si; decide
    have zx : x.Z 5 := hx.z (by decide)
    have zy : y.Z 5 := hy.z (by decide)
    have zw : w.Z 5 := hw.z (by decide)
    have zld : Si 10 (lo * de) := zl.mul zd
    have zll : Si 10 (lo * lo) := zl.mul zl
    have xz := e8_z (m := 1900) nl zx zl (by decide)
    have yz := e8_z (m := 1900) nd zy zd (by decide)
    have wz := e8_z (m := 1900) one zw o1 (by decide)
    have f1 := same8 nl zl zx (by decide)
    have f2 := kinds_told nl zl zx (by decide)
    have f3 := kinds_told nd zd zy (by decide)
    obtain ⟨x0, r0⟩ := repr_toldE (n := 1) (base := reprW isE8 (posK sReprE)) (l := [(e8 x lo).D, (e8 y de).D, (e8 w 1).D]) (fun d hd => by
      simp only [List.mem_cons, List.not_mem_nil, or_false] at hd
      rcases hd with rfl | rfl | rfl
      · exact ⟨_, rdT_e8 xz⟩
      · exact ⟨_, rdT_e8 yz⟩
      · exact ⟨_, rdT_e8 wz⟩) (by simp [szDs, szD])
    have r1 := repr8_told xz (base := reprW isE8 (posK sReprE)) rfl
    have r2 := shown8_told nl zl zx (by decide)
    have r3 : Told2 (eqE nc true (sEqE nc) (neDT oeN 1 (neNT nc))) (.t (.str (e8Text (e8 x lo)))) (.t (.str (e8Text (e8 x lo)))) (.bl false) := neE_str rfl
    walk_at "hw st"
    walk_at "hw no"
    · walk_at "hw steps"
      exact rfl
    have sl := zl.sm (by decide)
    have sd := zd.sm (by decide)
    have st := zt.sm (by decide)
    have xa := zx.f.a.sm (by decide)
    have xb := zx.f.b.sm (by decide)
    have xc := zx.f.c.sm (by decide)
    have xd := zx.f.d.sm (by decide)
    have xp := zx.g.a.sm (by decide)
    have xq := zx.g.b.sm (by decide)
    have xr := zx.g.c.sm (by decide)
    have xs := zx.g.d.sm (by decide)
    have ya := zy.f.a.sm (by decide)
    have yb := zy.f.b.sm (by decide)
    have yc := zy.f.c.sm (by decide)
    have yd := zy.f.d.sm (by decide)
    have yp := zy.g.a.sm (by decide)
    have yq := zy.g.b.sm (by decide)
    have yr := zy.g.c.sm (by decide)
    have ys := zy.g.d.sm (by decide)
    walk_at "hw st"
    have a1 := add8 nl nd zx zy zl zd (by decide)
    have a2 := sub8 nl nd zx zy zl zd (by decide)
    have a3 := neg8 nl zx zl (by decide)
    have a4 := same8 nld (zld.up (m := 11) (by decide)) (addI_z zx zy zl zd) (by decide)
    have a5 := same8 nld (zld.up (m := 11) (by decide)) (subI_z zx zy zl zd) (by decide)
    have a6 := same8 nl zl (negI_z zx) (by decide)
    walk_at "hw no"
    · walk_at "hw steps"
      exact rfl
    have b1 := eight_told zx zy (by decide)
    have zxy := mulI_z zx zy
    have zyw := mulI_z zy zw
    have zxw := mulI_z zx zw
    have b2 := mul8 nl nd zx zy zl zd (by decide)
    have b3 := same8 nld (zld.up (m := 14) (by decide)) zxy (by decide)
    have nd1 : de * 1 ≠ 0 := Int.mul_ne_zero nd one
    have nl1 : lo * 1 ≠ 0 := Int.mul_ne_zero nl one
    have b4 := mul8 nld one zxy (zw.up (by decide)) (zld.up (by decide)) (o1.up (by decide)) (by decide)
    have b5 := mul8 nd one zy zw zd o1 (by decide)
    have b6 := mul8 nl nd1 (zx.up (m := 14) (by decide)) zyw (zl.up (by decide)) ((zd.mul o1).up (by decide)) (by decide)
    have b7 : Told2 (eqE nc true (sEqE nc) (neDT oeN 1 (neNT nc))) (.t (e8 (mulI (mulI x y) w) (lo * de * 1)).D) (.t (e8 (mulI x (mulI y w)) (lo * (de * 1))).D) (.bl false) := ne8 (by rw [← mulR_mk, ← mulR_mk, ← mulR_mk, ← mulR_mk]; exact mulR_assoc _ _ _) h1
    have c1 := mul8 nld one (addI_z zx zy zl zd) (zw.up (by decide)) (zld.up (by decide)) (o1.up (by decide)) (by decide)
    have c2 := mul8 nl one zx zw zl o1 (by decide)
    have c3 := add8 nl1 nd1 zxw zyw ((zl.mul o1).up (m := 14) (by decide)) ((zd.mul o1).up (by decide)) (by decide)
    have c4 : Told2 (eqE nc true (sEqE nc) (neDT oeN 1 (neNT nc))) (.t (e8 (mulI (addI x lo y de) w) (lo * de * 1)).D) (.t (e8 (addI (mulI x w) (lo * 1) (mulI y w) (de * 1)) (lo * 1 * (de * 1))).D) (.bl false) := ne8 (by rw [← mulR_mk, ← addR_mk nl nd, ← addR_mk nl1 nd1, ← mulR_mk, ← mulR_mk]; exact mulR_add _ _ _) h1
    walk_at "hw st"
    walk_at "hw no"
    · walk_at "hw steps"
      exact rfl
    have n3 : (3 : Int) ≠ 0 := by decide
    have z3 : Si 5 (3 : Int) := by unfold Si; decide
    have z2 : Si 5 (2 : Int) := by unfold Si; decide
    have s3 := z3.sm (by decide)
    have s2 := z2.sm (by decide)
    have d1 : Told sTimesE [.t (e8 x lo).D, .t (.rat (mkR t 3))] (e8 (byI x t) (3 * lo)).D := by
      have z := by8 (d := .rat (mkR t 3)) ⟨rfl, fun i e => by cases e⟩ nl n3 zx zl zt z3 (by decide)
      rw [Int.mul_comm lo 3] at z
      exact z
    have d2 := same8 (Int.mul_ne_zero n3 nl) (z3.mul zl) (byI_z zx zt) (by decide)
    have d3 : Told sTimesE [.t (e8 x lo).D, .t (.int 2)] (e8 (addI x lo x lo) (lo * lo)).D := by
      have z := by8 (t := 2) (num_int z2 (by decide)) nl one zx zl z2 o1 (by decide)
      rw [twice_by nl] at z
      exact z
    have d4 := add8 nl nl zx zx zl zl (by decide)
    have d5 : Told2 (eqE nc true (sEqE nc) (neDT oeN 1 (neNT nc))) (.t (e8 (addI x lo x lo) (lo * lo)).D) (.t (e8 (addI x lo x lo) (lo * lo)).D) (.bl false) := ne8 rfl h1
    walk_at "hw no"
    · walk_at "hw steps"
      exact rfl
    have g1 := mir8 nl zx zl (by decide)
    have g2 := same8 nl zl (mirI_z zx) (by decide)
    have g3 := mirror8_told (x := x)
    have g4 := mir8 nld zxy (zld.up (m := 14) (by decide)) (by decide)
    have g5 := mir8 nd zy zd (by decide)
    have g6 := mul8 nd nl (mirI_z zy) (mirI_z zx) zd zl (by decide)
    have g7 : Told2 (eqE nc true (sEqE nc) (neDT oeN 1 (neNT nc))) (.t (e8 (mirI (mulI x y)) (lo * de)).D) (.t (e8 (mulI (mirI y) (mirI x)) (de * lo)).D) (.bl false) := ne8 (by rw [mir_mul, Int.mul_comm lo de]) h1
    walk_at "hw no"
    · walk_at "hw steps"
      exact rfl
    obtain ⟨dx, hdx⟩ : ∃ i, x.a * x.p + x.b * x.q + x.c * x.r + x.d * x.s = i := ⟨_, rfl⟩
    obtain ⟨dy, hdy⟩ : ∃ i, y.a * y.p + y.b * y.q + y.c * y.r + y.d * y.s = i := ⟨_, rfl⟩
    obtain ⟨nx, hnx⟩ : ∃ i, x.nI = i := ⟨_, rfl⟩
    obtain ⟨ny, hny⟩ : ∃ i, y.nI = i := ⟨_, rfl⟩
    have e1 : Told sLDotN [.t (l4 x.a x.b x.c x.d), .t (l4 x.a x.b x.c x.d)] (.int nx) := by rw [← hnx]; exact dotL4 (zx.f.sm8 zx.f (by decide) (by decide))
    have e2 : Told sLDotN [.t (l4 x.a x.b x.c x.d), .t (l4 x.p x.q x.r x.s)] (.int dx) := by rw [← hdx]; exact dotL4 (zx.f.sm8 zx.g (by decide) (by decide))
    have zdx : Si 13 dx := by rw [← hdx]; exact zx.f.dot zx.g
    have zdy : Si 13 dy := by rw [← hdy]; exact zy.f.dot zy.g
    have znx : Si 13 nx := by rw [← hnx]; exact nI_z zx
    have zny : Si 13 ny := by rw [← hny]; exact nI_z zy
    have z2dx : Si 18 (2 * dx) := z2.mul zdx
    have z2dy : Si 18 (2 * dy) := z2.mul zdy
    have sdx := zdx.sm (by decide)
    have snx := znx.sm (by decide)
    have s2dx := z2dx.sm (by decide)
    have sll := zll.sm (by decide)
    have ndd : de * de ≠ 0 := Int.mul_ne_zero nd nd
    have zdd : Si 10 (de * de) := zd.mul zd
    have e3 : Told sNormE [.t (e8 x lo).D] (.tup [.rat (mkR nx (lo * lo)), .rat (mkR (2 * dx) (lo * lo))]) := by rw [← hnx, ← hdx]; exact norm8 nl zx zl (by decide)
    have e4 : Told sNormE [.t (e8 y de).D] (.tup [.rat (mkR ny (de * de)), .rat (mkR (2 * dy) (de * de))]) := by rw [← hny, ← hdy]; exact norm8 nd zy zd (by decide)
    have e5 : Told2 (eqE nc true (sEqE nc) (neDT oeN 1 (neNT nc))) (.t (.tup [.rat (mkR nx (lo * lo)), .rat (mkR (2 * dx) (lo * lo))])) (.t (.tup [.rat (mkR nx (lo * lo)), .rat (mkR (2 * dx) (lo * lo))])) (.bl false) := neE_pair rfl rfl
    have e6 : Told sMulE [.t (e8 x lo).D, .t (e8 (mirI x) lo).D] (e8 ⟨nx, 0, 0, 0, 2 * dx, 0, 0, 0⟩ (lo * lo)).D := mul8_of nl nl zx (mirI_z zx) zl zl (by decide) (by rw [mulR_mk, mul_mir_r, hnx, hdx])
    have e7 : Told sMulE [.t (e8 (mirI x) lo).D, .t (e8 x lo).D] (e8 ⟨nx, 0, 0, 0, 2 * dx, 0, 0, 0⟩ (lo * lo)).D := mul8_of nl nl (mirI_z zx) zx zl zl (by decide) (by rw [mulR_mk, mul_mir_l, hnx, hdx])
    have e8' := four_head nx (lo * lo)
    have e9 := four_head (2 * dx) (lo * lo)
    have e10 : Told2 (eqE nc true (sEqE nc) (neDT oeN 1 (neNT nc))) (.t (e8 ⟨nx, 0, 0, 0, 2 * dx, 0, 0, 0⟩ (lo * lo)).D) (.t (e8 ⟨nx, 0, 0, 0, 2 * dx, 0, 0, 0⟩ (lo * lo)).D) (.bl false) := ne8 rfl h1
    walk_at "hw st"
    walk_at "hw no"
    · walk_at "hw steps"
      exact rfl
    have qx := mk_sz (n := 18) nll (znx.up (by decide)) (zll.up (by decide))
    have qy := mk_sz (n := 18) ndd (zny.up (by decide)) (zdd.up (by decide))
    have rx := mk_sz (n := 18) nll z2dx (zll.up (by decide))
    have ry := mk_sz (n := 18) ndd z2dy (zdd.up (by decide))
    have i1' : pSz (mkR nx (lo * lo)) (mkR ny (de * de)) := ⟨qx.up (by decide), qy.up (by decide)⟩
    have i2' : pSz (mkR nx (lo * lo)) (mkR (2 * dy) (de * de)) := ⟨qx.up (by decide), ry.up (by decide)⟩
    have i3' : pSz (mkR (2 * dx) (lo * lo)) (mkR ny (de * de)) := ⟨rx.up (by decide), qy.up (by decide)⟩
    have i4' : pSz (mkR nx (lo * lo) * mkR (2 * dy) (de * de)) (mkR (2 * dx) (lo * lo) * mkR ny (de * de)) := ⟨(qx.mul ry).up (by decide), (rx.mul qy).up (by decide)⟩
    have i5' := norm8 nld zxy (zld.up (m := 14) (by decide)) (by decide)
    have i6 : Told2 (eqE nc true (sEqE nc) (neDT oeN 1 (neNT nc))) (.t (.tup [.rat (mkR ((mulI x y).a * (mulI x y).a + (mulI x y).b * (mulI x y).b + (mulI x y).c * (mulI x y).c + (mulI x y).d * (mulI x y).d) (lo * de * (lo * de))), .rat (mkR (2 * ((mulI x y).a * (mulI x y).p + (mulI x y).b * (mulI x y).q + (mulI x y).c * (mulI x y).r + (mulI x y).d * (mulI x y).s)) (lo * de * (lo * de)))])) (.t (.tup [.rat (mkR nx (lo * lo) * mkR ny (de * de)), .rat (mkR nx (lo * lo) * mkR (2 * dy) (de * de) + mkR (2 * dx) (lo * lo) * mkR ny (de * de))])) (.bl false) := by
      have en := nI_mul (x := x) (y := y)
      have ed := dot_mul (x := x) (y := y)
      rw [hnx, hny] at en
      rw [hnx, hny, hdx, hdy] at ed
      refine neE_pair ?_ ?_
      · rw [mk_mul, show (mulI x y).a * (mulI x y).a + (mulI x y).b * (mulI x y).b + (mulI x y).c * (mulI x y).c + (mulI x y).d * (mulI x y).d = nx * ny from en]
        exact mk_same (Int.mul_ne_zero nld nld) (Int.mul_ne_zero nll ndd) (by grind)
      · rw [mk_mul, mk_mul, mk_add1, ed]
        exact mk_same (Int.mul_ne_zero nld nld) (Int.mul_ne_zero nll ndd) (by grind)
    walk_at "hw st"
    walk_at "hw no"
    · walk_at "hw steps"
      exact rfl
    have n2l : 2 * lo ≠ 0 := Int.mul_ne_zero (by decide) nl
    have s2l : Sm (2 * lo) := (z2.mul zl).sm (by decide)
    have s2p : Sm (2 * x.p) := (z2.mul zx.g.a).sm (by decide)
    have s2q : Sm (2 * x.q) := (z2.mul zx.g.b).sm (by decide)
    have s2r : Sm (2 * x.r) := (z2.mul zx.g.c).sm (by decide)
    have s2s : Sm (2 * x.s) := (z2.mul zx.g.d).sm (by decide)
    have j1 := four_rat (mkR x.a lo) (mkR x.b lo) (mkR x.c lo) (mkR x.d lo)
    have j2 := four_lst (mkR (2 * x.p) (2 * lo)) (mkR (2 * x.q) (2 * lo)) (mkR (2 * x.r) (2 * lo)) (mkR (2 * x.s) (2 * lo))
    have half : ∀ i : Int, mkR (2 * i) (2 * lo) = mkR i lo := fun i => by rw [Int.mul_comm 2 i, Int.mul_comm 2 lo, mk_cut (by decide)]
    have g8 : Told2 (eqE nc true (sEqE nc) (neDT oeN 1 (neNT nc))) (.t (R8.mk (mkR x.a lo) (mkR x.b lo) (mkR x.c lo) (mkR x.d lo) (mkR (2 * x.p) (2 * lo)) (mkR (2 * x.q) (2 * lo)) (mkR (2 * x.r) (2 * lo)) (mkR (2 * x.s) (2 * lo))).D) (.t (e8 x lo).D) (.bl false) := ne8 (by simp only [half]) h1
    have g9 : Told2 (eqE nc false (sEqE nc) (eqDT oeN 1 (eqNT nc))) (.t (e8 x lo).D) (.t (e8 y de).D) (.bl (decide (e8 x lo = e8 y de))) := eq8 rfl h1
    have g10 : Told2 (eqE nc false (sEqE nc) (eqDT oeN 1 (eqNT nc))) (.t (subI x lo y de).L) (.t zero8.L) (.bl (decide (subI x lo y de = zero8))) := eqE_L
    have g11 : Told2 (eqE nc true (sEqE nc) (neDT oeN 1 (neNT nc))) (.t (.bl (decide (e8 x lo = e8 y de)))) (.t (.bl (decide (subI x lo y de = zero8)))) (.bl false) := neE_bl (decide_eq_decide.mpr (addI_0 nl nd))
    have g12 := first8 (x := x) (A := lo)
    have g13 : Told2 (eqE nc false (sEqE nc) (eqDT oeN 1 (eqNT nc))) (.t (e8 x lo).D) (.t (r4 x.a x.b x.c x.d lo)) (.bl false) := eq8_no rfl rfl
    have g14 : Told2 (eqE nc false (sEqE nc) (eqDT oeN 1 (eqNT nc))) (.t (e8 x lo).D) (.t (e8 (addI x lo x lo) (lo * lo)).D) (.bl (decide (e8 x lo = e8 (addI x lo x lo) (lo * lo)))) := eq8 rfl h1
    have g15 : Told2 (eqE nc false (sEqE nc) (eqDT oeN 1 (eqNT nc))) (.t x.L) (.t zero8.L) (.bl (decide (x = zero8))) := eqE_L
    have g16 : Told2 (eqE nc true (sEqE nc) (neDT oeN 1 (neNT nc))) (.t (.bl (decide (e8 x lo = e8 (addI x lo x lo) (lo * lo))))) (.t (.bl (decide (x = zero8)))) (.bl false) := neE_bl (decide_eq_decide.mpr (twice_0 nl))
    walk_at "hw st"
    walk_at "hw no"
    · walk_at "hw steps"
      refine told2_eq g10 rfl rfl ?_
      walk_at "hw steps"
      refine told2_eq g15 rfl rfl ?_
      walk_at "hw steps"
      exact rfl
    have w1 : Four (.tup [.int 1, .int 2, .int 3, .int 4]) (mkR 1 1) (mkR 2 1) (mkR 3 1) (mkR 4 1) := f4_tup (n := 5) ⟨by unfold Si; decide, by unfold Si; decide, by unfold Si; decide, by unfold Si; decide⟩ (by decide)
    have w2 : Four (.lst [.int 1, .int 2, .int 3, .int 4]) (mkR 1 1) (mkR 2 1) (mkR 3 1) (mkR 4 1) := f4_lst (n := 5) ⟨by unfold Si; decide, by unfold Si; decide, by unfold Si; decide, by unfold Si; decide⟩ (by decide)
    have w3' : Four (.tup [.int 0, .int 0, .int 0, .int 0]) (mkR 0 1) (mkR 0 1) (mkR 0 1) (mkR 0 1) := f4_tup (n := 5) ⟨by unfold Si; decide, by unfold Si; decide, by unfold Si; decide, by unfold Si; decide⟩ (by decide)
    have w4 : Four (.lst [.int 0, .int 0, .int 0, .int 0]) (mkR 0 1) (mkR 0 1) (mkR 0 1) (mkR 0 1) := f4_lst (n := 5) ⟨by unfold Si; decide, by unfold Si; decide, by unfold Si; decide, by unfold Si; decide⟩ (by decide)
    have w5 : Told2 (eqE nc false (sEqE nc) (eqDT oeN 1 (eqNT nc))) (.t (R8.mk (mkR 1 1) (mkR 2 1) (mkR 3 1) (mkR 4 1) (mkR 0 1) (mkR 0 1) (mkR 0 1) (mkR 0 1)).D) (.t (R8.mk (mkR 1 1) (mkR 2 1) (mkR 3 1) (mkR 4 1) (mkR 0 1) (mkR 0 1) (mkR 0 1) (mkR 0 1)).D) (.bl true) := eq8 (decide_eq_true rfl) h1
    have w6 : Told2 (eqE nc false (sEqE nc) (eqDT oeN 1 (eqNT nc))) (.t (.str x0)) (.t (.str x0)) (.bl true) := eqE_str rfl
    walk_at "hw st"
    refine if_2 (fun hc => ?_) (fun hc => ?_)
    · have nz : x.nI ≠ 0 := sq_pos hc
      have w7 := undR_told nl zl zx nz
      walk_at "hw run"
      refine mkE_go w2 w4 ?_
      walk_at "hw run"
      exact hQ _ p9 kk
    · walk_at "hw run"
      refine mkE_go w2 w4 ?_
      walk_at "hw run"
      exact hQ _ p9 kk
  · exact h.elim
abbrev t_law : Stmt := top 53
theorem sc_law : FnScope ["_law_script", "_law_k"] ["_law_script"] (defScope t_law) := ⟨rfl, rfl, rfl, by decide +kernel, rfl, by decide +kernel, by decide +kernel⟩
theorem fn_law (F : FD G t_law "law" "law" f fd) (b_all : Bif G 0 "all" (allW fun bs => bs.all id)) (b_max : Bif G 0 "max" (i2W fun i j => if j > i then j else i)) (b_min : Bif G 0 "min" (i2W fun i j => if j < i then j else i)) (b_len : Bif G 0 "len" lenW) (z_range : G.mg "range" = none) (c_pot : Fnc G 1 "_law_pot" 2 [] (posK sPot)) (c_right : Fnc G 14 "_law_right" 1 [] (posK sYes)) : Fn G 15 f fd ["_law_script"] sLaw := by
  refine fn_bodyW F sc_law mon_pure ?_
  intro ws A Q hl h
  unfold sLaw pureS at h
  match ws with
  | [.t (.lst l)] =>
    obtain ⟨⟨ns, rfl, hn⟩, h2⟩ := h
    have hns : ∃ ns' : List Int, ns.map D.int = ns'.map D.int ∧ ns'.length ≤ 63 := ⟨ns, rfl, hn⟩
    walk_at "hw run"
    have hj : ((fun i j : Int => if j > i then j else i) 1 ((fun i j : Int => if j < i then j else i) 2 ((ns.map D.int).length : Int))).toNat ≤ 2 := by
      dsimp only
      split <;> split <;> omega
    refine LcG.mk ?_
    refine lc_yes (fun w => ∃ i : Int, w = .t (.int i) ∧ 0 ≤ i ∧ i < 100) ?_ _ _ [] ?_ get_app (by rw [ups_len, List.length_nil]; omega) ?_
    · rintro w B K ⟨i, rfl, i1, i2⟩ hB hK
      walk_at "hw run"
      intro A1 p1 l1 f1
      walk_at "hw run"
      intro A2 p2 k2
      have l2 := k2.len
      exact hK _ (by omega) fun j hj => (k2.at_ j (by omega)).trans (f1 j (by omega))
    · intro w hw
      obtain ⟨i, rfl, i1, i2⟩ := ups_is hw
      exact ⟨i, rfl, i1, by omega⟩
    · intro B' b1 b2
      have lB := (List.getElem?_eq_some_iff.mp b1).1
      refine end_lc b1 (take_eq (fun j hj => (b2 j hj).trans (List.getElem?_append_left hj)) (by omega)) ?_
      exact all_yes (rt_end rfl h2)

end Hw
namespace Hw
open PySem L2
theorem run13 {G : Gc} (hgd : G.gd = true) {f_isint : Addr} {d_isint : FuncData} (F_isint : FunD G.K "is_integer" "is_integer" (defArgs t_isint) (defBody t_isint) (defScope t_isint) [] [] f_isint d_isint) (m_isint : G.mg "is_integer" = some (.ref f_isint)) {f_init : Addr} {d_init : FuncData} (F_init : FunD G.K "__init__" "Ratio.__init__" (defArgs t_init) (defBody t_init) (defScope t_init) [.int 1] [] f_init d_init) {f_told : Addr} {d_told : FuncData} (F_told : FunD G.K "told_number" "told_number" (defArgs t_told) (defBody t_told) (defScope t_told) [] [] f_told d_told) (m_told : G.mg "told_number" = some (.ref f_told)) {f_isnum : Addr} {d_isnum : FuncData} (F_isnum : FunD G.K "is_number" "is_number" (defArgs t_isnum) (defBody t_isnum) (defScope t_isnum) [] [] f_isnum d_isnum) (m_isnum : G.mg "is_number" = some (.ref f_isnum)) {f_top : Addr} {d_top : FuncData} (F_top : FunD G.K "top" "Ratio.top" (defArgs t_top) (defBody t_top) (defScope t_top) [] [] f_top d_top) {p_top : Addr} (P_top : PropOf G.K (G.T.at_ 0) "top" p_top f_top) {f_bottom : Addr} {d_bottom : FuncData} (F_bottom : FunD G.K "bottom" "Ratio.bottom" (defArgs t_bottom) (defBody t_bottom) (defScope t_bottom) [] [] f_bottom d_bottom) {p_bottom : Addr} (P_bottom : PropOf G.K (G.T.at_ 0) "bottom" p_bottom f_bottom) {f_sign : Addr} {d_sign : FuncData} (F_sign : FunD G.K "sign" "Ratio.sign" (defArgs t_sign) (defBody t_sign) (defScope t_sign) [] [] f_sign d_sign) {p_sign : Addr} (P_sign : PropOf G.K (G.T.at_ 0) "sign" p_sign f_sign) {f_over : Addr} {d_over : FuncData} (F_over : FunD G.K "over" "Ratio.over" (defArgs t_over) (defBody t_over) (defScope t_over) [] [] f_over d_over) (M_over : Meth G.K (G.T.at_ 0) "over" f_over) {f_add : Addr} {d_add : FuncData} (F_add : FunD G.K "__add__" "Ratio.__add__" (defArgs t_add) (defBody t_add) (defScope t_add) [] [] f_add d_add) (M_add : Meth G.K (G.T.at_ 0) "__add__" f_add) {f_radd : Addr} {d_radd : FuncData} (F_radd : FunD G.K "__radd__" "Ratio.__radd__" (defArgs t_radd) (defBody t_radd) (defScope t_radd) [] [] f_radd d_radd) (M_radd : Meth G.K (G.T.at_ 0) "__radd__" f_radd) {f_sub : Addr} {d_sub : FuncData} (F_sub : FunD G.K "__sub__" "Ratio.__sub__" (defArgs t_sub) (defBody t_sub) (defScope t_sub) [] [] f_sub d_sub) (M_sub : Meth G.K (G.T.at_ 0) "__sub__" f_sub) {f_rsub : Addr} {d_rsub : FuncData} (F_rsub : FunD G.K "__rsub__" "Ratio.__rsub__" (defArgs t_rsub) (defBody t_rsub) (defScope t_rsub) [] [] f_rsub d_rsub) (M_rsub : Meth G.K (G.T.at_ 0) "__rsub__" f_rsub) {f_mul : Addr} {d_mul : FuncData} (F_mul : FunD G.K "__mul__" "Ratio.__mul__" (defArgs t_mul) (defBody t_mul) (defScope t_mul) [] [] f_mul d_mul) (M_mul : Meth G.K (G.T.at_ 0) "__mul__" f_mul) {f_rmul : Addr} {d_rmul : FuncData} (F_rmul : FunD G.K "__rmul__" "Ratio.__rmul__" (defArgs t_rmul) (defBody t_rmul) (defScope t_rmul) [] [] f_rmul d_rmul) (M_rmul : Meth G.K (G.T.at_ 0) "__rmul__" f_rmul) {f_neg : Addr} {d_neg : FuncData} (F_neg : FunD G.K "__neg__" "Ratio.__neg__" (defArgs t_neg) (defBody t_neg) (defScope t_neg) [] [] f_neg d_neg) (M_neg : Meth G.K (G.T.at_ 0) "__neg__" f_neg) {f_eq : Addr} {d_eq : FuncData} (F_eq : FunD G.K "__eq__" "Ratio.__eq__" (defArgs t_eq) (defBody t_eq) (defScope t_eq) [] [] f_eq d_eq) (M_eq : Meth G.K (G.T.at_ 0) "__eq__" f_eq) {f_total : Addr} {d_total : FuncData} (F_total : FunD G.K "total" "Ratio.total" (defArgs t_total) (defBody t_total) (defScope t_total) [] [] f_total d_total) {mc : Value} {p_total : Addr} (rd : ClX.CRead G.K (G.T.at_ 0) mc) (P_total : ClX.CMet G.K (G.T.at_ 0) mc "total" p_total f_total) {f_str : Addr} {d_str : FuncData} (F_str : FunD G.K "__str__" "Ratio.__str__" (defArgs t_str) (defBody t_str) (defScope t_str) [] [] f_str d_str) (M_str : Meth G.K (G.T.at_ 0) "__str__" f_str) {f_islist : Addr} {d_islist : FuncData} (F_islist : FunD G.K "is_list" "is_list" (defArgs t_islist) (defBody t_islist) (defScope t_islist) [] [] f_islist d_islist) (m_islist : G.mg "is_list" = some (.ref f_islist)) {f_mirror : Addr} {d_mirror : FuncData} (F_mirror : FunD G.K "four_mirror" "four_mirror" (defArgs t_mirror) (defBody t_mirror) (defScope t_mirror) [] [] f_mirror d_mirror) (m_mirror : G.mg "four_mirror" = some (.ref f_mirror)) {f_product : Addr} {d_product : FuncData} (F_product : FunD G.K "four_product" "four_product" (defArgs t_product) (defBody t_product) (defScope t_product) [] [] f_product d_product) (m_product : G.mg "four_product" = some (.ref f_product)) {f_are : Addr} {d_are : FuncData} (F_are : FunD G.K "are_numbers" "are_numbers" (defArgs t_are) (defBody t_are) (defScope t_are) [] [] f_are d_are) (m_are : G.mg "are_numbers" = some (.ref f_are)) {f_isfour : Addr} {d_isfour : FuncData} (F_isfour : FunD G.K "is_four" "is_four" (defArgs t_isfour) (defBody t_isfour) (defScope t_isfour) [] [] f_isfour d_isfour) (m_isfour : G.mg "is_four" = some (.ref f_isfour)) {f_told4 : Addr} {d_told4 : FuncData} (F_told4 : FunD G.K "told_four" "told_four" (defArgs t_told4) (defBody t_told4) (defScope t_told4) [] [] f_told4 d_told4) (m_told4 : G.mg "told_four" = some (.ref f_told4)) {f_scaled : Addr} {d_scaled : FuncData} (F_scaled : FunD G.K "scaled_numbers" "scaled_numbers" (defArgs t_scaled) (defBody t_scaled) (defScope t_scaled) [] [] f_scaled d_scaled) (m_scaled : G.mg "scaled_numbers" = some (.ref f_scaled)) {f_nought : Addr} {d_nought : FuncData} (F_nought : FunD G.K "is_nought" "is_nought" (defArgs t_nought) (defBody t_nought) (defScope t_nought) [] [] f_nought d_nought) (m_nought : G.mg "is_nought" = some (.ref f_nought)) {f_dot : Addr} {d_dot : FuncData} (F_dot : FunD G.K "sum_of_products" "sum_of_products" (defArgs t_dot) (defBody t_dot) (defScope t_dot) [] [] f_dot d_dot) (m_dot : G.mg "sum_of_products" = some (.ref f_dot)) {f_undone : Addr} {d_undone : FuncData} (F_undone : FunD G.K "undone_four" "undone_four" (defArgs t_undone) (defBody t_undone) (defScope t_undone) [] [] f_undone d_undone) (m_undone : G.mg "undone_four" = some (.ref f_undone)) {f_added : Addr} {d_added : FuncData} (F_added : FunD G.K "added" "added" (defArgs t_added) (defBody t_added) (defScope t_added) [] [] f_added d_added) (m_added : G.mg "added" = some (.ref f_added)) {f_shownf : Addr} {d_shownf : FuncData} (F_shownf : FunD G.K "shown_four" "shown_four" (defArgs t_shownf) (defBody t_shownf) (defScope t_shownf) [] [] f_shownf d_shownf) (m_shownf : G.mg "shown_four" = some (.ref f_shownf)) {f_check : Addr} {d_check : FuncData} (F_check : FunD G.K "check_eight" "check_eight" (defArgs t_check) (defBody t_check) (defScope t_check) [] [] f_check d_check) (m_check : G.mg "check_eight" = some (.ref f_check)) {t4 : Addr} {f_einit : Addr} {d_einit : FuncData} (F_einit : FunD G.K "__init__" "Eight.__init__" (defArgs t_einit) (defBody t_einit) (defScope t_einit) [.ref t4] [] f_einit d_einit) {f_efirst : Addr} {d_efirst : FuncData} (F_efirst : FunD G.K "first" "Eight.first" (defArgs t_efirst) (defBody t_efirst) (defScope t_efirst) [] [] f_efirst d_efirst) (M_efirst : Meth G.K (G.T.at_ 1) "first" f_efirst) {f_esecond : Addr} {d_esecond : FuncData} (F_esecond : FunD G.K "second" "Eight.second" (defArgs t_esecond) (defBody t_esecond) (defScope t_esecond) [] [] f_esecond d_esecond) (M_esecond : Meth G.K (G.T.at_ 1) "second" f_esecond) {f_emirror : Addr} {d_emirror : FuncData} (F_emirror : FunD G.K "mirror" "Eight.mirror" (defArgs t_emirror) (defBody t_emirror) (defScope t_emirror) [] [] f_emirror d_emirror) (M_emirror : Meth G.K (G.T.at_ 1) "mirror" f_emirror) {f_enorm : Addr} {d_enorm : FuncData} (F_enorm : FunD G.K "norm" "Eight.norm" (defArgs t_enorm) (defBody t_enorm) (defScope t_enorm) [] [] f_enorm d_enorm) (M_enorm : Meth G.K (G.T.at_ 1) "norm" f_enorm) {f_etimes : Addr} {d_etimes : FuncData} (F_etimes : FunD G.K "times" "Eight.times" (defArgs t_etimes) (defBody t_etimes) (defScope t_etimes) [] [] f_etimes d_etimes) (M_etimes : Meth G.K (G.T.at_ 1) "times" f_etimes) {f_eadd : Addr} {d_eadd : FuncData} (F_eadd : FunD G.K "__add__" "Eight.__add__" (defArgs t_eadd) (defBody t_eadd) (defScope t_eadd) [] [] f_eadd d_eadd) (M_eadd : Meth G.K (G.T.at_ 1) "__add__" f_eadd) {f_eneg : Addr} {d_eneg : FuncData} (F_eneg : FunD G.K "__neg__" "Eight.__neg__" (defArgs t_eneg) (defBody t_eneg) (defScope t_eneg) [] [] f_eneg d_eneg) (M_eneg : Meth G.K (G.T.at_ 1) "__neg__" f_eneg) {f_esub : Addr} {d_esub : FuncData} (F_esub : FunD G.K "__sub__" "Eight.__sub__" (defArgs t_esub) (defBody t_esub) (defScope t_esub) [] [] f_esub d_esub) (M_esub : Meth G.K (G.T.at_ 1) "__sub__" f_esub) {f_emul : Addr} {d_emul : FuncData} (F_emul : FunD G.K "__mul__" "Eight.__mul__" (defArgs t_emul) (defBody t_emul) (defScope t_emul) [] [] f_emul d_emul) (M_emul : Meth G.K (G.T.at_ 1) "__mul__" f_emul) {f_eundone : Addr} {d_eundone : FuncData} (F_eundone : FunD G.K "undone" "Eight.undone" (defArgs t_eundone) (defBody t_eundone) (defScope t_eundone) [] [] f_eundone d_eundone) (M_eundone : Meth G.K (G.T.at_ 1) "undone" f_eundone) {f_epose : Addr} {d_epose : FuncData} (F_epose : FunD G.K "is_pose" "Eight.is_pose" (defArgs t_epose) (defBody t_epose) (defScope t_epose) [] [] f_epose d_epose) {p_epose : Addr} (P_epose : PropOf G.K (G.T.at_ 1) "is_pose" p_epose f_epose) {f_ehinge : Addr} {d_ehinge : FuncData} (F_ehinge : FunD G.K "is_hinge" "Eight.is_hinge" (defArgs t_ehinge) (defBody t_ehinge) (defScope t_ehinge) [] [] f_ehinge d_ehinge) {p_ehinge : Addr} (P_ehinge : PropOf G.K (G.T.at_ 1) "is_hinge" p_ehinge f_ehinge) {f_eeq : Addr} {d_eeq : FuncData} (F_eeq : FunD G.K "__eq__" "Eight.__eq__" (defArgs t_eeq) (defBody t_eeq) (defScope t_eeq) [] [] f_eeq d_eeq) (M_eeq : Meth G.K (G.T.at_ 1) "__eq__" f_eeq) {f_erepr : Addr} {d_erepr : FuncData} (F_erepr : FunD G.K "__repr__" "Eight.__repr__" (defArgs t_erepr) (defBody t_erepr) (defScope t_erepr) [] [] f_erepr d_erepr) (M_erepr : Meth G.K (G.T.at_ 1) "__repr__" f_erepr) {f_draw : Addr} {d_draw : FuncData} (F_draw : FunD G.K "_law_draw" "_law_draw" (defArgs t_draw) (defBody t_draw) (defScope t_draw) [] [] f_draw d_draw) (m_draw : G.mg "_law_draw" = some (.ref f_draw)) {f_lpot : Addr} {d_lpot : FuncData} (F_lpot : FunD G.K "_law_pot" "_law_pot" (defArgs t_lpot) (defBody t_lpot) (defScope t_lpot) [] [] f_lpot d_lpot) (m_lpot : G.mg "_law_pot" = some (.ref f_lpot)) {f_lfour : Addr} {d_lfour : FuncData} (F_lfour : FunD G.K "_law_four" "_law_four" (defArgs t_lfour) (defBody t_lfour) (defScope t_lfour) [] [] f_lfour d_lfour) (m_lfour : G.mg "_law_four" = some (.ref f_lfour)) {f_lmirror : Addr} {d_lmirror : FuncData} (F_lmirror : FunD G.K "_law_mirror" "_law_mirror" (defArgs t_lmirror) (defBody t_lmirror) (defScope t_lmirror) [] [] f_lmirror d_lmirror) (m_lmirror : G.mg "_law_mirror" = some (.ref f_lmirror)) {f_leight : Addr} {d_leight : FuncData} (F_leight : FunD G.K "_law_eight" "_law_eight" (defArgs t_leight) (defBody t_leight) (defScope t_leight) [] [] f_leight d_leight) (m_leight : G.mg "_law_eight" = some (.ref f_leight)) {f_ldot : Addr} {d_ldot : FuncData} (F_ldot : FunD G.K "_law_dot" "_law_dot" (defArgs t_ldot) (defBody t_ldot) (defScope t_ldot) [] [] f_ldot d_ldot) (m_ldot : G.mg "_law_dot" = some (.ref f_ldot)) {f_lcross : Addr} {d_lcross : FuncData} (F_lcross : FunD G.K "_law_cross" "_law_cross" (defArgs t_lcross) (defBody t_lcross) (defScope t_lcross) [] [] f_lcross d_lcross) (m_lcross : G.mg "_law_cross" = some (.ref f_lcross)) {f_lis : Addr} {d_lis : FuncData} (F_lis : FunD G.K "_law_is" "_law_is" (defArgs t_lis) (defBody t_lis) (defScope t_lis) [] [] f_lis d_lis) (m_lis : G.mg "_law_is" = some (.ref f_lis)) {f_passed : Addr} {d_passed : FuncData} (F_passed : FunD G.K "_law_passed" "_law_passed" (defArgs t_passed) (defBody t_passed) (defScope t_passed) [.int 1] [] f_passed d_passed) (m_passed : G.mg "_law_passed" = some (.ref f_passed)) {f_lrow : Addr} {d_lrow : FuncData} (F_lrow : FunD G.K "_law_row" "_law_row" (defArgs t_lrow) (defBody t_lrow) (defScope t_lrow) [] [] f_lrow d_lrow) (m_lrow : G.mg "_law_row" = some (.ref f_lrow)) {f_lfilled : Addr} {d_lfilled : FuncData} (F_lfilled : FunD G.K "_law_filled" "_law_filled" (defArgs t_lfilled) (defBody t_lfilled) (defScope t_lfilled) [] [] f_lfilled d_lfilled) (m_lfilled : G.mg "_law_filled" = some (.ref f_lfilled)) {f_lpose : Addr} {d_lpose : FuncData} (F_lpose : FunD G.K "_law_pose" "_law_pose" (defArgs t_lpose) (defBody t_lpose) (defScope t_lpose) [] [] f_lpose d_lpose) (m_lpose : G.mg "_law_pose" = some (.ref f_lpose)) {f_lasE : Addr} {d_lasE : FuncData} (F_lasE : FunD G.K "_law_as_eight" "_law_as_eight" (defArgs t_lasE) (defBody t_lasE) (defScope t_lasE) [.int 1] [] f_lasE d_lasE) (m_lasE : G.mg "_law_as_eight" = some (.ref f_lasE)) {f_lline : Addr} {d_lline : FuncData} (F_lline : FunD G.K "_law_line" "_law_line" (defArgs t_lline) (defBody t_lline) (defScope t_lline) [] [] f_lline d_lline) (m_lline : G.mg "_law_line" = some (.ref f_lline)) {f_lsame : Addr} {d_lsame : FuncData} (F_lsame : FunD G.K "_law_same" "_law_same" (defArgs t_lsame) (defBody t_lsame) (defScope t_lsame) [] [] f_lsame d_lsame) (m_lsame : G.mg "_law_same" = some (.ref f_lsame)) {f_ldrawn : Addr} {d_ldrawn : FuncData} (F_ldrawn : FunD G.K "_law_drawn" "_law_drawn" (defArgs t_ldrawn) (defBody t_ldrawn) (defScope t_ldrawn) [] [] f_ldrawn d_ldrawn) (m_ldrawn : G.mg "_law_drawn" = some (.ref f_ldrawn)) {f_lshown : Addr} {d_lshown : FuncData} (F_lshown : FunD G.K "_law_shown" "_law_shown" (defArgs t_lshown) (defBody t_lshown) (defScope t_lshown) [] [] f_lshown d_lshown) (m_lshown : G.mg "_law_shown" = some (.ref f_lshown)) {f_lkinds : Addr} {d_lkinds : FuncData} (F_lkinds : FunD G.K "_law_kinds_right" "_law_kinds_right" (defArgs t_lkinds) (defBody t_lkinds) (defScope t_lkinds) [] [] f_lkinds d_lkinds) (m_lkinds : G.mg "_law_kinds_right" = some (.ref f_lkinds)) {f_lundone : Addr} {d_lundone : FuncData} (F_lundone : FunD G.K "_law_undone_right" "_law_undone_right" (defArgs t_lundone) (defBody t_lundone) (defScope t_lundone) [] [] f_lundone d_lundone) (m_lundone : G.mg "_law_undone_right" = some (.ref f_lundone)) {f_lright : Addr} {d_lright : FuncData} (F_lright : FunD G.K "_law_right" "_law_right" (defArgs t_lright) (defBody t_lright) (defScope t_lright) [] [] f_lright d_lright) (m_lright : G.mg "_law_right" = some (.ref f_lright)) {f_law : Addr} {d_law : FuncData} (F_law : FunD G.K "law" "law" (defArgs t_law) (defBody t_law) (defScope t_law) [] [] f_law d_law) (m_law : G.mg "law" = some (.ref f_law)) (hT4 : ∀ H1 : Hp, SqT G.K H1 t4 [.int 0, .int 0, .int 0, .int 0]) (mC : G.mg "Ratio" = some (.ref (G.T.at_ 0))) (mE : G.mg "Eight" = some (.ref (G.T.at_ 1))) (Mk0 : Mk G.K (G.T.at_ 0) f_init) (Mk1 : Mk G.K (G.T.at_ 1) f_einit) (cl : Cls G.K (G.T.at_ 0)) (cl1 : Cls G.K (G.T.at_ 1)) (na1 : NoAttr G.K (G.T.at_ 0) "_top") (na2 : NoAttr G.K (G.T.at_ 0) "_bottom") (en1 : NoAttr G.K (G.T.at_ 1) "_first") (en2 : NoAttr G.K (G.T.at_ 1) "_second") (hfl : G.T.flds = fldE) (io : IsOk G 2) (oo_add : OwnOp G 0 .Add f_add) {id_add : String} {B_add : Builtin} (or_add : OwnR G 0 .Add f_add f_radd id_add B_add) (oo_sub : OwnOp G 0 .Sub f_sub) {id_sub : String} {B_sub : Builtin} (or_sub : OwnR G 0 .Sub f_sub f_rsub id_sub B_sub) (oo_mul : OwnOp G 0 .Mult f_mul) {id_mul : String} {B_mul : Builtin} (or_mul : OwnR G 0 .Mult f_mul f_rmul id_mul B_mul) (oo_eadd : OwnOp G 1 .Add f_eadd) (oo_esub : OwnOp G 1 .Sub f_esub) (oo_emul : OwnOp G 1 .Mult f_emul) (on : OwnNeg G 0 f_neg) (on1 : OwnNeg G 1 f_eneg) (oe : OwnEq G 0 2 f_eq) (oe1 : OwnEq G 1 2 f_eeq) (os : OwnStr G isRat "__str__" f_str (G.T.at_ 0)) (ore : OwnStr G isE8 "__repr__" f_erepr (G.T.at_ 1)) (z_isinstance : G.mg "isinstance" = none) (z_int : G.mg "int" = none) (z_bool : G.mg "bool" = none) (z_list : G.mg "list" = none) (z_tuple : G.mg "tuple" = none) (z_abs : G.mg "abs" = none) (z_str : G.mg "str" = none) (z_repr : G.mg "repr" = none) (z_all : G.mg "all" = none) (z_any : G.mg "any" = none) (z_zip : G.mg "zip" = none) (z_divmod : G.mg "divmod" = none) (z_len : G.mg "len" = none) (z_max : G.mg "max" = none) (z_min : G.mg "min" = none) (z_range : G.mg "range" = none) (z_sum : G.mg "sum" = none) (z_enumerate : G.mg "enumerate" = none) (z_gcd : G.mg "gcd" = some (.builtin "math.gcd")) : Run G 15 f_law d_law ["_law_script"] sLaw := by
  have h0 : 0 < 2 := by decide
  have h1 : 1 < 2 := by decide
  have hE := e8t_of hfl
  have b_isi := bif_b (k := 0) z_isinstance rfl (sl_isi io)
  have n_int := nam_t (x := "int") (Ty := "int") z_int rfl
  have n_bool := nam_t (x := "bool") (Ty := "bool") z_bool rfl
  have n_list := nam_t (x := "list") (Ty := "list") z_list rfl
  have n_tuple := nam_t (x := "tuple") (Ty := "tuple") z_tuple rfl
  have n_Ratio := nam_c (x := "Ratio") (c := 0) mC
  have n_Eight := nam_c (x := "Eight") (c := 1) mE
  have b_gcd := bif_m (k := 0) z_gcd sl_gcd
  have b_abs := bif_b (k := 0) (x := "abs") z_abs rfl sl_abs
  have b_all := bif_b (k := 0) (x := "all") z_all rfl sl_all
  have b_divmod := bif_b (k := 0) (x := "divmod") z_divmod rfl sl_divmod
  have b_len := bif_b (k := 0) (x := "len") z_len rfl sl_len
  have b_max := bif_b (k := 0) (x := "max") z_max rfl sl_max
  have b_min := bif_b (k := 0) (x := "min") z_min rfl sl_min
  have b_sum := bif_b (k := 0) (x := "sum") z_sum rfl sl_sum
  have b_any := bif_b (k := 0) (x := "any") z_any rfl sl_anyD
  have b_int := bif_t (k := 0) (x := "int") z_int rfl sl_int
  have b_tup := bif_t (k := 0) (x := "tuple") z_tuple rfl sl_tuple
  have b_strI := bif_t (k := 0) (x := "str") z_str rfl sl_strI
  have f1 := fld_rat (x := "_top") hfl rfl rfl cl na1
  have f2 := fld_rat (x := "_bottom") hfl rfl rfl cl na2
  have fe1 := fld_e8 (x := "_first") hfl rfl rfl cl1 en1
  have fe2 := fld_e8 (x := "_second") hfl rfl rfl cl1 en2
  have R_isint := fn_isint (G := G) (nc := 2) F_isint h0 b_isi n_int n_bool
  have C_isint := cal_p R_isint (bd0 F_isint (ps := ["value"]) (ks := []) (n := 1) (l := [.p 0]) fun _ _ _ _ _ _ us ws h1 h2 => match us, h1, ws, h2 with | [_], _, [], _ => rfl) rfl ar1
  have c_isint : Fnc G 1 "is_integer" 1 [] (posK (sIsInt 2)) := ⟨_, m_isint, C_isint⟩
  have R_islist := fn_islist (G := G) (nc := 2) F_islist h0 b_isi n_list n_tuple
  have C_islist := cal_p R_islist (bd0 F_islist (ps := ["value"]) (ks := []) (n := 1) (l := [.p 0]) fun _ _ _ _ _ _ us ws h1 h2 => match us, h1, ws, h2 with | [_], _, [], _ => rfl) rfl ar1
  have c_islist : Fnc G 1 "is_list" 1 [] (posK (sIsList 2)) := ⟨_, m_islist, C_islist⟩
  have R_init := fn_init (G := G) (nc := 2) F_init h0 c_isint b_gcd cl na1 na2
  have k_mk2 := cal_mk2 Mk0 R_init (bdD F_init (ps := ["self", "top", "bottom"]) (ks := []) (n := 3) (l := [.p 0, .p 1, .p 2]) (dws := [.t (.int 1)]) (by simp) (fun _ _ _ => ⟨_, _, rfl, by simp only [RepW, Rep], rfl⟩) fun _ _ _ _ _ _ _ us ws its h1 h2 h3 => match us, h1, ws, h2, its, h3 with | [_, _, _], _, [], _, [_], _ => ⟨_, rfl, rfl⟩)
  have k_mk1 := cal_mk1 Mk0 R_init (bdD F_init (ps := ["self", "top", "bottom"]) (ks := []) (n := 2) (l := [.p 0, .p 1, .d 0]) (dws := [.t (.int 1)]) (by simp) (fun _ _ _ => ⟨_, _, rfl, by simp only [RepW, Rep], rfl⟩) fun _ _ _ _ _ _ _ us ws its h1 h2 h3 => match us, h1, ws, h2, its, h3 with | [_, _], _, [], _, [_], _ => ⟨_, rfl, rfl⟩)
  have c_mk1 : Fnc G 3 "Ratio" 1 [] sMk1 := ⟨_, mC, k_mk1⟩
  have c_mk2 : Fnc G 3 "Ratio" 2 [] sMk2 := ⟨_, mC, k_mk2⟩
  have R_told := fn_told (G := G) (nc := 2) F_told h0 b_isi n_Ratio c_isint c_mk1
  have C_told := cal_p R_told (bd0 F_told (ps := ["number"]) (ks := []) (n := 1) (l := [.p 0]) fun _ _ _ _ _ _ us ws h1 h2 => match us, h1, ws, h2 with | [_], _, [], _ => rfl) rfl ar1
  have c_told : Fnc G 4 "told_number" 1 [] (posK sTold) := ⟨_, m_told, C_told⟩
  have c_toldN : Fnc G 4 "told_number" 1 [] (posK sToldN) := ⟨_, m_told, cal_weakP C_told mon_toldN fun _ _ _ h => toldN_of h⟩
  have R_isnum := fn_isnum (G := G) (nc := 2) F_isnum h0 b_isi n_Ratio c_isint
  have C_isnum := cal_p R_isnum (bd0 F_isnum (ps := ["value"]) (ks := []) (n := 1) (l := [.p 0]) fun _ _ _ _ _ _ us ws h1 h2 => match us, h1, ws, h2 with | [_], _, [], _ => rfl) rfl ar1
  have c_isnum : Fnc G 2 "is_number" 1 [] (posK (sIsNum 2)) := ⟨_, m_isnum, C_isnum⟩
  have R_top := fn_top (G := G) F_top f1
  have p_top : Prp G 1 "top" isRat sTop := ⟨_, _, _, _, _, (ins_rat cl rfl rfl), P_top, R_top, (bd0 F_top (ps := ["self"]) (ks := []) (n := 1) (l := [.p 0]) fun _ _ _ _ _ _ us ws h1 h2 => match us, h1, ws, h2 with | [_], _, [], _ => rfl)⟩
  have R_bottom := fn_bottom (G := G) F_bottom f2
  have p_bottom : Prp G 1 "bottom" isRat sBottom := ⟨_, _, _, _, _, (ins_rat cl rfl rfl), P_bottom, R_bottom, (bd0 F_bottom (ps := ["self"]) (ks := []) (n := 1) (l := [.p 0]) fun _ _ _ _ _ _ us ws h1 h2 => match us, h1, ws, h2 with | [_], _, [], _ => rfl)⟩
  have R_sign := fn_sign (G := G) F_sign f1
  have p_sign : Prp G 1 "sign" isRat sSign := ⟨_, _, _, _, _, (ins_rat cl rfl rfl), P_sign, R_sign, (bd0 F_sign (ps := ["self"]) (ks := []) (n := 1) (l := [.p 0]) fun _ _ _ _ _ _ us ws h1 h2 => match us, h1, ws, h2 with | [_], _, [], _ => rfl)⟩
  have R_neg := fn_neg (G := G) F_neg c_mk2 f1 f2
  have C_neg := cal_p R_neg (bd0 F_neg (ps := ["self"]) (ks := []) (n := 1) (l := [.p 0]) fun _ _ _ _ _ _ us ws h1 h2 => match us, h1, ws, h2 with | [_], _, [], _ => rfl) rfl ar1
  have o_neg := so_negN on C_neg
  have R_add := fn_add (G := G) (nc := 2) F_add h0 c_told c_mk2 f1 f2
  have C_add := cal_p R_add (bd0 F_add (ps := ["self", "other"]) (ks := []) (n := 2) (l := [.p 0, .p 1]) fun _ _ _ _ _ _ us ws h1 h2 => match us, h1, ws, h2 with | [_, _], _, [], _ => rfl) rfl ar2
  have o_addL := opL_run so_addL oo_add C_add
  have R_radd := fn_radd (G := G) F_radd o_addL
  have C_radd := cal_p R_radd (bd0 F_radd (ps := ["self", "other"]) (ks := []) (n := 2) (l := [.p 0, .p 1]) fun _ _ _ _ _ _ us ws h1 h2 => match us, h1, ws, h2 with | [_, _], _, [], _ => rfl) rfl ar2
  have o_add := opN_run (f' := f_add) o_addL (by decide : 5 ≤ 6) or_add C_radd
  have R_sub := fn_sub (G := G) (nc := 2) F_sub h0 c_told o_addL o_neg
  have C_sub := cal_p R_sub (bd0 F_sub (ps := ["self", "other"]) (ks := []) (n := 2) (l := [.p 0, .p 1]) fun _ _ _ _ _ _ us ws h1 h2 => match us, h1, ws, h2 with | [_, _], _, [], _ => rfl) rfl ar2
  have o_subL := opL_run so_sub oo_sub C_sub
  have R_rsub := fn_rsub (G := G) (nc := 2) F_rsub h0 c_told o_subL
  have C_rsub := cal_p R_rsub (bd0 F_rsub (ps := ["self", "other"]) (ks := []) (n := 2) (l := [.p 0, .p 1]) fun _ _ _ _ _ _ us ws h1 h2 => match us, h1, ws, h2 with | [_, _], _, [], _ => rfl) rfl ar2
  have o_sub := opN_run (f' := f_sub) o_subL (by decide : 6 ≤ 7) or_sub C_rsub
  have R_mul := fn_mul (G := G) (nc := 2) F_mul h0 c_told c_mk2 f1 f2
  have C_mul := cal_p R_mul (bd0 F_mul (ps := ["self", "other"]) (ks := []) (n := 2) (l := [.p 0, .p 1]) fun _ _ _ _ _ _ us ws h1 h2 => match us, h1, ws, h2 with | [_, _], _, [], _ => rfl) rfl ar2
  have o_mulL := opL_run so_mul oo_mul C_mul
  have R_rmul := fn_rmul (G := G) F_rmul o_mulL
  have C_rmul := cal_p R_rmul (bd0 F_rmul (ps := ["self", "other"]) (ks := []) (n := 2) (l := [.p 0, .p 1]) fun _ _ _ _ _ _ us ws h1 h2 => match us, h1, ws, h2 with | [_, _], _, [], _ => rfl) rfl ar2
  have o_mul := opN_run (f' := f_mul) o_mulL (by decide : 5 ≤ 6) or_mul C_rmul
  have R_eq := fn_eq (G := G) (nc := 2) F_eq h0 b_isi n_Ratio f1 f2
  have C_eq := cal_p R_eq (bd0 F_eq (ps := ["self", "other"]) (ks := []) (n := 2) (l := [.p 0, .p 1]) fun _ _ _ _ _ _ us ws h1 h2 => match us, h1, ws, h2 with | [_, _], _, [], _ => rfl) rfl ar2
  have o_eq := so_eqNT h0 oe C_eq
  have o_ne := so_neNT h0 oe C_eq
  have l_eq := so_eqDT (n := 1) (leaf_num o_eq) (by decide : 1 ≤ 1 + 1 + 1) o_eq
  have l_ne := so_neDT (n := 1) (leaf_num o_eq) (by decide : 3 ≤ 1 + 1 + 1) o_ne
  have x_eq := so2_irr l_eq
  have R_over := fn_over (G := G) (nc := 2) F_over h0 c_told c_mk2 f1 f2
  have C_over := cal_p R_over (bd0 F_over (ps := ["self", "other"]) (ks := []) (n := 2) (l := [.p 0, .p 1]) fun _ _ _ _ _ _ us ws h1 h2 => match us, h1, ws, h2 with | [_, _], _, [], _ => rfl) rfl ar2
  have m_over : Mth G 5 "over" isRat 2 [] (posK (bR pDiv fun q r => .rat (q / r))) := ⟨_, _, (ins_rat cl rfl rfl), M_over, C_over⟩
  have R_total := fn_total (G := G) (nc := 2) F_total h0 c_islist k_mk1 o_add n_Ratio
  have C_total := cal_p R_total (bd0 F_total (ps := ["cls", "numbers"]) (ks := []) (n := 2) (l := [.p 0, .p 1]) fun _ _ _ _ _ _ us ws h1 h2 => match us, h1, ws, h2 with | [_, _], _, [], _ => rfl) rfl ar2
  have m_total : Cmt G 7 0 "total" 2 [] (posK sTotal) := ⟨_, _, _, rd, P_total, C_total⟩
  have R_str := fn_str (G := G) F_str b_strI f1 f2
  have C_str := cal_p R_str (bd0 F_str (ps := ["self"]) (ks := []) (n := 1) (l := [.p 0]) fun _ _ _ _ _ _ us ws h1 h2 => match us, h1, ws, h2 with | [_], _, [], _ => rfl) rfl ar1
  have b_str := bif_t (k := 4) (x := "str") z_str rfl (sl_str os C_str)
  have R_are := fn_are (G := G) (nc := 2) F_are h0 c_islist c_isnum b_len b_all
  have C_are := cal_p R_are (bd0 F_are (ps := ["value", "many"]) (ks := []) (n := 2) (l := [.p 0, .p 1]) fun _ _ _ _ _ _ us ws h1 h2 => match us, h1, ws, h2 with | [_, _], _, [], _ => rfl) rfl ar2
  have c_are : Fnc G 3 "are_numbers" 2 [] (posK sAre4) := ⟨_, m_are, C_are⟩
  have R_isfour := fn_isfour (G := G) (nc := 2) F_isfour h0 c_are
  have C_isfour := cal_p R_isfour (bd0 F_isfour (ps := ["value"]) (ks := []) (n := 1) (l := [.p 0]) fun _ _ _ _ _ _ us ws h1 h2 => match us, h1, ws, h2 with | [_], _, [], _ => rfl) rfl ar1
  have c_isfour : Fnc G 4 "is_four" 1 [] (posK sIs4) := ⟨_, m_isfour, C_isfour⟩
  have R_told4 := fn_told4 (G := G) (nc := 2) F_told4 h0 c_isfour c_toldN b_tup
  have C_told4 := cal_p R_told4 (bd0 F_told4 (ps := ["four"]) (ks := []) (n := 1) (l := [.p 0]) fun _ _ _ _ _ _ us ws h1 h2 => match us, h1, ws, h2 with | [_], _, [], _ => rfl) rfl ar1
  have c_told4 : Fnc G 5 "told_four" 1 [] (posK sTold4) := ⟨_, m_told4, C_told4⟩
  have R_product := fn_product (G := G) F_product o_add o_subL o_mulL
  have C_product := cal_p R_product (bd0 F_product (ps := ["one", "other"]) (ks := []) (n := 2) (l := [.p 0, .p 1]) fun _ _ _ _ _ _ us ws h1 h2 => match us, h1, ws, h2 with | [_, _], _, [], _ => rfl) rfl ar2
  have c_prod : Fnc G 7 "four_product" 2 [] (posK sProd4) := ⟨_, m_product, C_product⟩
  have R_mirror := fn_mirror (G := G) F_mirror o_neg
  have C_mirror := cal_p R_mirror (bd0 F_mirror (ps := ["four"]) (ks := []) (n := 1) (l := [.p 0]) fun _ _ _ _ _ _ us ws h1 h2 => match us, h1, ws, h2 with | [_], _, [], _ => rfl) rfl ar1
  have c_mirror : Fnc G 5 "four_mirror" 1 [] (posK sMirror4) := ⟨_, m_mirror, C_mirror⟩
  have R_scaled := fn_scaled (G := G) F_scaled o_mulL b_tup
  have C_scaled := cal_p R_scaled (bd0 F_scaled (ps := ["numbers", "scale"]) (ks := []) (n := 2) (l := [.p 0, .p 1]) fun _ _ _ _ _ _ us ws h1 h2 => match us, h1, ws, h2 with | [_, _], _, [], _ => rfl) rfl ar2
  have c_scaled : Fnc G 6 "scaled_numbers" 2 [] (posK sScaled4) := ⟨_, m_scaled, C_scaled⟩
  have R_nought := fn_nought (G := G) F_nought p_sign b_all
  have C_nought := cal_p R_nought (bd0 F_nought (ps := ["numbers"]) (ks := []) (n := 1) (l := [.p 0]) fun _ _ _ _ _ _ us ws h1 h2 => match us, h1, ws, h2 with | [_], _, [], _ => rfl) rfl ar1
  have c_noughtN : Fnc G 3 "is_nought" 1 [] (posK sNoughtN) := ⟨_, m_nought, C_nought⟩
  have R_dot := fn_dot (G := G) F_dot o_mulL z_zip m_total n_Ratio
  have C_dot := cal_p R_dot (bd0 F_dot (ps := ["numbers", "others"]) (ks := []) (n := 2) (l := [.p 0, .p 1]) fun _ _ _ _ _ _ us ws h1 h2 => match us, h1, ws, h2 with | [_, _], _, [], _ => rfl) rfl ar2
  have c_dotN : Fnc G 8 "sum_of_products" 2 [] (posK sDotN) := ⟨_, m_dot, C_dot⟩
  have c_nought : Fnc G 3 "is_nought" 1 [] (posK sNought4) := ⟨_, m_nought, cal_weakP C_nought mon_pure fun _ _ _ h => noughtN_of h⟩
  have c_dot : Fnc G 8 "sum_of_products" 2 [] (posK sDot4) := ⟨_, m_dot, cal_weakP C_dot mon_pure fun _ _ _ h => dotN_of h⟩
  have R_undone := fn_undone (G := G) F_undone c_told4 c_nought c_dot c_scaled c_mirror c_mk1 m_over n_Ratio
  have C_undone := cal_p R_undone (bd0 F_undone (ps := ["four"]) (ks := []) (n := 1) (l := [.p 0]) fun _ _ _ _ _ _ us ws h1 h2 => match us, h1, ws, h2 with | [_], _, [], _ => rfl) rfl ar1
  have c_und4 : Fnc G 10 "undone_four" 1 [] (posK sUndone4) := ⟨_, m_undone, C_undone⟩
  have R_added := fn_added (G := G) F_added o_add z_zip b_tup
  have C_added := cal_p R_added (bd0 F_added (ps := ["numbers", "others"]) (ks := []) (n := 2) (l := [.p 0, .p 1]) fun _ _ _ _ _ _ us ws h1 h2 => match us, h1, ws, h2 with | [_, _], _, [], _ => rfl) rfl ar2
  have c_added : Fnc G 7 "added" 2 [] (posK sAdded) := ⟨_, m_added, C_added⟩
  have R_shownf := fn_shownf (G := G) F_shownf b_str
  have C_shownf := cal_p R_shownf (bd0 F_shownf (ps := ["four"]) (ks := []) (n := 1) (l := [.p 0]) fun _ _ _ _ _ _ us ws h1 h2 => match us, h1, ws, h2 with | [_], _, [], _ => rfl) rfl ar1
  have c_shownF : Fnc G 5 "shown_four" 1 [] (posK sShownF) := ⟨_, m_shownf, C_shownf⟩
  have R_check := fn_check (G := G) (nc := 2) F_check h0 h1 b_isi n_Eight
  have C_check := cal_p R_check (bd0 F_check (ps := ["eight"]) (ks := []) (n := 1) (l := [.p 0]) fun _ _ _ _ _ _ us ws h1 h2 => match us, h1, ws, h2 with | [_], _, [], _ => rfl) rfl ar1
  have c_check : Fnc G 2 "check_eight" 1 [] (posK sCheckE) := ⟨_, m_check, C_check⟩
  have dr : ∀ (m : List Addr) (A : AH) (H : Hp), RepW G.K G.T m A H (.t (.tup [.int 0, .int 0, .int 0, .int 0])) (.ref t4) := fun m A H => by
    simp only [RepW, Rep]
    exact ⟨t4, [.int 0, .int 0, .int 0, .int 0], rfl, .inr hT4, ints_reps [0, 0, 0, 0]⟩
  have R_einit := fn_einit (G := G) F_einit cl1 en1 en2 c_told4
  have k_mkE := cal_mkE (n := 2) (ks := []) (fun xs _ => xs) hE Mk1 R_einit (bdD F_einit (ps := ["self", "first", "second"]) (ks := []) (n := 3) (l := [.p 0, .p 1, .p 2]) (dws := [.t (.tup [.int 0, .int 0, .int 0, .int 0])]) (by simp) (fun _ _ _ => ⟨_, _, rfl, dr _ _ _, rfl⟩) fun _ _ _ _ _ _ _ us ws its h1 h2 h3 => match us, h1, ws, h2, its, h3 with | [_, _, _], _, [], _, [_], _ => ⟨_, rfl, rfl⟩) (fun w xs ys h _ => by obtain ⟨a, b, rfl⟩ := len2 h; rfl) (fun xs ys h _ => h)
  have k_mkE1 := cal_mkE (n := 1) (ks := []) (fun xs _ => xs ++ [.t (.tup [.int 0, .int 0, .int 0, .int 0])]) hE Mk1 R_einit (bdD F_einit (ps := ["self", "first", "second"]) (ks := []) (n := 2) (l := [.p 0, .p 1, .d 0]) (dws := [.t (.tup [.int 0, .int 0, .int 0, .int 0])]) (by simp) (fun _ _ _ => ⟨_, _, rfl, dr _ _ _, rfl⟩) fun _ _ _ _ _ _ _ us ws its h1 h2 h3 => match us, h1, ws, h2, its, h3 with | [_, _], _, [], _, [_], _ => ⟨_, rfl, rfl⟩) (fun w xs ys h _ => by obtain ⟨a, rfl⟩ := len1 h; rfl) (fun xs ys h _ => by rw [List.length_append, h]; rfl)
  have k_mkEK := cal_mkE (n := 0) (ks := ["second", "first"]) (fun _ ys => ys.reverse) hE Mk1 R_einit (bdD F_einit (ps := ["self", "first", "second"]) (ks := ["second", "first"]) (n := 1) (l := [.p 0, .k 1, .k 0]) (dws := [.t (.tup [.int 0, .int 0, .int 0, .int 0])]) (by simp) (fun _ _ _ => ⟨_, _, rfl, dr _ _ _, rfl⟩) fun _ _ _ _ _ _ _ us ws its h1 h2 h3 => match us, h1, ws, h2, its, h3 with | [_], _, [_, _], _, [_], _ => ⟨_, rfl, rfl⟩) (fun w xs ys h h2 => by obtain rfl := len0 h; obtain ⟨a, b, rfl⟩ := len2 h2; rfl) (fun xs ys _ h => by rw [List.length_reverse]; exact h)
  have c_mkE : Fnc G 7 "Eight" 2 [] (posK sMkE) := ⟨_, mE, k_mkE⟩
  have c_mkE1 : Fnc G 7 "Eight" 1 [] sMkE1 := ⟨_, mE, cal_mkE1 k_mkE1⟩
  have c_mkEK : Fnc G 7 "Eight" 0 ["second", "first"] (swp sMkE) := ⟨_, mE, cal_mkEK rfl k_mkEK⟩
  have R_efirst := fn_efirst (G := G) F_efirst hE fe1
  have C_efirst := cal_p R_efirst (bd0 F_efirst (ps := ["self"]) (ks := []) (n := 1) (l := [.p 0]) fun _ _ _ _ _ _ us ws h1 h2 => match us, h1, ws, h2 with | [_], _, [], _ => rfl) rfl ar1
  have m_first0 : Mth G 1 "first" isE8 1 [] (posK sFirst) := ⟨_, _, (ins_e8 hE cl1 rfl rfl), M_efirst, C_efirst⟩
  have R_esecond := fn_esecond (G := G) F_esecond hE fe2
  have C_esecond := cal_p R_esecond (bd0 F_esecond (ps := ["self"]) (ks := []) (n := 1) (l := [.p 0]) fun _ _ _ _ _ _ us ws h1 h2 => match us, h1, ws, h2 with | [_], _, [], _ => rfl) rfl ar1
  have m_second0 : Mth G 1 "second" isE8 1 [] (posK sSecond) := ⟨_, _, (ins_e8 hE cl1 rfl rfl), M_esecond, C_esecond⟩
  have m_first := mth_irr m_first0
  have m_second := mth_irr m_second0
  have R_emirror := fn_emirror (G := G) F_emirror hE fe1 fe2 c_mirror c_mkE
  have C_emirror := cal_p R_emirror (bd0 F_emirror (ps := ["self"]) (ks := []) (n := 1) (l := [.p 0]) fun _ _ _ _ _ _ us ws h1 h2 => match us, h1, ws, h2 with | [_], _, [], _ => rfl) rfl ar1
  have m_mirror0 : Mth G 8 "mirror" isE8 1 [] (posK sMirrorE) := ⟨_, _, (ins_e8 hE cl1 rfl rfl), M_emirror, C_emirror⟩
  have m_mirror := mth_irr m_mirror0
  have R_enorm := fn_enorm (G := G) F_enorm hE fe1 fe2 c_dotN o_mulL
  have C_enorm := cal_p R_enorm (bd0 F_enorm (ps := ["self"]) (ks := []) (n := 1) (l := [.p 0]) fun _ _ _ _ _ _ us ws h1 h2 => match us, h1, ws, h2 with | [_], _, [], _ => rfl) rfl ar1
  have m_norm0 : Mth G 9 "norm" isE8 1 [] (posK sNormE) := ⟨_, _, (ins_e8 hE cl1 rfl rfl), M_enorm, C_enorm⟩
  have m_norm := mth_irr m_norm0
  have R_etimes := fn_etimes (G := G) F_etimes hE fe1 fe2 c_toldN c_scaled c_mkE
  have C_etimes := cal_p R_etimes (bd0 F_etimes (ps := ["self", "number"]) (ks := []) (n := 2) (l := [.p 0, .p 1]) fun _ _ _ _ _ _ us ws h1 h2 => match us, h1, ws, h2 with | [_, _], _, [], _ => rfl) rfl ar2
  have m_times0 : Mth G 8 "times" isE8 2 [] (posK sTimesE) := ⟨_, _, (ins_e8 hE cl1 rfl rfl), M_etimes, C_etimes⟩
  have m_timesX := mth_irr m_times0
  have m_timesK0 : Mth G 8 "times" isE8 1 ["number"] (kw11 sTimesE) := ⟨_, _, (ins_e8 hE cl1 rfl rfl), M_etimes, cal_kw11 R_etimes (bd0 F_etimes (ps := ["self", "number"]) (ks := ["number"]) (n := 1) (l := [.p 0, .k 0]) fun _ _ _ _ _ _ us ws h1 h2 => match us, h1, ws, h2 with | [_], _, [_], _ => rfl) rfl rfl⟩
  have m_timesK := mth_kirr m_timesK0
  have R_eadd := fn_eadd (G := G) F_eadd hE fe1 fe2 c_check c_added c_mkE
  have C_eadd := cal_p R_eadd (bd0 F_eadd (ps := ["self", "other"]) (ks := []) (n := 2) (l := [.p 0, .p 1]) fun _ _ _ _ _ _ us ws h1 h2 => match us, h1, ws, h2 with | [_, _], _, [], _ => rfl) rfl ar2
  have o_addE := opE_run o_add (by decide : 6 ≤ 8) oo_eadd C_eadd
  have x_addE := opE_irr o_addE
  have R_eneg := fn_eneg (G := G) F_eneg m_times0
  have C_eneg := cal_p R_eneg (bd0 F_eneg (ps := ["self"]) (ks := []) (n := 1) (l := [.p 0]) fun _ _ _ _ _ _ us ws h1 h2 => match us, h1, ws, h2 with | [_], _, [], _ => rfl) rfl ar1
  have o_negE := so_negE o_neg (by decide : 4 ≤ 9) on1 C_eneg
  have x_negE := negE_irr o_negE
  have R_esub := fn_esub (G := G) (nc := 2) F_esub h0 h1 hE c_check o_addE o_negE
  have C_esub := cal_p R_esub (bd0 F_esub (ps := ["self", "other"]) (ks := []) (n := 2) (l := [.p 0, .p 1]) fun _ _ _ _ _ _ us ws h1 h2 => match us, h1, ws, h2 with | [_, _], _, [], _ => rfl) rfl ar2
  have x_subE := opE_irr (opE_run (so_sub (k := 0)) (by decide : 0 ≤ 10) oo_esub C_esub)
  have o_rep := so_repL o_mul
  have R_emul := fn_emul (G := G) F_emul hE fe1 fe2 c_check c_prod c_added c_mkE
  have C_emul := cal_p R_emul (bd0 F_emul (ps := ["self", "other"]) (ks := []) (n := 2) (l := [.p 0, .p 1]) fun _ _ _ _ _ _ us ws h1 h2 => match us, h1, ws, h2 with | [_, _], _, [], _ => rfl) rfl ar2
  have x_mulE := opE_irr (opE_run o_rep (by decide : 6 ≤ 8) oo_emul C_emul)
  have R_eundone := fn_eundone (G := G) F_eundone hE fe1 fe2 c_noughtN c_und4 c_prod c_scaled c_mk1 n_Ratio c_mkE o_neg
  have C_eundone := cal_p R_eundone (bd0 F_eundone (ps := ["self"]) (ks := []) (n := 1) (l := [.p 0]) fun _ _ _ _ _ _ us ws h1 h2 => match us, h1, ws, h2 with | [_], _, [], _ => rfl) rfl ar1
  have m_undone0 : Mth G 11 "undone" isE8 1 [] (posK sUndoneE) := ⟨_, _, (ins_e8 hE cl1 rfl rfl), M_eundone, C_eundone⟩
  have m_undone := mth_irr m_undone0
  have R_epose := fn_epose (G := G) F_epose hE fe1 fe2 c_noughtN c_dotN p_sign
  have p_pose0 : Prp G 9 "is_pose" isE8 sPoseE := ⟨_, _, _, _, _, (ins_e8 hE cl1 rfl rfl), P_epose, R_epose, (bd0 F_epose (ps := ["self"]) (ks := []) (n := 1) (l := [.p 0]) fun _ _ _ _ _ _ us ws h1 h2 => match us, h1, ws, h2 with | [_], _, [], _ => rfl)⟩
  have p_pose := prp_irr p_pose0
  have R_ehinge := fn_ehinge (G := G) F_ehinge hE fe1 fe2 c_noughtN c_dotN p_sign
  have p_hinge0 : Prp G 9 "is_hinge" isE8 sHingeE := ⟨_, _, _, _, _, (ins_e8 hE cl1 rfl rfl), P_ehinge, R_ehinge, (bd0 F_ehinge (ps := ["self"]) (ks := []) (n := 1) (l := [.p 0]) fun _ _ _ _ _ _ us ws h1 h2 => match us, h1, ws, h2 with | [_], _, [], _ => rfl)⟩
  have p_hinge := prp_irr p_hinge0
  have R_eeq := fn_eeq (G := G) (nc := 2) F_eeq h0 h1 hE fe1 fe2 b_isi n_Eight x_eq
  have C_eeq := cal_p R_eeq (bd0 F_eeq (ps := ["self", "other"]) (ks := []) (n := 2) (l := [.p 0, .p 1]) fun _ _ _ _ _ _ us ws h1 h2 => match us, h1, ws, h2 with | [_, _], _, [], _ => rfl) rfl ar2
  have x_eqE := so2_irr (so_eqE h0 mon_eqEE l_eq (by decide : 3 ≤ 4) oe1 C_eeq)
  have x_neE := so2_irr (so_neE h0 mon_eqEE l_ne (by decide : 3 ≤ 4 + 2) oe1 C_eeq)
  have R_erepr := fn_erepr (G := G) F_erepr hE fe1 fe2 c_shownF
  have C_erepr := cal_p R_erepr (bd0 F_erepr (ps := ["self"]) (ks := []) (n := 1) (l := [.p 0]) fun _ _ _ _ _ _ us ws h1 h2 => match us, h1, ws, h2 with | [_], _, [], _ => rfl) rfl ar1
  have gf1 := fld_rat (G := ({ G with gd := false } : Gc)) (x := "_top") hfl rfl rfl cl na1
  have gf2 := fld_rat (G := ({ G with gd := false } : Gc)) (x := "_bottom") hfl rfl rfl cl na2
  have ge1 := fld_e8 (G := ({ G with gd := false } : Gc)) (x := "_first") hfl rfl rfl cl1 en1
  have ge2 := fld_e8 (G := ({ G with gd := false } : Gc)) (x := "_second") hfl rfl rfl cl1 en2
  have gstrI := bif_t (G := ({ G with gd := false } : Gc)) (k := 0) (x := "str") z_str rfl sl_strI
  have gos : OwnStr ({ G with gd := false } : Gc) isRat "__str__" f_str (G.T.at_ 0) := ⟨os.at_, os.fn, os.ins⟩
  have gR_str := fn_str (G := ({ G with gd := false } : Gc)) F_str gstrI gf1 gf2
  have gC_str := cal_p gR_str (bd0 (G := ({ G with gd := false } : Gc)) F_str (ps := ["self"]) (ks := []) (n := 1) (l := [.p 0]) fun _ _ _ _ _ _ us ws h1 h2 => match us, h1, ws, h2 with | [_], _, [], _ => rfl) rfl ar1
  have gb_str := bif_t (G := ({ G with gd := false } : Gc)) (k := 4) (x := "str") z_str rfl (sl_str gos gC_str)
  have gR_shown := fn_shownf (G := ({ G with gd := false } : Gc)) F_shownf gb_str
  have gC_shown := cal_p gR_shown (bd0 (G := ({ G with gd := false } : Gc)) F_shownf (ps := ["four"]) (ks := []) (n := 1) (l := [.p 0]) fun _ _ _ _ _ _ us ws h1 h2 => match us, h1, ws, h2 with | [_], _, [], _ => rfl) rfl ar1
  have gc_shown : Fnc ({ G with gd := false } : Gc) 5 "shown_four" 1 [] (posK sShownF) := ⟨_, m_shownf, gC_shown⟩
  have gR_repr := fn_erepr (G := ({ G with gd := false } : Gc)) F_erepr hE ge1 ge2 gc_shown
  have gC_repr := cal_p gR_repr (bd0 (G := ({ G with gd := false } : Gc)) F_erepr (ps := ["self"]) (ks := []) (n := 1) (l := [.p 0]) fun _ _ _ _ _ _ us ws h1 h2 => match us, h1, ws, h2 with | [_], _, [], _ => rfl) rfl ar1
  have L_e8 := leaf_e8 ore gC_repr
  have s_repr := sl_repr hgd ore C_erepr
  have b_reprT := bif_irr (bif_b (k := 9) (x := "repr") z_repr rfl (sl_reprT (n := 1) hgd L_e8 (by decide : 8 ≤ 6 + 1 + 2) s_repr))
  have R_draw := fn_draw (G := G) F_draw b_divmod b_int
  have C_draw := cal_p R_draw (bd0 F_draw (ps := ["_law_pot_here", "_law_size"]) (ks := []) (n := 2) (l := [.p 0, .p 1]) fun _ _ _ _ _ _ us ws h1 h2 => match us, h1, ws, h2 with | [_, _], _, [], _ => rfl) rfl ar2
  have c_draw : Fnc G 1 "_law_draw" 2 [] (posK sDraw) := ⟨_, m_draw, C_draw⟩
  have R_lpot := fn_lpot (G := G) F_lpot b_abs b_max b_int b_len
  have C_lpot := cal_p R_lpot (bd0 F_lpot (ps := ["_law_script", "_law_k"]) (ks := []) (n := 2) (l := [.p 0, .p 1]) fun _ _ _ _ _ _ us ws h1 h2 => match us, h1, ws, h2 with | [_, _], _, [], _ => rfl) rfl ar2
  have c_pot : Fnc G 1 "_law_pot" 2 [] (posK sPot) := ⟨_, m_lpot, C_lpot⟩
  have R_lfour := fn_lfour (G := G) F_lfour 
  have C_lfour := cal_p R_lfour (bd0 F_lfour (ps := ["_law_one", "_law_other"]) (ks := []) (n := 2) (l := [.p 0, .p 1]) fun _ _ _ _ _ _ us ws h1 h2 => match us, h1, ws, h2 with | [_, _], _, [], _ => rfl) rfl ar2
  have c_lfour : Fnc G 1 "_law_four" 2 [] (posK sLFour) := ⟨_, m_lfour, C_lfour⟩
  have x_lfour := fnc_irr c_lfour
  have R_lmirror := fn_lmirror (G := G) F_lmirror z_enumerate
  have C_lmirror := cal_p R_lmirror (bd0 F_lmirror (ps := ["_law_numbers"]) (ks := []) (n := 1) (l := [.p 0]) fun _ _ _ _ _ _ us ws h1 h2 => match us, h1, ws, h2 with | [_], _, [], _ => rfl) rfl ar1
  have c_lmirror : Fnc G 1 "_law_mirror" 1 [] (posK sLMirror8) := ⟨_, m_lmirror, C_lmirror⟩
  have x_lmirror := fnc_irr c_lmirror
  have R_leight := fn_leight (G := G) F_leight x_lfour z_zip o_add
  have C_leight := cal_p R_leight (bd0 F_leight (ps := ["_law_one", "_law_other"]) (ks := []) (n := 2) (l := [.p 0, .p 1]) fun _ _ _ _ _ _ us ws h1 h2 => match us, h1, ws, h2 with | [_, _], _, [], _ => rfl) rfl ar2
  have c_leight : Fnc G 7 "_law_eight" 2 [] (posK sLEight) := ⟨_, m_leight, C_leight⟩
  have x_leight := fnc_irr c_leight
  have R_ldot := fn_ldot (G := G) F_ldot z_zip b_sum
  have C_ldot := cal_p R_ldot (bd0 F_ldot (ps := ["_law_one", "_law_other"]) (ks := []) (n := 2) (l := [.p 0, .p 1]) fun _ _ _ _ _ _ us ws h1 h2 => match us, h1, ws, h2 with | [_, _], _, [], _ => rfl) rfl ar2
  have c_ldot : Fnc G 1 "_law_dot" 2 [] (posK sLDotN) := ⟨_, m_ldot, C_ldot⟩
  have x_ldot := fnc_irr c_ldot
  have R_lcross := fn_lcross (G := G) F_lcross 
  have C_lcross := cal_p R_lcross (bd0 F_lcross (ps := ["_law_one", "_law_other"]) (ks := []) (n := 2) (l := [.p 0, .p 1]) fun _ _ _ _ _ _ us ws h1 h2 => match us, h1, ws, h2 with | [_, _], _, [], _ => rfl) rfl ar2
  have c_cross : Fnc G 1 "_law_cross" 2 [] (posK sCross) := ⟨_, m_lcross, C_lcross⟩
  have R_lis := fn_lis (G := G) (nc := 2) F_lis h0 b_isi n_tuple n_Ratio b_len b_all p_top p_bottom z_zip
  have C_lis := cal_p R_lis (bd0 F_lis (ps := ["_law_told", "_law_bottom", "_law_numbers"]) (ks := []) (n := 3) (l := [.p 0, .p 1, .p 2]) fun _ _ _ _ _ _ us ws h1 h2 => match us, h1, ws, h2 with | [_, _, _], _, [], _ => rfl) rfl ar3
  have c_lis : Fnc G 3 "_law_is" 3 [] (posK sLIs) := ⟨_, m_lis, C_lis⟩
  have x_lis := fnc_irr c_lis
  have R_passed := fn_passed (G := G) (nc := 2) F_passed h0 c_draw c_mk2 n_Ratio b_tup
  have C_passed := cal_pD R_passed (bdD F_passed (ps := ["_law_pot_here", "_law_numbers", "_law_bottom"]) (ks := []) (n := 3) (l := [.p 0, .p 1, .p 2]) (dws := [.t (.int 1)]) (by simp) (fun _ _ _ => ⟨_, _, rfl, by simp only [RepW, Rep], rfl⟩) fun _ _ _ _ _ _ _ us ws its h1 h2 h3 => match us, h1, ws, h2, its, h3 with | [_, _, _], _, [], _, [_], _ => ⟨_, rfl, rfl⟩) rfl (fun xs h => by obtain ⟨a, b, c, rfl⟩ := len3 h; rfl)
  have c_passed : Fnc G 4 "_law_passed" 3 [] (posK sPassed) := ⟨_, m_passed, C_passed⟩
  have R_lrow := fn_lrow (G := G) F_lrow c_draw z_range
  have C_lrow := cal_p R_lrow (bd0 F_lrow (ps := ["_law_pot_here", "_law_many", "_law_most"]) (ks := []) (n := 3) (l := [.p 0, .p 1, .p 2]) fun _ _ _ _ _ _ us ws h1 h2 => match us, h1, ws, h2 with | [_, _, _], _, [], _ => rfl) rfl ar3
  have c_row : Fnc G 2 "_law_row" 3 [] (posK sRowN) := ⟨_, m_lrow, C_lrow⟩
  have R_lfilled := fn_lfilled (G := G) F_lfilled c_row b_any o_rep o_add
  have C_lfilled := cal_p R_lfilled (bd0 F_lfilled (ps := ["_law_pot_here", "_law_many", "_law_most"]) (ks := []) (n := 3) (l := [.p 0, .p 1, .p 2]) fun _ _ _ _ _ _ us ws h1 h2 => match us, h1, ws, h2 with | [_, _, _], _, [], _ => rfl) rfl ar3
  have c_filled : Fnc G 7 "_law_filled" 3 [] (posK sFilled) := ⟨_, m_lfilled, C_lfilled⟩
  have R_lpose := fn_lpose (G := G) F_lpose c_filled c_row x_lfour o_add
  have C_lpose := cal_p R_lpose (bd0 F_lpose (ps := ["_law_pot_here"]) (ks := []) (n := 1) (l := [.p 0]) fun _ _ _ _ _ _ us ws h1 h2 => match us, h1, ws, h2 with | [_], _, [], _ => rfl) rfl ar1
  have c_pose : Fnc G 8 "_law_pose" 1 [] (posK (sDrawn8 24)) := ⟨_, m_lpose, C_lpose⟩
  have R_lasE := fn_lasE (G := G) F_lasE c_passed c_mkE
  have C_lasE := cal_pD R_lasE (bdD F_lasE (ps := ["_law_pot_here", "_law_numbers", "_law_bottom"]) (ks := []) (n := 3) (l := [.p 0, .p 1, .p 2]) (dws := [.t (.int 1)]) (by simp) (fun _ _ _ => ⟨_, _, rfl, by simp only [RepW, Rep], rfl⟩) fun _ _ _ _ _ _ _ us ws its h1 h2 h3 => match us, h1, ws, h2, its, h3 with | [_, _, _], _, [], _, [_], _ => ⟨_, rfl, rfl⟩) rfl (fun xs h => by obtain ⟨a, b, c, rfl⟩ := len3 h; rfl)
  have c_asE : Fnc G 8 "_law_as_eight" 3 [] (posK sAsE) := ⟨_, m_lasE, C_lasE⟩
  have c_asE2 : Fnc G 8 "_law_as_eight" 2 [] sAsE2 := ⟨_, m_lasE, cal_asE2 R_lasE (bdD F_lasE (ps := ["_law_pot_here", "_law_numbers", "_law_bottom"]) (ks := []) (n := 2) (l := [.p 0, .p 1, .d 0]) (dws := [.t (.int 1)]) (by simp) (fun _ _ _ => ⟨_, _, rfl, by simp only [RepW, Rep], rfl⟩) fun _ _ _ _ _ _ _ us ws its h1 h2 h3 => match us, h1, ws, h2, its, h3 with | [_, _], _, [], _, [_], _ => ⟨_, rfl, rfl⟩)⟩
  have R_lline := fn_lline (G := G) F_lline c_filled c_row c_cross
  have C_lline := cal_p R_lline (bd0 F_lline (ps := ["_law_pot_here"]) (ks := []) (n := 1) (l := [.p 0]) fun _ _ _ _ _ _ us ws h1 h2 => match us, h1, ws, h2 with | [_], _, [], _ => rfl) rfl ar1
  have c_line : Fnc G 8 "_law_line" 1 [] (posK sLineD) := ⟨_, m_lline, C_lline⟩
  have R_lsame := fn_lsame (G := G) (nc := 2) F_lsame h0 h1 hE b_isi n_Eight x_lis m_first m_second
  have C_lsame := cal_p R_lsame (bd0 F_lsame (ps := ["_law_eight_here", "_law_bottom", "_law_numbers"]) (ks := []) (n := 3) (l := [.p 0, .p 1, .p 2]) fun _ _ _ _ _ _ us ws h1 h2 => match us, h1, ws, h2 with | [_, _, _], _, [], _ => rfl) rfl ar3
  have c_same : Fnc G 5 "_law_same" 3 [] (posK sSame) := ⟨_, m_lsame, C_lsame⟩
  have x_same := fnc_irr c_same
  have R_ldrawn := fn_ldrawn (G := G) F_ldrawn c_draw c_row c_line c_pose o_add
  have C_ldrawn := cal_p R_ldrawn (bd0 F_ldrawn (ps := ["_law_pot_here"]) (ks := []) (n := 1) (l := [.p 0]) fun _ _ _ _ _ _ us ws h1 h2 => match us, h1, ws, h2 with | [_], _, [], _ => rfl) rfl ar1
  have c_drawn : Fnc G 9 "_law_drawn" 1 [] (posK (sDrawn8 24)) := ⟨_, m_ldrawn, C_ldrawn⟩
  have R_lshown := fn_lshown (G := G) F_lshown c_mk2 n_Ratio b_str o_add
  have C_lshown := cal_p R_lshown (bd0 F_lshown (ps := ["_law_bottom", "_law_numbers"]) (ks := []) (n := 2) (l := [.p 0, .p 1]) fun _ _ _ _ _ _ us ws h1 h2 => match us, h1, ws, h2 with | [_, _], _, [], _ => rfl) rfl ar2
  have c_shown8 : Fnc G 7 "_law_shown" 2 [] (posK sShown8) := ⟨_, m_lshown, C_lshown⟩
  have x_shown8 := fnc_irr c_shown8
  have R_lkinds := fn_lkinds (G := G) F_lkinds x_ldot p_pose p_hinge b_reprT b_any
  have C_lkinds := cal_p R_lkinds (bd0 F_lkinds (ps := ["_law_eight_here", "_law_numbers"]) (ks := []) (n := 2) (l := [.p 0, .p 1]) fun _ _ _ _ _ _ us ws h1 h2 => match us, h1, ws, h2 with | [_, _], _, [], _ => rfl) rfl ar2
  have c_kinds : Fnc G 11 "_law_kinds_right" 2 [] (posK sKinds) := ⟨_, m_lkinds, C_lkinds⟩
  have x_kinds := fnc_irr c_kinds
  have R_lundone := fn_lundone (G := G) (nc := 2) F_lundone h0 h1 m_undone x_mulE x_eqE x_same p_pose o_add
  have C_lundone := cal_p R_lundone (bd0 F_lundone (ps := ["_law_eight_here", "_law_bottom", "_law_numbers"]) (ks := []) (n := 3) (l := [.p 0, .p 1, .p 2]) fun _ _ _ _ _ _ us ws h1 h2 => match us, h1, ws, h2 with | [_, _, _], _, [], _ => rfl) rfl ar3
  have c_undr : Fnc G 13 "_law_undone_right" 3 [] (posK sUndR) := ⟨_, m_lundone, C_lundone⟩
  have x_undr := fnc_irr c_undr
  have R_lright := fn_lright (G := G) (nc := 2) F_lright h0 h1 c_draw c_drawn c_row c_asE c_asE2 x_same x_kinds x_undr x_shown8 x_leight x_lmirror x_ldot b_reprT x_mulE x_addE x_subE x_negE x_eqE x_neE m_timesX m_timesK m_mirror m_norm m_first c_mkE c_mkE1 c_mkEK c_mk2 n_Ratio b_tup b_any z_range
  have C_lright := cal_p R_lright (bd0 F_lright (ps := ["_law_pot_here"]) (ks := []) (n := 1) (l := [.p 0]) fun _ _ _ _ _ _ us ws h1 h2 => match us, h1, ws, h2 with | [_], _, [], _ => rfl) rfl ar1
  have c_right : Fnc G 14 "_law_right" 1 [] (posK sYes) := ⟨_, m_lright, C_lright⟩
  have R_law := fn_law (G := G) F_law b_all b_max b_min b_len z_range c_pot c_right
  exact R_law.ok
theorem all_mk {l : PySem.W.OpenLaw} {w : World} {K : PySem.W.Frag} {h : Heap} {mg : Str → Option Value} {fa C E t4 T_einit : Addr} {oT_einit ot4 : Obj} {nT_einit n4 : Nat} {ta tb tc td : Tok} {T_init : Addr} {oT_init : Obj} {tk_init : Tok} {nT_init : Nat} {T_passed : Addr} {oT_passed : Obj} {tk_passed : Tok} {nT_passed : Nat} {T_lasE : Addr} {oT_lasE : Obj} {tk_lasE : Tok} {nT_lasE : Nat} {f_isint : Addr} {od_isint an_isint : Option Addr} {sl_isint : Array (Option Value)} {oc_isint kV_isint dc_isint pm_isint cd_isint ct_isint : Value} {f_init : Addr} {od_init an_init : Option Addr} {sl_init : Array (Option Value)} {oc_init kV_init dc_init pm_init cd_init ct_init : Value} {f_told : Addr} {od_told an_told : Option Addr} {sl_told : Array (Option Value)} {oc_told kV_told dc_told pm_told cd_told ct_told : Value} {f_isnum : Addr} {od_isnum an_isnum : Option Addr} {sl_isnum : Array (Option Value)} {oc_isnum kV_isnum dc_isnum pm_isnum cd_isnum ct_isnum : Value} {f_top : Addr} {od_top an_top : Option Addr} {sl_top : Array (Option Value)} {oc_top kV_top dc_top pm_top cd_top ct_top : Value} {f_bottom : Addr} {od_bottom an_bottom : Option Addr} {sl_bottom : Array (Option Value)} {oc_bottom kV_bottom dc_bottom pm_bottom cd_bottom ct_bottom : Value} {f_sign : Addr} {od_sign an_sign : Option Addr} {sl_sign : Array (Option Value)} {oc_sign kV_sign dc_sign pm_sign cd_sign ct_sign : Value} {f_over : Addr} {od_over an_over : Option Addr} {sl_over : Array (Option Value)} {oc_over kV_over dc_over pm_over cd_over ct_over : Value} {f_add : Addr} {od_add an_add : Option Addr} {sl_add : Array (Option Value)} {oc_add kV_add dc_add pm_add cd_add ct_add : Value} {f_radd : Addr} {od_radd an_radd : Option Addr} {sl_radd : Array (Option Value)} {oc_radd kV_radd dc_radd pm_radd cd_radd ct_radd : Value} {f_sub : Addr} {od_sub an_sub : Option Addr} {sl_sub : Array (Option Value)} {oc_sub kV_sub dc_sub pm_sub cd_sub ct_sub : Value} {f_rsub : Addr} {od_rsub an_rsub : Option Addr} {sl_rsub : Array (Option Value)} {oc_rsub kV_rsub dc_rsub pm_rsub cd_rsub ct_rsub : Value} {f_mul : Addr} {od_mul an_mul : Option Addr} {sl_mul : Array (Option Value)} {oc_mul kV_mul dc_mul pm_mul cd_mul ct_mul : Value} {f_rmul : Addr} {od_rmul an_rmul : Option Addr} {sl_rmul : Array (Option Value)} {oc_rmul kV_rmul dc_rmul pm_rmul cd_rmul ct_rmul : Value} {f_neg : Addr} {od_neg an_neg : Option Addr} {sl_neg : Array (Option Value)} {oc_neg kV_neg dc_neg pm_neg cd_neg ct_neg : Value} {f_eq : Addr} {od_eq an_eq : Option Addr} {sl_eq : Array (Option Value)} {oc_eq kV_eq dc_eq pm_eq cd_eq ct_eq : Value} {f_total : Addr} {od_total an_total : Option Addr} {sl_total : Array (Option Value)} {oc_total kV_total dc_total pm_total cd_total ct_total : Value} {f_str : Addr} {od_str an_str : Option Addr} {sl_str : Array (Option Value)} {oc_str kV_str dc_str pm_str cd_str ct_str : Value} {f_islist : Addr} {od_islist an_islist : Option Addr} {sl_islist : Array (Option Value)} {oc_islist kV_islist dc_islist pm_islist cd_islist ct_islist : Value} {f_mirror : Addr} {od_mirror an_mirror : Option Addr} {sl_mirror : Array (Option Value)} {oc_mirror kV_mirror dc_mirror pm_mirror cd_mirror ct_mirror : Value} {f_product : Addr} {od_product an_product : Option Addr} {sl_product : Array (Option Value)} {oc_product kV_product dc_product pm_product cd_product ct_product : Value} {f_are : Addr} {od_are an_are : Option Addr} {sl_are : Array (Option Value)} {oc_are kV_are dc_are pm_are cd_are ct_are : Value} {f_isfour : Addr} {od_isfour an_isfour : Option Addr} {sl_isfour : Array (Option Value)} {oc_isfour kV_isfour dc_isfour pm_isfour cd_isfour ct_isfour : Value} {f_told4 : Addr} {od_told4 an_told4 : Option Addr} {sl_told4 : Array (Option Value)} {oc_told4 kV_told4 dc_told4 pm_told4 cd_told4 ct_told4 : Value} {f_scaled : Addr} {od_scaled an_scaled : Option Addr} {sl_scaled : Array (Option Value)} {oc_scaled kV_scaled dc_scaled pm_scaled cd_scaled ct_scaled : Value} {f_nought : Addr} {od_nought an_nought : Option Addr} {sl_nought : Array (Option Value)} {oc_nought kV_nought dc_nought pm_nought cd_nought ct_nought : Value} {f_dot : Addr} {od_dot an_dot : Option Addr} {sl_dot : Array (Option Value)} {oc_dot kV_dot dc_dot pm_dot cd_dot ct_dot : Value} {f_undone : Addr} {od_undone an_undone : Option Addr} {sl_undone : Array (Option Value)} {oc_undone kV_undone dc_undone pm_undone cd_undone ct_undone : Value} {f_added : Addr} {od_added an_added : Option Addr} {sl_added : Array (Option Value)} {oc_added kV_added dc_added pm_added cd_added ct_added : Value} {f_shownf : Addr} {od_shownf an_shownf : Option Addr} {sl_shownf : Array (Option Value)} {oc_shownf kV_shownf dc_shownf pm_shownf cd_shownf ct_shownf : Value} {f_check : Addr} {od_check an_check : Option Addr} {sl_check : Array (Option Value)} {oc_check kV_check dc_check pm_check cd_check ct_check : Value} {f_einit : Addr} {od_einit an_einit : Option Addr} {sl_einit : Array (Option Value)} {oc_einit kV_einit dc_einit pm_einit cd_einit ct_einit : Value} {f_efirst : Addr} {od_efirst an_efirst : Option Addr} {sl_efirst : Array (Option Value)} {oc_efirst kV_efirst dc_efirst pm_efirst cd_efirst ct_efirst : Value} {f_esecond : Addr} {od_esecond an_esecond : Option Addr} {sl_esecond : Array (Option Value)} {oc_esecond kV_esecond dc_esecond pm_esecond cd_esecond ct_esecond : Value} {f_emirror : Addr} {od_emirror an_emirror : Option Addr} {sl_emirror : Array (Option Value)} {oc_emirror kV_emirror dc_emirror pm_emirror cd_emirror ct_emirror : Value} {f_enorm : Addr} {od_enorm an_enorm : Option Addr} {sl_enorm : Array (Option Value)} {oc_enorm kV_enorm dc_enorm pm_enorm cd_enorm ct_enorm : Value} {f_etimes : Addr} {od_etimes an_etimes : Option Addr} {sl_etimes : Array (Option Value)} {oc_etimes kV_etimes dc_etimes pm_etimes cd_etimes ct_etimes : Value} {f_eadd : Addr} {od_eadd an_eadd : Option Addr} {sl_eadd : Array (Option Value)} {oc_eadd kV_eadd dc_eadd pm_eadd cd_eadd ct_eadd : Value} {f_eneg : Addr} {od_eneg an_eneg : Option Addr} {sl_eneg : Array (Option Value)} {oc_eneg kV_eneg dc_eneg pm_eneg cd_eneg ct_eneg : Value} {f_esub : Addr} {od_esub an_esub : Option Addr} {sl_esub : Array (Option Value)} {oc_esub kV_esub dc_esub pm_esub cd_esub ct_esub : Value} {f_emul : Addr} {od_emul an_emul : Option Addr} {sl_emul : Array (Option Value)} {oc_emul kV_emul dc_emul pm_emul cd_emul ct_emul : Value} {f_eundone : Addr} {od_eundone an_eundone : Option Addr} {sl_eundone : Array (Option Value)} {oc_eundone kV_eundone dc_eundone pm_eundone cd_eundone ct_eundone : Value} {f_epose : Addr} {od_epose an_epose : Option Addr} {sl_epose : Array (Option Value)} {oc_epose kV_epose dc_epose pm_epose cd_epose ct_epose : Value} {f_ehinge : Addr} {od_ehinge an_ehinge : Option Addr} {sl_ehinge : Array (Option Value)} {oc_ehinge kV_ehinge dc_ehinge pm_ehinge cd_ehinge ct_ehinge : Value} {f_eeq : Addr} {od_eeq an_eeq : Option Addr} {sl_eeq : Array (Option Value)} {oc_eeq kV_eeq dc_eeq pm_eeq cd_eeq ct_eeq : Value} {f_erepr : Addr} {od_erepr an_erepr : Option Addr} {sl_erepr : Array (Option Value)} {oc_erepr kV_erepr dc_erepr pm_erepr cd_erepr ct_erepr : Value} {f_draw : Addr} {od_draw an_draw : Option Addr} {sl_draw : Array (Option Value)} {oc_draw kV_draw dc_draw pm_draw cd_draw ct_draw : Value} {f_lpot : Addr} {od_lpot an_lpot : Option Addr} {sl_lpot : Array (Option Value)} {oc_lpot kV_lpot dc_lpot pm_lpot cd_lpot ct_lpot : Value} {f_lfour : Addr} {od_lfour an_lfour : Option Addr} {sl_lfour : Array (Option Value)} {oc_lfour kV_lfour dc_lfour pm_lfour cd_lfour ct_lfour : Value} {f_lmirror : Addr} {od_lmirror an_lmirror : Option Addr} {sl_lmirror : Array (Option Value)} {oc_lmirror kV_lmirror dc_lmirror pm_lmirror cd_lmirror ct_lmirror : Value} {f_leight : Addr} {od_leight an_leight : Option Addr} {sl_leight : Array (Option Value)} {oc_leight kV_leight dc_leight pm_leight cd_leight ct_leight : Value} {f_ldot : Addr} {od_ldot an_ldot : Option Addr} {sl_ldot : Array (Option Value)} {oc_ldot kV_ldot dc_ldot pm_ldot cd_ldot ct_ldot : Value} {f_lcross : Addr} {od_lcross an_lcross : Option Addr} {sl_lcross : Array (Option Value)} {oc_lcross kV_lcross dc_lcross pm_lcross cd_lcross ct_lcross : Value} {f_lis : Addr} {od_lis an_lis : Option Addr} {sl_lis : Array (Option Value)} {oc_lis kV_lis dc_lis pm_lis cd_lis ct_lis : Value} {f_passed : Addr} {od_passed an_passed : Option Addr} {sl_passed : Array (Option Value)} {oc_passed kV_passed dc_passed pm_passed cd_passed ct_passed : Value} {f_lrow : Addr} {od_lrow an_lrow : Option Addr} {sl_lrow : Array (Option Value)} {oc_lrow kV_lrow dc_lrow pm_lrow cd_lrow ct_lrow : Value} {f_lfilled : Addr} {od_lfilled an_lfilled : Option Addr} {sl_lfilled : Array (Option Value)} {oc_lfilled kV_lfilled dc_lfilled pm_lfilled cd_lfilled ct_lfilled : Value} {f_lpose : Addr} {od_lpose an_lpose : Option Addr} {sl_lpose : Array (Option Value)} {oc_lpose kV_lpose dc_lpose pm_lpose cd_lpose ct_lpose : Value} {f_lasE : Addr} {od_lasE an_lasE : Option Addr} {sl_lasE : Array (Option Value)} {oc_lasE kV_lasE dc_lasE pm_lasE cd_lasE ct_lasE : Value} {f_lline : Addr} {od_lline an_lline : Option Addr} {sl_lline : Array (Option Value)} {oc_lline kV_lline dc_lline pm_lline cd_lline ct_lline : Value} {f_lsame : Addr} {od_lsame an_lsame : Option Addr} {sl_lsame : Array (Option Value)} {oc_lsame kV_lsame dc_lsame pm_lsame cd_lsame ct_lsame : Value} {f_ldrawn : Addr} {od_ldrawn an_ldrawn : Option Addr} {sl_ldrawn : Array (Option Value)} {oc_ldrawn kV_ldrawn dc_ldrawn pm_ldrawn cd_ldrawn ct_ldrawn : Value} {f_lshown : Addr} {od_lshown an_lshown : Option Addr} {sl_lshown : Array (Option Value)} {oc_lshown kV_lshown dc_lshown pm_lshown cd_lshown ct_lshown : Value} {f_lkinds : Addr} {od_lkinds an_lkinds : Option Addr} {sl_lkinds : Array (Option Value)} {oc_lkinds kV_lkinds dc_lkinds pm_lkinds cd_lkinds ct_lkinds : Value} {f_lundone : Addr} {od_lundone an_lundone : Option Addr} {sl_lundone : Array (Option Value)} {oc_lundone kV_lundone dc_lundone pm_lundone cd_lundone ct_lundone : Value} {f_lright : Addr} {od_lright an_lright : Option Addr} {sl_lright : Array (Option Value)} {oc_lright kV_lright dc_lright pm_lright cd_lright ct_lright : Value} {f_law : Addr} {od_law an_law : Option Addr} {sl_law : Array (Option Value)} {oc_law kV_law dc_law pm_law cd_law ct_law : Value} {p_top : Addr} {r_top : List Value} {p_bottom : Addr} {r_bottom : List Value} {p_sign : Addr} {r_sign : List Value} {p_epose : Addr} {r_epose : List Value} {p_ehinge : Addr} {r_ehinge : List Value} {p_total : Addr} {r_total : List Value} {fo_add ro_add : Option Value} {fo_sub ro_sub : Option Value} {fo_mul ro_mul : Option Value} (X : K.In h) (Gm : h.Ns mainGlobals mg) (hfa : mg "law" = some (.ref fa))
    (aC : PySem.W.nsIn K mainGlobals "Ratio" = some (some (.ref C)))
    (aE : PySem.W.nsIn K mainGlobals "Eight" = some (some (.ref E)))
    (a_isint : PySem.W.nsIn K mainGlobals "is_integer" = some (some (.ref f_isint)))
    (l_isint : K.lookup f_isint = some ⟨oc_isint, od_isint, .func (PySem.W.fnOf "is_integer" "is_integer" (defArgs t_isint) (defBody t_isint) (defScope t_isint) .none kV_isint dc_isint pm_isint an_isint cd_isint ct_isint), sl_isint⟩)
    (c_isint : PySem.W.codeIn K cd_isint "is_integer" = true)
    (q_isint : PySem.W.keepIn K (.ref f_isint) = true)
    (a_init : PySem.W.findIn K (.ref C) "__init__" = some (some (.ref f_init)))
    (i_init : PySem.W.isFn K (.ref f_init) = true)
    (l_init : K.lookup f_init = some ⟨oc_init, od_init, .func (PySem.W.fnOf "__init__" "Ratio.__init__" (defArgs t_init) (defBody t_init) (defScope t_init) (.ref T_init) kV_init dc_init pm_init an_init cd_init ct_init), sl_init⟩)
    (c_init : PySem.W.codeIn K cd_init "Ratio.__init__" = true)
    (q_init : PySem.W.keepIn K (.ref f_init) = true)
    (lT_init : K.lookup T_init = some oT_init)
    (eT_init : oT_init.data = .seq [Value.int 1 tk_init].toArray nT_init)
    (a_told : PySem.W.nsIn K mainGlobals "told_number" = some (some (.ref f_told)))
    (l_told : K.lookup f_told = some ⟨oc_told, od_told, .func (PySem.W.fnOf "told_number" "told_number" (defArgs t_told) (defBody t_told) (defScope t_told) .none kV_told dc_told pm_told an_told cd_told ct_told), sl_told⟩)
    (c_told : PySem.W.codeIn K cd_told "told_number" = true)
    (q_told : PySem.W.keepIn K (.ref f_told) = true)
    (a_isnum : PySem.W.nsIn K mainGlobals "is_number" = some (some (.ref f_isnum)))
    (l_isnum : K.lookup f_isnum = some ⟨oc_isnum, od_isnum, .func (PySem.W.fnOf "is_number" "is_number" (defArgs t_isnum) (defBody t_isnum) (defScope t_isnum) .none kV_isnum dc_isnum pm_isnum an_isnum cd_isnum ct_isnum), sl_isnum⟩)
    (c_isnum : PySem.W.codeIn K cd_isnum "is_number" = true)
    (q_isnum : PySem.W.keepIn K (.ref f_isnum) = true)
    (a_top : PySem.W.findIn K (.ref C) "top" = some (some (.ref p_top)))
    (g_top : PySem.W.specialIn K (.ref p_top) "__get__" = some (some (.builtin "property.__get__")))
    (tk_top : PySem.W.takesIn K (.ref p_top) = some true)
    (r_top' : PySem.W.recIn K p_top "property" = some (.ref f_top :: r_top))
    (l_top : K.lookup f_top = some ⟨oc_top, od_top, .func (PySem.W.fnOf "top" "Ratio.top" (defArgs t_top) (defBody t_top) (defScope t_top) .none kV_top dc_top pm_top an_top cd_top ct_top), sl_top⟩)
    (c_top : PySem.W.codeIn K cd_top "Ratio.top" = true)
    (q_top : PySem.W.keepIn K (.ref f_top) = true)
    (a_bottom : PySem.W.findIn K (.ref C) "bottom" = some (some (.ref p_bottom)))
    (g_bottom : PySem.W.specialIn K (.ref p_bottom) "__get__" = some (some (.builtin "property.__get__")))
    (tk_bottom : PySem.W.takesIn K (.ref p_bottom) = some true)
    (r_bottom' : PySem.W.recIn K p_bottom "property" = some (.ref f_bottom :: r_bottom))
    (l_bottom : K.lookup f_bottom = some ⟨oc_bottom, od_bottom, .func (PySem.W.fnOf "bottom" "Ratio.bottom" (defArgs t_bottom) (defBody t_bottom) (defScope t_bottom) .none kV_bottom dc_bottom pm_bottom an_bottom cd_bottom ct_bottom), sl_bottom⟩)
    (c_bottom : PySem.W.codeIn K cd_bottom "Ratio.bottom" = true)
    (q_bottom : PySem.W.keepIn K (.ref f_bottom) = true)
    (a_sign : PySem.W.findIn K (.ref C) "sign" = some (some (.ref p_sign)))
    (g_sign : PySem.W.specialIn K (.ref p_sign) "__get__" = some (some (.builtin "property.__get__")))
    (tk_sign : PySem.W.takesIn K (.ref p_sign) = some true)
    (r_sign' : PySem.W.recIn K p_sign "property" = some (.ref f_sign :: r_sign))
    (l_sign : K.lookup f_sign = some ⟨oc_sign, od_sign, .func (PySem.W.fnOf "sign" "Ratio.sign" (defArgs t_sign) (defBody t_sign) (defScope t_sign) .none kV_sign dc_sign pm_sign an_sign cd_sign ct_sign), sl_sign⟩)
    (c_sign : PySem.W.codeIn K cd_sign "Ratio.sign" = true)
    (q_sign : PySem.W.keepIn K (.ref f_sign) = true)
    (a_over : PySem.W.findIn K (.ref C) "over" = some (some (.ref f_over)))
    (i_over : PySem.W.isFn K (.ref f_over) = true)
    (l_over : K.lookup f_over = some ⟨oc_over, od_over, .func (PySem.W.fnOf "over" "Ratio.over" (defArgs t_over) (defBody t_over) (defScope t_over) .none kV_over dc_over pm_over an_over cd_over ct_over), sl_over⟩)
    (c_over : PySem.W.codeIn K cd_over "Ratio.over" = true)
    (q_over : PySem.W.keepIn K (.ref f_over) = true)
    (a_add : PySem.W.findIn K (.ref C) "__add__" = some (some (.ref f_add)))
    (i_add : PySem.W.isFn K (.ref f_add) = true)
    (l_add : K.lookup f_add = some ⟨oc_add, od_add, .func (PySem.W.fnOf "__add__" "Ratio.__add__" (defArgs t_add) (defBody t_add) (defScope t_add) .none kV_add dc_add pm_add an_add cd_add ct_add), sl_add⟩)
    (c_add : PySem.W.codeIn K cd_add "Ratio.__add__" = true)
    (q_add : PySem.W.keepIn K (.ref f_add) = true)
    (a_radd : PySem.W.findIn K (.ref C) "__radd__" = some (some (.ref f_radd)))
    (i_radd : PySem.W.isFn K (.ref f_radd) = true)
    (l_radd : K.lookup f_radd = some ⟨oc_radd, od_radd, .func (PySem.W.fnOf "__radd__" "Ratio.__radd__" (defArgs t_radd) (defBody t_radd) (defScope t_radd) .none kV_radd dc_radd pm_radd an_radd cd_radd ct_radd), sl_radd⟩)
    (c_radd : PySem.W.codeIn K cd_radd "Ratio.__radd__" = true)
    (q_radd : PySem.W.keepIn K (.ref f_radd) = true)
    (a_sub : PySem.W.findIn K (.ref C) "__sub__" = some (some (.ref f_sub)))
    (i_sub : PySem.W.isFn K (.ref f_sub) = true)
    (l_sub : K.lookup f_sub = some ⟨oc_sub, od_sub, .func (PySem.W.fnOf "__sub__" "Ratio.__sub__" (defArgs t_sub) (defBody t_sub) (defScope t_sub) .none kV_sub dc_sub pm_sub an_sub cd_sub ct_sub), sl_sub⟩)
    (c_sub : PySem.W.codeIn K cd_sub "Ratio.__sub__" = true)
    (q_sub : PySem.W.keepIn K (.ref f_sub) = true)
    (a_rsub : PySem.W.findIn K (.ref C) "__rsub__" = some (some (.ref f_rsub)))
    (i_rsub : PySem.W.isFn K (.ref f_rsub) = true)
    (l_rsub : K.lookup f_rsub = some ⟨oc_rsub, od_rsub, .func (PySem.W.fnOf "__rsub__" "Ratio.__rsub__" (defArgs t_rsub) (defBody t_rsub) (defScope t_rsub) .none kV_rsub dc_rsub pm_rsub an_rsub cd_rsub ct_rsub), sl_rsub⟩)
    (c_rsub : PySem.W.codeIn K cd_rsub "Ratio.__rsub__" = true)
    (q_rsub : PySem.W.keepIn K (.ref f_rsub) = true)
    (a_mul : PySem.W.findIn K (.ref C) "__mul__" = some (some (.ref f_mul)))
    (i_mul : PySem.W.isFn K (.ref f_mul) = true)
    (l_mul : K.lookup f_mul = some ⟨oc_mul, od_mul, .func (PySem.W.fnOf "__mul__" "Ratio.__mul__" (defArgs t_mul) (defBody t_mul) (defScope t_mul) .none kV_mul dc_mul pm_mul an_mul cd_mul ct_mul), sl_mul⟩)
    (c_mul : PySem.W.codeIn K cd_mul "Ratio.__mul__" = true)
    (q_mul : PySem.W.keepIn K (.ref f_mul) = true)
    (a_rmul : PySem.W.findIn K (.ref C) "__rmul__" = some (some (.ref f_rmul)))
    (i_rmul : PySem.W.isFn K (.ref f_rmul) = true)
    (l_rmul : K.lookup f_rmul = some ⟨oc_rmul, od_rmul, .func (PySem.W.fnOf "__rmul__" "Ratio.__rmul__" (defArgs t_rmul) (defBody t_rmul) (defScope t_rmul) .none kV_rmul dc_rmul pm_rmul an_rmul cd_rmul ct_rmul), sl_rmul⟩)
    (c_rmul : PySem.W.codeIn K cd_rmul "Ratio.__rmul__" = true)
    (q_rmul : PySem.W.keepIn K (.ref f_rmul) = true)
    (a_neg : PySem.W.findIn K (.ref C) "__neg__" = some (some (.ref f_neg)))
    (i_neg : PySem.W.isFn K (.ref f_neg) = true)
    (l_neg : K.lookup f_neg = some ⟨oc_neg, od_neg, .func (PySem.W.fnOf "__neg__" "Ratio.__neg__" (defArgs t_neg) (defBody t_neg) (defScope t_neg) .none kV_neg dc_neg pm_neg an_neg cd_neg ct_neg), sl_neg⟩)
    (c_neg : PySem.W.codeIn K cd_neg "Ratio.__neg__" = true)
    (q_neg : PySem.W.keepIn K (.ref f_neg) = true)
    (a_eq : PySem.W.findIn K (.ref C) "__eq__" = some (some (.ref f_eq)))
    (i_eq : PySem.W.isFn K (.ref f_eq) = true)
    (l_eq : K.lookup f_eq = some ⟨oc_eq, od_eq, .func (PySem.W.fnOf "__eq__" "Ratio.__eq__" (defArgs t_eq) (defBody t_eq) (defScope t_eq) .none kV_eq dc_eq pm_eq an_eq cd_eq ct_eq), sl_eq⟩)
    (c_eq : PySem.W.codeIn K cd_eq "Ratio.__eq__" = true)
    (q_eq : PySem.W.keepIn K (.ref f_eq) = true)
    (rd1 : PySem.W.readsIn K C (.type "type") = true)
    (rd2 : PySem.W.specialIn K (.ref C) "__getattribute__" = some (some (.builtin "type.__getattribute__")))
    (a_total : PySem.W.findCls K (.ref C) (.type "type") "total" = some (.get (.builtin "classmethod.__get__") (.ref p_total) .none (.ref C)))
    (r_total' : PySem.W.recIn K p_total "classmethod" = some (.ref f_total :: r_total))
    (i_total : PySem.W.fnIn K f_total = true)
    (l_total : K.lookup f_total = some ⟨oc_total, od_total, .func (PySem.W.fnOf "total" "Ratio.total" (defArgs t_total) (defBody t_total) (defScope t_total) .none kV_total dc_total pm_total an_total cd_total ct_total), sl_total⟩)
    (c_total : PySem.W.codeIn K cd_total "Ratio.total" = true)
    (q_total : PySem.W.keepIn K (.ref f_total) = true)
    (a_str : PySem.W.findIn K (.ref C) "__str__" = some (some (.ref f_str)))
    (i_str : PySem.W.isFn K (.ref f_str) = true)
    (l_str : K.lookup f_str = some ⟨oc_str, od_str, .func (PySem.W.fnOf "__str__" "Ratio.__str__" (defArgs t_str) (defBody t_str) (defScope t_str) .none kV_str dc_str pm_str an_str cd_str ct_str), sl_str⟩)
    (c_str : PySem.W.codeIn K cd_str "Ratio.__str__" = true)
    (q_str : PySem.W.keepIn K (.ref f_str) = true)
    (a_islist : PySem.W.nsIn K mainGlobals "is_list" = some (some (.ref f_islist)))
    (l_islist : K.lookup f_islist = some ⟨oc_islist, od_islist, .func (PySem.W.fnOf "is_list" "is_list" (defArgs t_islist) (defBody t_islist) (defScope t_islist) .none kV_islist dc_islist pm_islist an_islist cd_islist ct_islist), sl_islist⟩)
    (c_islist : PySem.W.codeIn K cd_islist "is_list" = true)
    (q_islist : PySem.W.keepIn K (.ref f_islist) = true)
    (a_mirror : PySem.W.nsIn K mainGlobals "four_mirror" = some (some (.ref f_mirror)))
    (l_mirror : K.lookup f_mirror = some ⟨oc_mirror, od_mirror, .func (PySem.W.fnOf "four_mirror" "four_mirror" (defArgs t_mirror) (defBody t_mirror) (defScope t_mirror) .none kV_mirror dc_mirror pm_mirror an_mirror cd_mirror ct_mirror), sl_mirror⟩)
    (c_mirror : PySem.W.codeIn K cd_mirror "four_mirror" = true)
    (q_mirror : PySem.W.keepIn K (.ref f_mirror) = true)
    (a_product : PySem.W.nsIn K mainGlobals "four_product" = some (some (.ref f_product)))
    (l_product : K.lookup f_product = some ⟨oc_product, od_product, .func (PySem.W.fnOf "four_product" "four_product" (defArgs t_product) (defBody t_product) (defScope t_product) .none kV_product dc_product pm_product an_product cd_product ct_product), sl_product⟩)
    (c_product : PySem.W.codeIn K cd_product "four_product" = true)
    (q_product : PySem.W.keepIn K (.ref f_product) = true)
    (a_are : PySem.W.nsIn K mainGlobals "are_numbers" = some (some (.ref f_are)))
    (l_are : K.lookup f_are = some ⟨oc_are, od_are, .func (PySem.W.fnOf "are_numbers" "are_numbers" (defArgs t_are) (defBody t_are) (defScope t_are) .none kV_are dc_are pm_are an_are cd_are ct_are), sl_are⟩)
    (c_are : PySem.W.codeIn K cd_are "are_numbers" = true)
    (q_are : PySem.W.keepIn K (.ref f_are) = true)
    (a_isfour : PySem.W.nsIn K mainGlobals "is_four" = some (some (.ref f_isfour)))
    (l_isfour : K.lookup f_isfour = some ⟨oc_isfour, od_isfour, .func (PySem.W.fnOf "is_four" "is_four" (defArgs t_isfour) (defBody t_isfour) (defScope t_isfour) .none kV_isfour dc_isfour pm_isfour an_isfour cd_isfour ct_isfour), sl_isfour⟩)
    (c_isfour : PySem.W.codeIn K cd_isfour "is_four" = true)
    (q_isfour : PySem.W.keepIn K (.ref f_isfour) = true)
    (a_told4 : PySem.W.nsIn K mainGlobals "told_four" = some (some (.ref f_told4)))
    (l_told4 : K.lookup f_told4 = some ⟨oc_told4, od_told4, .func (PySem.W.fnOf "told_four" "told_four" (defArgs t_told4) (defBody t_told4) (defScope t_told4) .none kV_told4 dc_told4 pm_told4 an_told4 cd_told4 ct_told4), sl_told4⟩)
    (c_told4 : PySem.W.codeIn K cd_told4 "told_four" = true)
    (q_told4 : PySem.W.keepIn K (.ref f_told4) = true)
    (a_scaled : PySem.W.nsIn K mainGlobals "scaled_numbers" = some (some (.ref f_scaled)))
    (l_scaled : K.lookup f_scaled = some ⟨oc_scaled, od_scaled, .func (PySem.W.fnOf "scaled_numbers" "scaled_numbers" (defArgs t_scaled) (defBody t_scaled) (defScope t_scaled) .none kV_scaled dc_scaled pm_scaled an_scaled cd_scaled ct_scaled), sl_scaled⟩)
    (c_scaled : PySem.W.codeIn K cd_scaled "scaled_numbers" = true)
    (q_scaled : PySem.W.keepIn K (.ref f_scaled) = true)
    (a_nought : PySem.W.nsIn K mainGlobals "is_nought" = some (some (.ref f_nought)))
    (l_nought : K.lookup f_nought = some ⟨oc_nought, od_nought, .func (PySem.W.fnOf "is_nought" "is_nought" (defArgs t_nought) (defBody t_nought) (defScope t_nought) .none kV_nought dc_nought pm_nought an_nought cd_nought ct_nought), sl_nought⟩)
    (c_nought : PySem.W.codeIn K cd_nought "is_nought" = true)
    (q_nought : PySem.W.keepIn K (.ref f_nought) = true)
    (a_dot : PySem.W.nsIn K mainGlobals "sum_of_products" = some (some (.ref f_dot)))
    (l_dot : K.lookup f_dot = some ⟨oc_dot, od_dot, .func (PySem.W.fnOf "sum_of_products" "sum_of_products" (defArgs t_dot) (defBody t_dot) (defScope t_dot) .none kV_dot dc_dot pm_dot an_dot cd_dot ct_dot), sl_dot⟩)
    (c_dot : PySem.W.codeIn K cd_dot "sum_of_products" = true)
    (q_dot : PySem.W.keepIn K (.ref f_dot) = true)
    (a_undone : PySem.W.nsIn K mainGlobals "undone_four" = some (some (.ref f_undone)))
    (l_undone : K.lookup f_undone = some ⟨oc_undone, od_undone, .func (PySem.W.fnOf "undone_four" "undone_four" (defArgs t_undone) (defBody t_undone) (defScope t_undone) .none kV_undone dc_undone pm_undone an_undone cd_undone ct_undone), sl_undone⟩)
    (c_undone : PySem.W.codeIn K cd_undone "undone_four" = true)
    (q_undone : PySem.W.keepIn K (.ref f_undone) = true)
    (a_added : PySem.W.nsIn K mainGlobals "added" = some (some (.ref f_added)))
    (l_added : K.lookup f_added = some ⟨oc_added, od_added, .func (PySem.W.fnOf "added" "added" (defArgs t_added) (defBody t_added) (defScope t_added) .none kV_added dc_added pm_added an_added cd_added ct_added), sl_added⟩)
    (c_added : PySem.W.codeIn K cd_added "added" = true)
    (q_added : PySem.W.keepIn K (.ref f_added) = true)
    (a_shownf : PySem.W.nsIn K mainGlobals "shown_four" = some (some (.ref f_shownf)))
    (l_shownf : K.lookup f_shownf = some ⟨oc_shownf, od_shownf, .func (PySem.W.fnOf "shown_four" "shown_four" (defArgs t_shownf) (defBody t_shownf) (defScope t_shownf) .none kV_shownf dc_shownf pm_shownf an_shownf cd_shownf ct_shownf), sl_shownf⟩)
    (c_shownf : PySem.W.codeIn K cd_shownf "shown_four" = true)
    (q_shownf : PySem.W.keepIn K (.ref f_shownf) = true)
    (a_check : PySem.W.nsIn K mainGlobals "check_eight" = some (some (.ref f_check)))
    (l_check : K.lookup f_check = some ⟨oc_check, od_check, .func (PySem.W.fnOf "check_eight" "check_eight" (defArgs t_check) (defBody t_check) (defScope t_check) .none kV_check dc_check pm_check an_check cd_check ct_check), sl_check⟩)
    (c_check : PySem.W.codeIn K cd_check "check_eight" = true)
    (q_check : PySem.W.keepIn K (.ref f_check) = true)
    (a_einit : PySem.W.findIn K (.ref E) "__init__" = some (some (.ref f_einit)))
    (i_einit : PySem.W.isFn K (.ref f_einit) = true)
    (l_einit : K.lookup f_einit = some ⟨oc_einit, od_einit, .func (PySem.W.fnOf "__init__" "Eight.__init__" (defArgs t_einit) (defBody t_einit) (defScope t_einit) (.ref T_einit) kV_einit dc_einit pm_einit an_einit cd_einit ct_einit), sl_einit⟩)
    (c_einit : PySem.W.codeIn K cd_einit "Eight.__init__" = true)
    (q_einit : PySem.W.keepIn K (.ref f_einit) = true)
    (lT_einit : K.lookup T_einit = some oT_einit)
    (eT_einit : oT_einit.data = .seq [Value.ref t4].toArray nT_einit)
    (lT4 : K.lookup t4 = some ot4)
    (eT4 : ot4.data = .seq [Value.int 0 ta, Value.int 0 tb, Value.int 0 tc, Value.int 0 td].toArray n4)
    (eU4 : ot4.cls = .type "tuple")
    (a_efirst : PySem.W.findIn K (.ref E) "first" = some (some (.ref f_efirst)))
    (i_efirst : PySem.W.isFn K (.ref f_efirst) = true)
    (l_efirst : K.lookup f_efirst = some ⟨oc_efirst, od_efirst, .func (PySem.W.fnOf "first" "Eight.first" (defArgs t_efirst) (defBody t_efirst) (defScope t_efirst) .none kV_efirst dc_efirst pm_efirst an_efirst cd_efirst ct_efirst), sl_efirst⟩)
    (c_efirst : PySem.W.codeIn K cd_efirst "Eight.first" = true)
    (q_efirst : PySem.W.keepIn K (.ref f_efirst) = true)
    (a_esecond : PySem.W.findIn K (.ref E) "second" = some (some (.ref f_esecond)))
    (i_esecond : PySem.W.isFn K (.ref f_esecond) = true)
    (l_esecond : K.lookup f_esecond = some ⟨oc_esecond, od_esecond, .func (PySem.W.fnOf "second" "Eight.second" (defArgs t_esecond) (defBody t_esecond) (defScope t_esecond) .none kV_esecond dc_esecond pm_esecond an_esecond cd_esecond ct_esecond), sl_esecond⟩)
    (c_esecond : PySem.W.codeIn K cd_esecond "Eight.second" = true)
    (q_esecond : PySem.W.keepIn K (.ref f_esecond) = true)
    (a_emirror : PySem.W.findIn K (.ref E) "mirror" = some (some (.ref f_emirror)))
    (i_emirror : PySem.W.isFn K (.ref f_emirror) = true)
    (l_emirror : K.lookup f_emirror = some ⟨oc_emirror, od_emirror, .func (PySem.W.fnOf "mirror" "Eight.mirror" (defArgs t_emirror) (defBody t_emirror) (defScope t_emirror) .none kV_emirror dc_emirror pm_emirror an_emirror cd_emirror ct_emirror), sl_emirror⟩)
    (c_emirror : PySem.W.codeIn K cd_emirror "Eight.mirror" = true)
    (q_emirror : PySem.W.keepIn K (.ref f_emirror) = true)
    (a_enorm : PySem.W.findIn K (.ref E) "norm" = some (some (.ref f_enorm)))
    (i_enorm : PySem.W.isFn K (.ref f_enorm) = true)
    (l_enorm : K.lookup f_enorm = some ⟨oc_enorm, od_enorm, .func (PySem.W.fnOf "norm" "Eight.norm" (defArgs t_enorm) (defBody t_enorm) (defScope t_enorm) .none kV_enorm dc_enorm pm_enorm an_enorm cd_enorm ct_enorm), sl_enorm⟩)
    (c_enorm : PySem.W.codeIn K cd_enorm "Eight.norm" = true)
    (q_enorm : PySem.W.keepIn K (.ref f_enorm) = true)
    (a_etimes : PySem.W.findIn K (.ref E) "times" = some (some (.ref f_etimes)))
    (i_etimes : PySem.W.isFn K (.ref f_etimes) = true)
    (l_etimes : K.lookup f_etimes = some ⟨oc_etimes, od_etimes, .func (PySem.W.fnOf "times" "Eight.times" (defArgs t_etimes) (defBody t_etimes) (defScope t_etimes) .none kV_etimes dc_etimes pm_etimes an_etimes cd_etimes ct_etimes), sl_etimes⟩)
    (c_etimes : PySem.W.codeIn K cd_etimes "Eight.times" = true)
    (q_etimes : PySem.W.keepIn K (.ref f_etimes) = true)
    (a_eadd : PySem.W.findIn K (.ref E) "__add__" = some (some (.ref f_eadd)))
    (i_eadd : PySem.W.isFn K (.ref f_eadd) = true)
    (l_eadd : K.lookup f_eadd = some ⟨oc_eadd, od_eadd, .func (PySem.W.fnOf "__add__" "Eight.__add__" (defArgs t_eadd) (defBody t_eadd) (defScope t_eadd) .none kV_eadd dc_eadd pm_eadd an_eadd cd_eadd ct_eadd), sl_eadd⟩)
    (c_eadd : PySem.W.codeIn K cd_eadd "Eight.__add__" = true)
    (q_eadd : PySem.W.keepIn K (.ref f_eadd) = true)
    (a_eneg : PySem.W.findIn K (.ref E) "__neg__" = some (some (.ref f_eneg)))
    (i_eneg : PySem.W.isFn K (.ref f_eneg) = true)
    (l_eneg : K.lookup f_eneg = some ⟨oc_eneg, od_eneg, .func (PySem.W.fnOf "__neg__" "Eight.__neg__" (defArgs t_eneg) (defBody t_eneg) (defScope t_eneg) .none kV_eneg dc_eneg pm_eneg an_eneg cd_eneg ct_eneg), sl_eneg⟩)
    (c_eneg : PySem.W.codeIn K cd_eneg "Eight.__neg__" = true)
    (q_eneg : PySem.W.keepIn K (.ref f_eneg) = true)
    (a_esub : PySem.W.findIn K (.ref E) "__sub__" = some (some (.ref f_esub)))
    (i_esub : PySem.W.isFn K (.ref f_esub) = true)
    (l_esub : K.lookup f_esub = some ⟨oc_esub, od_esub, .func (PySem.W.fnOf "__sub__" "Eight.__sub__" (defArgs t_esub) (defBody t_esub) (defScope t_esub) .none kV_esub dc_esub pm_esub an_esub cd_esub ct_esub), sl_esub⟩)
    (c_esub : PySem.W.codeIn K cd_esub "Eight.__sub__" = true)
    (q_esub : PySem.W.keepIn K (.ref f_esub) = true)
    (a_emul : PySem.W.findIn K (.ref E) "__mul__" = some (some (.ref f_emul)))
    (i_emul : PySem.W.isFn K (.ref f_emul) = true)
    (l_emul : K.lookup f_emul = some ⟨oc_emul, od_emul, .func (PySem.W.fnOf "__mul__" "Eight.__mul__" (defArgs t_emul) (defBody t_emul) (defScope t_emul) .none kV_emul dc_emul pm_emul an_emul cd_emul ct_emul), sl_emul⟩)
    (c_emul : PySem.W.codeIn K cd_emul "Eight.__mul__" = true)
    (q_emul : PySem.W.keepIn K (.ref f_emul) = true)
    (a_eundone : PySem.W.findIn K (.ref E) "undone" = some (some (.ref f_eundone)))
    (i_eundone : PySem.W.isFn K (.ref f_eundone) = true)
    (l_eundone : K.lookup f_eundone = some ⟨oc_eundone, od_eundone, .func (PySem.W.fnOf "undone" "Eight.undone" (defArgs t_eundone) (defBody t_eundone) (defScope t_eundone) .none kV_eundone dc_eundone pm_eundone an_eundone cd_eundone ct_eundone), sl_eundone⟩)
    (c_eundone : PySem.W.codeIn K cd_eundone "Eight.undone" = true)
    (q_eundone : PySem.W.keepIn K (.ref f_eundone) = true)
    (a_epose : PySem.W.findIn K (.ref E) "is_pose" = some (some (.ref p_epose)))
    (g_epose : PySem.W.specialIn K (.ref p_epose) "__get__" = some (some (.builtin "property.__get__")))
    (tk_epose : PySem.W.takesIn K (.ref p_epose) = some true)
    (r_epose' : PySem.W.recIn K p_epose "property" = some (.ref f_epose :: r_epose))
    (l_epose : K.lookup f_epose = some ⟨oc_epose, od_epose, .func (PySem.W.fnOf "is_pose" "Eight.is_pose" (defArgs t_epose) (defBody t_epose) (defScope t_epose) .none kV_epose dc_epose pm_epose an_epose cd_epose ct_epose), sl_epose⟩)
    (c_epose : PySem.W.codeIn K cd_epose "Eight.is_pose" = true)
    (q_epose : PySem.W.keepIn K (.ref f_epose) = true)
    (a_ehinge : PySem.W.findIn K (.ref E) "is_hinge" = some (some (.ref p_ehinge)))
    (g_ehinge : PySem.W.specialIn K (.ref p_ehinge) "__get__" = some (some (.builtin "property.__get__")))
    (tk_ehinge : PySem.W.takesIn K (.ref p_ehinge) = some true)
    (r_ehinge' : PySem.W.recIn K p_ehinge "property" = some (.ref f_ehinge :: r_ehinge))
    (l_ehinge : K.lookup f_ehinge = some ⟨oc_ehinge, od_ehinge, .func (PySem.W.fnOf "is_hinge" "Eight.is_hinge" (defArgs t_ehinge) (defBody t_ehinge) (defScope t_ehinge) .none kV_ehinge dc_ehinge pm_ehinge an_ehinge cd_ehinge ct_ehinge), sl_ehinge⟩)
    (c_ehinge : PySem.W.codeIn K cd_ehinge "Eight.is_hinge" = true)
    (q_ehinge : PySem.W.keepIn K (.ref f_ehinge) = true)
    (a_eeq : PySem.W.findIn K (.ref E) "__eq__" = some (some (.ref f_eeq)))
    (i_eeq : PySem.W.isFn K (.ref f_eeq) = true)
    (l_eeq : K.lookup f_eeq = some ⟨oc_eeq, od_eeq, .func (PySem.W.fnOf "__eq__" "Eight.__eq__" (defArgs t_eeq) (defBody t_eeq) (defScope t_eeq) .none kV_eeq dc_eeq pm_eeq an_eeq cd_eeq ct_eeq), sl_eeq⟩)
    (c_eeq : PySem.W.codeIn K cd_eeq "Eight.__eq__" = true)
    (q_eeq : PySem.W.keepIn K (.ref f_eeq) = true)
    (a_erepr : PySem.W.findIn K (.ref E) "__repr__" = some (some (.ref f_erepr)))
    (i_erepr : PySem.W.isFn K (.ref f_erepr) = true)
    (l_erepr : K.lookup f_erepr = some ⟨oc_erepr, od_erepr, .func (PySem.W.fnOf "__repr__" "Eight.__repr__" (defArgs t_erepr) (defBody t_erepr) (defScope t_erepr) .none kV_erepr dc_erepr pm_erepr an_erepr cd_erepr ct_erepr), sl_erepr⟩)
    (c_erepr : PySem.W.codeIn K cd_erepr "Eight.__repr__" = true)
    (q_erepr : PySem.W.keepIn K (.ref f_erepr) = true)
    (a_draw : PySem.W.nsIn K mainGlobals "_law_draw" = some (some (.ref f_draw)))
    (l_draw : K.lookup f_draw = some ⟨oc_draw, od_draw, .func (PySem.W.fnOf "_law_draw" "_law_draw" (defArgs t_draw) (defBody t_draw) (defScope t_draw) .none kV_draw dc_draw pm_draw an_draw cd_draw ct_draw), sl_draw⟩)
    (c_draw : PySem.W.codeIn K cd_draw "_law_draw" = true)
    (q_draw : PySem.W.keepIn K (.ref f_draw) = true)
    (a_lpot : PySem.W.nsIn K mainGlobals "_law_pot" = some (some (.ref f_lpot)))
    (l_lpot : K.lookup f_lpot = some ⟨oc_lpot, od_lpot, .func (PySem.W.fnOf "_law_pot" "_law_pot" (defArgs t_lpot) (defBody t_lpot) (defScope t_lpot) .none kV_lpot dc_lpot pm_lpot an_lpot cd_lpot ct_lpot), sl_lpot⟩)
    (c_lpot : PySem.W.codeIn K cd_lpot "_law_pot" = true)
    (q_lpot : PySem.W.keepIn K (.ref f_lpot) = true)
    (a_lfour : PySem.W.nsIn K mainGlobals "_law_four" = some (some (.ref f_lfour)))
    (l_lfour : K.lookup f_lfour = some ⟨oc_lfour, od_lfour, .func (PySem.W.fnOf "_law_four" "_law_four" (defArgs t_lfour) (defBody t_lfour) (defScope t_lfour) .none kV_lfour dc_lfour pm_lfour an_lfour cd_lfour ct_lfour), sl_lfour⟩)
    (c_lfour : PySem.W.codeIn K cd_lfour "_law_four" = true)
    (q_lfour : PySem.W.keepIn K (.ref f_lfour) = true)
    (a_lmirror : PySem.W.nsIn K mainGlobals "_law_mirror" = some (some (.ref f_lmirror)))
    (l_lmirror : K.lookup f_lmirror = some ⟨oc_lmirror, od_lmirror, .func (PySem.W.fnOf "_law_mirror" "_law_mirror" (defArgs t_lmirror) (defBody t_lmirror) (defScope t_lmirror) .none kV_lmirror dc_lmirror pm_lmirror an_lmirror cd_lmirror ct_lmirror), sl_lmirror⟩)
    (c_lmirror : PySem.W.codeIn K cd_lmirror "_law_mirror" = true)
    (q_lmirror : PySem.W.keepIn K (.ref f_lmirror) = true)
    (a_leight : PySem.W.nsIn K mainGlobals "_law_eight" = some (some (.ref f_leight)))
    (l_leight : K.lookup f_leight = some ⟨oc_leight, od_leight, .func (PySem.W.fnOf "_law_eight" "_law_eight" (defArgs t_leight) (defBody t_leight) (defScope t_leight) .none kV_leight dc_leight pm_leight an_leight cd_leight ct_leight), sl_leight⟩)
    (c_leight : PySem.W.codeIn K cd_leight "_law_eight" = true)
    (q_leight : PySem.W.keepIn K (.ref f_leight) = true)
    (a_ldot : PySem.W.nsIn K mainGlobals "_law_dot" = some (some (.ref f_ldot)))
    (l_ldot : K.lookup f_ldot = some ⟨oc_ldot, od_ldot, .func (PySem.W.fnOf "_law_dot" "_law_dot" (defArgs t_ldot) (defBody t_ldot) (defScope t_ldot) .none kV_ldot dc_ldot pm_ldot an_ldot cd_ldot ct_ldot), sl_ldot⟩)
    (c_ldot : PySem.W.codeIn K cd_ldot "_law_dot" = true)
    (q_ldot : PySem.W.keepIn K (.ref f_ldot) = true)
    (a_lcross : PySem.W.nsIn K mainGlobals "_law_cross" = some (some (.ref f_lcross)))
    (l_lcross : K.lookup f_lcross = some ⟨oc_lcross, od_lcross, .func (PySem.W.fnOf "_law_cross" "_law_cross" (defArgs t_lcross) (defBody t_lcross) (defScope t_lcross) .none kV_lcross dc_lcross pm_lcross an_lcross cd_lcross ct_lcross), sl_lcross⟩)
    (c_lcross : PySem.W.codeIn K cd_lcross "_law_cross" = true)
    (q_lcross : PySem.W.keepIn K (.ref f_lcross) = true)
    (a_lis : PySem.W.nsIn K mainGlobals "_law_is" = some (some (.ref f_lis)))
    (l_lis : K.lookup f_lis = some ⟨oc_lis, od_lis, .func (PySem.W.fnOf "_law_is" "_law_is" (defArgs t_lis) (defBody t_lis) (defScope t_lis) .none kV_lis dc_lis pm_lis an_lis cd_lis ct_lis), sl_lis⟩)
    (c_lis : PySem.W.codeIn K cd_lis "_law_is" = true)
    (q_lis : PySem.W.keepIn K (.ref f_lis) = true)
    (a_passed : PySem.W.nsIn K mainGlobals "_law_passed" = some (some (.ref f_passed)))
    (l_passed : K.lookup f_passed = some ⟨oc_passed, od_passed, .func (PySem.W.fnOf "_law_passed" "_law_passed" (defArgs t_passed) (defBody t_passed) (defScope t_passed) (.ref T_passed) kV_passed dc_passed pm_passed an_passed cd_passed ct_passed), sl_passed⟩)
    (c_passed : PySem.W.codeIn K cd_passed "_law_passed" = true)
    (q_passed : PySem.W.keepIn K (.ref f_passed) = true)
    (lT_passed : K.lookup T_passed = some oT_passed)
    (eT_passed : oT_passed.data = .seq [Value.int 1 tk_passed].toArray nT_passed)
    (a_lrow : PySem.W.nsIn K mainGlobals "_law_row" = some (some (.ref f_lrow)))
    (l_lrow : K.lookup f_lrow = some ⟨oc_lrow, od_lrow, .func (PySem.W.fnOf "_law_row" "_law_row" (defArgs t_lrow) (defBody t_lrow) (defScope t_lrow) .none kV_lrow dc_lrow pm_lrow an_lrow cd_lrow ct_lrow), sl_lrow⟩)
    (c_lrow : PySem.W.codeIn K cd_lrow "_law_row" = true)
    (q_lrow : PySem.W.keepIn K (.ref f_lrow) = true)
    (a_lfilled : PySem.W.nsIn K mainGlobals "_law_filled" = some (some (.ref f_lfilled)))
    (l_lfilled : K.lookup f_lfilled = some ⟨oc_lfilled, od_lfilled, .func (PySem.W.fnOf "_law_filled" "_law_filled" (defArgs t_lfilled) (defBody t_lfilled) (defScope t_lfilled) .none kV_lfilled dc_lfilled pm_lfilled an_lfilled cd_lfilled ct_lfilled), sl_lfilled⟩)
    (c_lfilled : PySem.W.codeIn K cd_lfilled "_law_filled" = true)
    (q_lfilled : PySem.W.keepIn K (.ref f_lfilled) = true)
    (a_lpose : PySem.W.nsIn K mainGlobals "_law_pose" = some (some (.ref f_lpose)))
    (l_lpose : K.lookup f_lpose = some ⟨oc_lpose, od_lpose, .func (PySem.W.fnOf "_law_pose" "_law_pose" (defArgs t_lpose) (defBody t_lpose) (defScope t_lpose) .none kV_lpose dc_lpose pm_lpose an_lpose cd_lpose ct_lpose), sl_lpose⟩)
    (c_lpose : PySem.W.codeIn K cd_lpose "_law_pose" = true)
    (q_lpose : PySem.W.keepIn K (.ref f_lpose) = true)
    (a_lasE : PySem.W.nsIn K mainGlobals "_law_as_eight" = some (some (.ref f_lasE)))
    (l_lasE : K.lookup f_lasE = some ⟨oc_lasE, od_lasE, .func (PySem.W.fnOf "_law_as_eight" "_law_as_eight" (defArgs t_lasE) (defBody t_lasE) (defScope t_lasE) (.ref T_lasE) kV_lasE dc_lasE pm_lasE an_lasE cd_lasE ct_lasE), sl_lasE⟩)
    (c_lasE : PySem.W.codeIn K cd_lasE "_law_as_eight" = true)
    (q_lasE : PySem.W.keepIn K (.ref f_lasE) = true)
    (lT_lasE : K.lookup T_lasE = some oT_lasE)
    (eT_lasE : oT_lasE.data = .seq [Value.int 1 tk_lasE].toArray nT_lasE)
    (a_lline : PySem.W.nsIn K mainGlobals "_law_line" = some (some (.ref f_lline)))
    (l_lline : K.lookup f_lline = some ⟨oc_lline, od_lline, .func (PySem.W.fnOf "_law_line" "_law_line" (defArgs t_lline) (defBody t_lline) (defScope t_lline) .none kV_lline dc_lline pm_lline an_lline cd_lline ct_lline), sl_lline⟩)
    (c_lline : PySem.W.codeIn K cd_lline "_law_line" = true)
    (q_lline : PySem.W.keepIn K (.ref f_lline) = true)
    (a_lsame : PySem.W.nsIn K mainGlobals "_law_same" = some (some (.ref f_lsame)))
    (l_lsame : K.lookup f_lsame = some ⟨oc_lsame, od_lsame, .func (PySem.W.fnOf "_law_same" "_law_same" (defArgs t_lsame) (defBody t_lsame) (defScope t_lsame) .none kV_lsame dc_lsame pm_lsame an_lsame cd_lsame ct_lsame), sl_lsame⟩)
    (c_lsame : PySem.W.codeIn K cd_lsame "_law_same" = true)
    (q_lsame : PySem.W.keepIn K (.ref f_lsame) = true)
    (a_ldrawn : PySem.W.nsIn K mainGlobals "_law_drawn" = some (some (.ref f_ldrawn)))
    (l_ldrawn : K.lookup f_ldrawn = some ⟨oc_ldrawn, od_ldrawn, .func (PySem.W.fnOf "_law_drawn" "_law_drawn" (defArgs t_ldrawn) (defBody t_ldrawn) (defScope t_ldrawn) .none kV_ldrawn dc_ldrawn pm_ldrawn an_ldrawn cd_ldrawn ct_ldrawn), sl_ldrawn⟩)
    (c_ldrawn : PySem.W.codeIn K cd_ldrawn "_law_drawn" = true)
    (q_ldrawn : PySem.W.keepIn K (.ref f_ldrawn) = true)
    (a_lshown : PySem.W.nsIn K mainGlobals "_law_shown" = some (some (.ref f_lshown)))
    (l_lshown : K.lookup f_lshown = some ⟨oc_lshown, od_lshown, .func (PySem.W.fnOf "_law_shown" "_law_shown" (defArgs t_lshown) (defBody t_lshown) (defScope t_lshown) .none kV_lshown dc_lshown pm_lshown an_lshown cd_lshown ct_lshown), sl_lshown⟩)
    (c_lshown : PySem.W.codeIn K cd_lshown "_law_shown" = true)
    (q_lshown : PySem.W.keepIn K (.ref f_lshown) = true)
    (a_lkinds : PySem.W.nsIn K mainGlobals "_law_kinds_right" = some (some (.ref f_lkinds)))
    (l_lkinds : K.lookup f_lkinds = some ⟨oc_lkinds, od_lkinds, .func (PySem.W.fnOf "_law_kinds_right" "_law_kinds_right" (defArgs t_lkinds) (defBody t_lkinds) (defScope t_lkinds) .none kV_lkinds dc_lkinds pm_lkinds an_lkinds cd_lkinds ct_lkinds), sl_lkinds⟩)
    (c_lkinds : PySem.W.codeIn K cd_lkinds "_law_kinds_right" = true)
    (q_lkinds : PySem.W.keepIn K (.ref f_lkinds) = true)
    (a_lundone : PySem.W.nsIn K mainGlobals "_law_undone_right" = some (some (.ref f_lundone)))
    (l_lundone : K.lookup f_lundone = some ⟨oc_lundone, od_lundone, .func (PySem.W.fnOf "_law_undone_right" "_law_undone_right" (defArgs t_lundone) (defBody t_lundone) (defScope t_lundone) .none kV_lundone dc_lundone pm_lundone an_lundone cd_lundone ct_lundone), sl_lundone⟩)
    (c_lundone : PySem.W.codeIn K cd_lundone "_law_undone_right" = true)
    (q_lundone : PySem.W.keepIn K (.ref f_lundone) = true)
    (a_lright : PySem.W.nsIn K mainGlobals "_law_right" = some (some (.ref f_lright)))
    (l_lright : K.lookup f_lright = some ⟨oc_lright, od_lright, .func (PySem.W.fnOf "_law_right" "_law_right" (defArgs t_lright) (defBody t_lright) (defScope t_lright) .none kV_lright dc_lright pm_lright an_lright cd_lright ct_lright), sl_lright⟩)
    (c_lright : PySem.W.codeIn K cd_lright "_law_right" = true)
    (q_lright : PySem.W.keepIn K (.ref f_lright) = true)
    (a_law : PySem.W.nsIn K mainGlobals "law" = some (some (.ref f_law)))
    (l_law : K.lookup f_law = some ⟨oc_law, od_law, .func (PySem.W.fnOf "law" "law" (defArgs t_law) (defBody t_law) (defScope t_law) .none kV_law dc_law pm_law an_law cd_law ct_law), sl_law⟩)
    (c_law : PySem.W.codeIn K cd_law "law" = true)
    (q_law : PySem.W.keepIn K (.ref f_law) = true)
    (mkC : PySem.W.makesIn K C = true)
    (kcC : PySem.W.keepIn K (.ref C) = true)
    (pgC : PySem.W.plainGet K C Str.empty = true)
    (hdC : PySem.W.hasDictIn K C = true)
    (poC : PySem.W.plainOver K C = true)
    (saC : PySem.W.findIn K (.ref C) "__setattr__" = some (some (.builtin "object.__setattr__")))
    (io1C : PySem.W.findIn K (.ref C) "__class__" = some (some (.builtin "object.__class__")))
    (io2C : PySem.W.mroIn K C (.type "object") = some true)
    (icC : PySem.W.isClsIn K C = true)
    (tyC : PySem.W.typeIn K (.ref C) = some (.type "type"))
    (suC_int : PySem.W.subIn K (.ref C) (.type "int") = some false)
    (suC_bool : PySem.W.subIn K (.ref C) (.type "bool") = some false)
    (suC_str : PySem.W.subIn K (.ref C) (.type "str") = some false)
    (suC_list : PySem.W.subIn K (.ref C) (.type "list") = some false)
    (suC_tuple : PySem.W.subIn K (.ref C) (.type "tuple") = some false)
    (sfC : PySem.W.selfFirst K C = true)
    (sbC_NoneType : PySem.W.subIn K (.type "NoneType") (.ref C) = some false)
    (sbC_bool : PySem.W.subIn K (.type "bool") (.ref C) = some false)
    (sbC_int : PySem.W.subIn K (.type "int") (.ref C) = some false)
    (sbC_str : PySem.W.subIn K (.type "str") (.ref C) = some false)
    (sbC_tuple : PySem.W.subIn K (.type "tuple") (.ref C) = some false)
    (sbC_list : PySem.W.subIn K (.type "list") (.ref C) = some false)
    (sbC_dict : PySem.W.subIn K (.type "dict") (.ref C) = some false)
    (neC : PySem.W.findIn K (.ref C) "__ne__" = some (some (.builtin "object.__ne__")))
    (mkE : PySem.W.makesIn K E = true)
    (kcE : PySem.W.keepIn K (.ref E) = true)
    (pgE : PySem.W.plainGet K E Str.empty = true)
    (hdE : PySem.W.hasDictIn K E = true)
    (poE : PySem.W.plainOver K E = true)
    (saE : PySem.W.findIn K (.ref E) "__setattr__" = some (some (.builtin "object.__setattr__")))
    (io1E : PySem.W.findIn K (.ref E) "__class__" = some (some (.builtin "object.__class__")))
    (io2E : PySem.W.mroIn K E (.type "object") = some true)
    (icE : PySem.W.isClsIn K E = true)
    (tyE : PySem.W.typeIn K (.ref E) = some (.type "type"))
    (suE_int : PySem.W.subIn K (.ref E) (.type "int") = some false)
    (suE_bool : PySem.W.subIn K (.ref E) (.type "bool") = some false)
    (suE_str : PySem.W.subIn K (.ref E) (.type "str") = some false)
    (suE_list : PySem.W.subIn K (.ref E) (.type "list") = some false)
    (suE_tuple : PySem.W.subIn K (.ref E) (.type "tuple") = some false)
    (sfE : PySem.W.selfFirst K E = true)
    (sbE_NoneType : PySem.W.subIn K (.type "NoneType") (.ref E) = some false)
    (sbE_bool : PySem.W.subIn K (.type "bool") (.ref E) = some false)
    (sbE_int : PySem.W.subIn K (.type "int") (.ref E) = some false)
    (sbE_str : PySem.W.subIn K (.type "str") (.ref E) = some false)
    (sbE_tuple : PySem.W.subIn K (.type "tuple") (.ref E) = some false)
    (sbE_list : PySem.W.subIn K (.type "list") (.ref E) = some false)
    (sbE_dict : PySem.W.subIn K (.type "dict") (.ref E) = some false)
    (neE : PySem.W.findIn K (.ref E) "__ne__" = some (some (.builtin "object.__ne__")))
    (na1 : PySem.W.findIn K (.ref C) "_top" = some none)
    (na2 : PySem.W.findIn K (.ref C) "_bottom" = some none)
    (en1 : PySem.W.findIn K (.ref E) "_first" = some none)
    (en2 : PySem.W.findIn K (.ref E) "_second" = some none)
    (nq : PySem.W.findIn K (.ref C) "is_pose" = some none)
    (sCE : PySem.W.subIn K (.ref C) (.ref E) = some false)
    (sEC : PySem.W.subIn K (.ref E) (.ref C) = some false)
    (io3 : PySem.W.specialIn K (.builtin "object.__class__") "__get__" = some (some (.builtin "getset_descriptor.__get__")))
    (io4 : PySem.W.takesIn K (.builtin "object.__class__") = some true)
    (j_add : PySem.W.findIn K (.type "int") "__add__" = some fo_add)
    (k_add : PySem.W.findIn K (.type "int") "__radd__" = some ro_add)
    (er_add : PySem.W.findIn K (.ref E) "__radd__" = some none)
    (j_sub : PySem.W.findIn K (.type "int") "__sub__" = some fo_sub)
    (k_sub : PySem.W.findIn K (.type "int") "__rsub__" = some ro_sub)
    (er_sub : PySem.W.findIn K (.ref E) "__rsub__" = some none)
    (j_mul : PySem.W.findIn K (.type "int") "__mul__" = some fo_mul)
    (k_mul : PySem.W.findIn K (.type "int") "__rmul__" = some ro_mul)
    (er_mul : PySem.W.findIn K (.ref E) "__rmul__" = some none)
    (z_isinstance : PySem.W.nsIn K mainGlobals "isinstance" = some none)
    (z_int : PySem.W.nsIn K mainGlobals "int" = some none)
    (z_bool : PySem.W.nsIn K mainGlobals "bool" = some none)
    (z_list : PySem.W.nsIn K mainGlobals "list" = some none)
    (z_tuple : PySem.W.nsIn K mainGlobals "tuple" = some none)
    (z_abs : PySem.W.nsIn K mainGlobals "abs" = some none)
    (z_str : PySem.W.nsIn K mainGlobals "str" = some none)
    (z_repr : PySem.W.nsIn K mainGlobals "repr" = some none)
    (z_all : PySem.W.nsIn K mainGlobals "all" = some none)
    (z_any : PySem.W.nsIn K mainGlobals "any" = some none)
    (z_zip : PySem.W.nsIn K mainGlobals "zip" = some none)
    (z_divmod : PySem.W.nsIn K mainGlobals "divmod" = some none)
    (z_len : PySem.W.nsIn K mainGlobals "len" = some none)
    (z_max : PySem.W.nsIn K mainGlobals "max" = some none)
    (z_min : PySem.W.nsIn K mainGlobals "min" = some none)
    (z_range : PySem.W.nsIn K mainGlobals "range" = some none)
    (z_sum : PySem.W.nsIn K mainGlobals "sum" = some none)
    (z_enumerate : PySem.W.nsIn K mainGlobals "enumerate" = some none)
    (z_gcd : PySem.W.nsIn K mainGlobals "gcd" = some (some (.builtin "math.gcd")))
    : ∃ fd : FuncData, (∀ (s : Shared) (v : Value), BindsTo s fd ⟨[v], []⟩ [("_law_script", v)]) ∧ ∀ base : Heap, K.In base → base.Ns mainGlobals mg → ∃ T, Run ⟨l.prog, w, K, mg, base, T, true⟩ 15 fa fd ["_law_script"] sLaw := by
  have e := hfa.symm.trans (PySem.W.mg_of X Gm a_law)
  cases e
  refine ⟨PySem.W.fnOf "law" "law" (defArgs t_law) (defBody t_law) (defScope t_law) .none kV_law dc_law pm_law an_law cd_law ct_law, fun s v => .of_eq rfl, fun base _ _ => ⟨⟨atE C E, fldE⟩, ?_⟩⟩
  have cl : Cls K C := ⟨pgC, hdC, poC, saC⟩
  have cl1 : Cls K E := ⟨pgE, hdE, poE, saE⟩
  have CE : C ≠ E := fun q => by
    subst q
    cases nq.symm.trans a_epose
  have two : ∀ c, c < 2 → c = 0 ∨ c = 1 := fun c h => by omega
  have io : IsOk ⟨l.prog, w, K, mg, base, ⟨atE C E, fldE⟩, true⟩ 2 := by
    refine ⟨fun c hc => ?_, io3, io4, fun c hc n hn => ?_, fun c hc n hn => ?_, fun c j hc hj => ?_⟩
    · rcases two c hc with rfl | rfl
      · exact ⟨cl, io1C, io2C⟩
      · exact ⟨cl1, io1E, io2E⟩
    · rcases two c hc with rfl | rfl
      · rcases hn with rfl | rfl | rfl | rfl | rfl
        · exact kit_rt (by decide +kernel) suC_int
        · exact kit_rt (by decide +kernel) suC_bool
        · exact kit_rt (by decide +kernel) suC_str
        · exact kit_rt (by decide +kernel) suC_list
        · exact kit_rt (by decide +kernel) suC_tuple
      · rcases hn with rfl | rfl | rfl | rfl | rfl
        · exact kit_rt (by decide +kernel) suE_int
        · exact kit_rt (by decide +kernel) suE_bool
        · exact kit_rt (by decide +kernel) suE_str
        · exact kit_rt (by decide +kernel) suE_list
        · exact kit_rt (by decide +kernel) suE_tuple
    · rcases two c hc with rfl | rfl
      · rcases hn with rfl | rfl | rfl | rfl | rfl | rfl | rfl
        · exact kit_tr icC tyC sbC_NoneType
        · exact kit_tr icC tyC sbC_bool
        · exact kit_tr icC tyC sbC_int
        · exact kit_tr icC tyC sbC_str
        · exact kit_tr icC tyC sbC_tuple
        · exact kit_tr icC tyC sbC_list
        · exact kit_tr icC tyC sbC_dict
      · rcases hn with rfl | rfl | rfl | rfl | rfl | rfl | rfl
        · exact kit_tr icE tyE sbE_NoneType
        · exact kit_tr icE tyE sbE_bool
        · exact kit_tr icE tyE sbE_int
        · exact kit_tr icE tyE sbE_str
        · exact kit_tr icE tyE sbE_tuple
        · exact kit_tr icE tyE sbE_list
        · exact kit_tr icE tyE sbE_dict
    · rcases two c hc with rfl | rfl <;> rcases two j hj with rfl | rfl
      · exact kit_rr
      · exact kit_r2 CE icE tyE sCE
      · exact kit_r2 (Ne.symm CE) icC tyC sEC
      · exact kit_rr
  have oe0 : OwnEq ⟨l.prog, w, K, mg, base, ⟨atE C E, fldE⟩, true⟩ 0 2 f_eq := by
    refine ⟨a_eq, neC, i_eq, io2C, fun n hn => ?_, fun j hj hn => ?_⟩
    · rcases hn with rfl | rfl | rfl | rfl | rfl | rfl | rfl
      · exact sbC_NoneType
      · exact sbC_bool
      · exact sbC_int
      · exact sbC_str
      · exact sbC_tuple
      · exact sbC_list
      · exact sbC_dict
    · rcases two j hj with rfl | rfl
      · exact absurd rfl hn
      · exact sEC
  have oe1 : OwnEq ⟨l.prog, w, K, mg, base, ⟨atE C E, fldE⟩, true⟩ 1 2 f_eeq := by
    refine ⟨a_eeq, neE, i_eeq, io2E, fun n hn => ?_, fun j hj hn => ?_⟩
    · rcases hn with rfl | rfl | rfl | rfl | rfl | rfl | rfl
      · exact sbE_NoneType
      · exact sbE_bool
      · exact sbE_int
      · exact sbE_str
      · exact sbE_tuple
      · exact sbE_list
      · exact sbE_dict
    · rcases two j hj with rfl | rfl
      · exact sCE
      · exact absurd rfl hn
  exact run13 (G := ⟨l.prog, w, K, mg, base, ⟨atE C E, fldE⟩, true⟩) rfl (F_isint := ⟨⟨_, _, _, _, _, _, _, _, _, _, rfl, l_isint, c_isint, .inl ⟨rfl, rfl⟩, .inl rfl⟩, q_isint⟩) (m_isint := PySem.W.mg_of X Gm a_isint) (F_init := ⟨⟨_, _, _, _, _, _, _, _, _, _, rfl, l_init, c_init, .inr ⟨by simp, T_init, oT_init, [Value.int 1 tk_init], nT_init, rfl, lT_init, eT_init, .cons ⟨tk_init, rfl⟩ .nil⟩, .inl rfl⟩, q_init⟩) (F_told := ⟨⟨_, _, _, _, _, _, _, _, _, _, rfl, l_told, c_told, .inl ⟨rfl, rfl⟩, .inl rfl⟩, q_told⟩) (m_told := PySem.W.mg_of X Gm a_told) (F_isnum := ⟨⟨_, _, _, _, _, _, _, _, _, _, rfl, l_isnum, c_isnum, .inl ⟨rfl, rfl⟩, .inl rfl⟩, q_isnum⟩) (m_isnum := PySem.W.mg_of X Gm a_isnum) (F_top := ⟨⟨_, _, _, _, _, _, _, _, _, _, rfl, l_top, c_top, .inl ⟨rfl, rfl⟩, .inl rfl⟩, q_top⟩) (P_top := ⟨a_top, g_top, tk_top, ⟨_, r_top'⟩⟩) (F_bottom := ⟨⟨_, _, _, _, _, _, _, _, _, _, rfl, l_bottom, c_bottom, .inl ⟨rfl, rfl⟩, .inl rfl⟩, q_bottom⟩) (P_bottom := ⟨a_bottom, g_bottom, tk_bottom, ⟨_, r_bottom'⟩⟩) (F_sign := ⟨⟨_, _, _, _, _, _, _, _, _, _, rfl, l_sign, c_sign, .inl ⟨rfl, rfl⟩, .inl rfl⟩, q_sign⟩) (P_sign := ⟨a_sign, g_sign, tk_sign, ⟨_, r_sign'⟩⟩) (F_over := ⟨⟨_, _, _, _, _, _, _, _, _, _, rfl, l_over, c_over, .inl ⟨rfl, rfl⟩, .inl rfl⟩, q_over⟩) (M_over := ⟨a_over, i_over, q_over⟩) (F_add := ⟨⟨_, _, _, _, _, _, _, _, _, _, rfl, l_add, c_add, .inl ⟨rfl, rfl⟩, .inl rfl⟩, q_add⟩) (M_add := ⟨a_add, i_add, q_add⟩) (F_radd := ⟨⟨_, _, _, _, _, _, _, _, _, _, rfl, l_radd, c_radd, .inl ⟨rfl, rfl⟩, .inl rfl⟩, q_radd⟩) (M_radd := ⟨a_radd, i_radd, q_radd⟩) (F_sub := ⟨⟨_, _, _, _, _, _, _, _, _, _, rfl, l_sub, c_sub, .inl ⟨rfl, rfl⟩, .inl rfl⟩, q_sub⟩) (M_sub := ⟨a_sub, i_sub, q_sub⟩) (F_rsub := ⟨⟨_, _, _, _, _, _, _, _, _, _, rfl, l_rsub, c_rsub, .inl ⟨rfl, rfl⟩, .inl rfl⟩, q_rsub⟩) (M_rsub := ⟨a_rsub, i_rsub, q_rsub⟩) (F_mul := ⟨⟨_, _, _, _, _, _, _, _, _, _, rfl, l_mul, c_mul, .inl ⟨rfl, rfl⟩, .inl rfl⟩, q_mul⟩) (M_mul := ⟨a_mul, i_mul, q_mul⟩) (F_rmul := ⟨⟨_, _, _, _, _, _, _, _, _, _, rfl, l_rmul, c_rmul, .inl ⟨rfl, rfl⟩, .inl rfl⟩, q_rmul⟩) (M_rmul := ⟨a_rmul, i_rmul, q_rmul⟩) (F_neg := ⟨⟨_, _, _, _, _, _, _, _, _, _, rfl, l_neg, c_neg, .inl ⟨rfl, rfl⟩, .inl rfl⟩, q_neg⟩) (M_neg := ⟨a_neg, i_neg, q_neg⟩) (F_eq := ⟨⟨_, _, _, _, _, _, _, _, _, _, rfl, l_eq, c_eq, .inl ⟨rfl, rfl⟩, .inl rfl⟩, q_eq⟩) (M_eq := ⟨a_eq, i_eq, q_eq⟩) (F_total := ⟨⟨_, _, _, _, _, _, _, _, _, _, rfl, l_total, c_total, .inl ⟨rfl, rfl⟩, .inl rfl⟩, q_total⟩) (mc := .type "type") (rd := ⟨rd1, rd2⟩) (P_total := ⟨a_total, ⟨_, r_total'⟩, i_total⟩) (F_str := ⟨⟨_, _, _, _, _, _, _, _, _, _, rfl, l_str, c_str, .inl ⟨rfl, rfl⟩, .inl rfl⟩, q_str⟩) (M_str := ⟨a_str, i_str, q_str⟩) (F_islist := ⟨⟨_, _, _, _, _, _, _, _, _, _, rfl, l_islist, c_islist, .inl ⟨rfl, rfl⟩, .inl rfl⟩, q_islist⟩) (m_islist := PySem.W.mg_of X Gm a_islist) (F_mirror := ⟨⟨_, _, _, _, _, _, _, _, _, _, rfl, l_mirror, c_mirror, .inl ⟨rfl, rfl⟩, .inl rfl⟩, q_mirror⟩) (m_mirror := PySem.W.mg_of X Gm a_mirror) (F_product := ⟨⟨_, _, _, _, _, _, _, _, _, _, rfl, l_product, c_product, .inl ⟨rfl, rfl⟩, .inl rfl⟩, q_product⟩) (m_product := PySem.W.mg_of X Gm a_product) (F_are := ⟨⟨_, _, _, _, _, _, _, _, _, _, rfl, l_are, c_are, .inl ⟨rfl, rfl⟩, .inl rfl⟩, q_are⟩) (m_are := PySem.W.mg_of X Gm a_are) (F_isfour := ⟨⟨_, _, _, _, _, _, _, _, _, _, rfl, l_isfour, c_isfour, .inl ⟨rfl, rfl⟩, .inl rfl⟩, q_isfour⟩) (m_isfour := PySem.W.mg_of X Gm a_isfour) (F_told4 := ⟨⟨_, _, _, _, _, _, _, _, _, _, rfl, l_told4, c_told4, .inl ⟨rfl, rfl⟩, .inl rfl⟩, q_told4⟩) (m_told4 := PySem.W.mg_of X Gm a_told4) (F_scaled := ⟨⟨_, _, _, _, _, _, _, _, _, _, rfl, l_scaled, c_scaled, .inl ⟨rfl, rfl⟩, .inl rfl⟩, q_scaled⟩) (m_scaled := PySem.W.mg_of X Gm a_scaled) (F_nought := ⟨⟨_, _, _, _, _, _, _, _, _, _, rfl, l_nought, c_nought, .inl ⟨rfl, rfl⟩, .inl rfl⟩, q_nought⟩) (m_nought := PySem.W.mg_of X Gm a_nought) (F_dot := ⟨⟨_, _, _, _, _, _, _, _, _, _, rfl, l_dot, c_dot, .inl ⟨rfl, rfl⟩, .inl rfl⟩, q_dot⟩) (m_dot := PySem.W.mg_of X Gm a_dot) (F_undone := ⟨⟨_, _, _, _, _, _, _, _, _, _, rfl, l_undone, c_undone, .inl ⟨rfl, rfl⟩, .inl rfl⟩, q_undone⟩) (m_undone := PySem.W.mg_of X Gm a_undone) (F_added := ⟨⟨_, _, _, _, _, _, _, _, _, _, rfl, l_added, c_added, .inl ⟨rfl, rfl⟩, .inl rfl⟩, q_added⟩) (m_added := PySem.W.mg_of X Gm a_added) (F_shownf := ⟨⟨_, _, _, _, _, _, _, _, _, _, rfl, l_shownf, c_shownf, .inl ⟨rfl, rfl⟩, .inl rfl⟩, q_shownf⟩) (m_shownf := PySem.W.mg_of X Gm a_shownf) (F_check := ⟨⟨_, _, _, _, _, _, _, _, _, _, rfl, l_check, c_check, .inl ⟨rfl, rfl⟩, .inl rfl⟩, q_check⟩) (m_check := PySem.W.mg_of X Gm a_check) (F_einit := ⟨⟨_, _, _, _, _, _, _, _, _, _, rfl, l_einit, c_einit, .inr ⟨by simp, T_einit, oT_einit, [Value.ref t4], nT_einit, rfl, lT_einit, eT_einit, .cons rfl .nil⟩, .inl rfl⟩, q_einit⟩) (F_efirst := ⟨⟨_, _, _, _, _, _, _, _, _, _, rfl, l_efirst, c_efirst, .inl ⟨rfl, rfl⟩, .inl rfl⟩, q_efirst⟩) (M_efirst := ⟨a_efirst, i_efirst, q_efirst⟩) (F_esecond := ⟨⟨_, _, _, _, _, _, _, _, _, _, rfl, l_esecond, c_esecond, .inl ⟨rfl, rfl⟩, .inl rfl⟩, q_esecond⟩) (M_esecond := ⟨a_esecond, i_esecond, q_esecond⟩) (F_emirror := ⟨⟨_, _, _, _, _, _, _, _, _, _, rfl, l_emirror, c_emirror, .inl ⟨rfl, rfl⟩, .inl rfl⟩, q_emirror⟩) (M_emirror := ⟨a_emirror, i_emirror, q_emirror⟩) (F_enorm := ⟨⟨_, _, _, _, _, _, _, _, _, _, rfl, l_enorm, c_enorm, .inl ⟨rfl, rfl⟩, .inl rfl⟩, q_enorm⟩) (M_enorm := ⟨a_enorm, i_enorm, q_enorm⟩) (F_etimes := ⟨⟨_, _, _, _, _, _, _, _, _, _, rfl, l_etimes, c_etimes, .inl ⟨rfl, rfl⟩, .inl rfl⟩, q_etimes⟩) (M_etimes := ⟨a_etimes, i_etimes, q_etimes⟩) (F_eadd := ⟨⟨_, _, _, _, _, _, _, _, _, _, rfl, l_eadd, c_eadd, .inl ⟨rfl, rfl⟩, .inl rfl⟩, q_eadd⟩) (M_eadd := ⟨a_eadd, i_eadd, q_eadd⟩) (F_eneg := ⟨⟨_, _, _, _, _, _, _, _, _, _, rfl, l_eneg, c_eneg, .inl ⟨rfl, rfl⟩, .inl rfl⟩, q_eneg⟩) (M_eneg := ⟨a_eneg, i_eneg, q_eneg⟩) (F_esub := ⟨⟨_, _, _, _, _, _, _, _, _, _, rfl, l_esub, c_esub, .inl ⟨rfl, rfl⟩, .inl rfl⟩, q_esub⟩) (M_esub := ⟨a_esub, i_esub, q_esub⟩) (F_emul := ⟨⟨_, _, _, _, _, _, _, _, _, _, rfl, l_emul, c_emul, .inl ⟨rfl, rfl⟩, .inl rfl⟩, q_emul⟩) (M_emul := ⟨a_emul, i_emul, q_emul⟩) (F_eundone := ⟨⟨_, _, _, _, _, _, _, _, _, _, rfl, l_eundone, c_eundone, .inl ⟨rfl, rfl⟩, .inl rfl⟩, q_eundone⟩) (M_eundone := ⟨a_eundone, i_eundone, q_eundone⟩) (F_epose := ⟨⟨_, _, _, _, _, _, _, _, _, _, rfl, l_epose, c_epose, .inl ⟨rfl, rfl⟩, .inl rfl⟩, q_epose⟩) (P_epose := ⟨a_epose, g_epose, tk_epose, ⟨_, r_epose'⟩⟩) (F_ehinge := ⟨⟨_, _, _, _, _, _, _, _, _, _, rfl, l_ehinge, c_ehinge, .inl ⟨rfl, rfl⟩, .inl rfl⟩, q_ehinge⟩) (P_ehinge := ⟨a_ehinge, g_ehinge, tk_ehinge, ⟨_, r_ehinge'⟩⟩) (F_eeq := ⟨⟨_, _, _, _, _, _, _, _, _, _, rfl, l_eeq, c_eeq, .inl ⟨rfl, rfl⟩, .inl rfl⟩, q_eeq⟩) (M_eeq := ⟨a_eeq, i_eeq, q_eeq⟩) (F_erepr := ⟨⟨_, _, _, _, _, _, _, _, _, _, rfl, l_erepr, c_erepr, .inl ⟨rfl, rfl⟩, .inl rfl⟩, q_erepr⟩) (M_erepr := ⟨a_erepr, i_erepr, q_erepr⟩) (F_draw := ⟨⟨_, _, _, _, _, _, _, _, _, _, rfl, l_draw, c_draw, .inl ⟨rfl, rfl⟩, .inl rfl⟩, q_draw⟩) (m_draw := PySem.W.mg_of X Gm a_draw) (F_lpot := ⟨⟨_, _, _, _, _, _, _, _, _, _, rfl, l_lpot, c_lpot, .inl ⟨rfl, rfl⟩, .inl rfl⟩, q_lpot⟩) (m_lpot := PySem.W.mg_of X Gm a_lpot) (F_lfour := ⟨⟨_, _, _, _, _, _, _, _, _, _, rfl, l_lfour, c_lfour, .inl ⟨rfl, rfl⟩, .inl rfl⟩, q_lfour⟩) (m_lfour := PySem.W.mg_of X Gm a_lfour) (F_lmirror := ⟨⟨_, _, _, _, _, _, _, _, _, _, rfl, l_lmirror, c_lmirror, .inl ⟨rfl, rfl⟩, .inl rfl⟩, q_lmirror⟩) (m_lmirror := PySem.W.mg_of X Gm a_lmirror) (F_leight := ⟨⟨_, _, _, _, _, _, _, _, _, _, rfl, l_leight, c_leight, .inl ⟨rfl, rfl⟩, .inl rfl⟩, q_leight⟩) (m_leight := PySem.W.mg_of X Gm a_leight) (F_ldot := ⟨⟨_, _, _, _, _, _, _, _, _, _, rfl, l_ldot, c_ldot, .inl ⟨rfl, rfl⟩, .inl rfl⟩, q_ldot⟩) (m_ldot := PySem.W.mg_of X Gm a_ldot) (F_lcross := ⟨⟨_, _, _, _, _, _, _, _, _, _, rfl, l_lcross, c_lcross, .inl ⟨rfl, rfl⟩, .inl rfl⟩, q_lcross⟩) (m_lcross := PySem.W.mg_of X Gm a_lcross) (F_lis := ⟨⟨_, _, _, _, _, _, _, _, _, _, rfl, l_lis, c_lis, .inl ⟨rfl, rfl⟩, .inl rfl⟩, q_lis⟩) (m_lis := PySem.W.mg_of X Gm a_lis) (F_passed := ⟨⟨_, _, _, _, _, _, _, _, _, _, rfl, l_passed, c_passed, .inr ⟨by simp, T_passed, oT_passed, [Value.int 1 tk_passed], nT_passed, rfl, lT_passed, eT_passed, .cons ⟨tk_passed, rfl⟩ .nil⟩, .inl rfl⟩, q_passed⟩) (m_passed := PySem.W.mg_of X Gm a_passed) (F_lrow := ⟨⟨_, _, _, _, _, _, _, _, _, _, rfl, l_lrow, c_lrow, .inl ⟨rfl, rfl⟩, .inl rfl⟩, q_lrow⟩) (m_lrow := PySem.W.mg_of X Gm a_lrow) (F_lfilled := ⟨⟨_, _, _, _, _, _, _, _, _, _, rfl, l_lfilled, c_lfilled, .inl ⟨rfl, rfl⟩, .inl rfl⟩, q_lfilled⟩) (m_lfilled := PySem.W.mg_of X Gm a_lfilled) (F_lpose := ⟨⟨_, _, _, _, _, _, _, _, _, _, rfl, l_lpose, c_lpose, .inl ⟨rfl, rfl⟩, .inl rfl⟩, q_lpose⟩) (m_lpose := PySem.W.mg_of X Gm a_lpose) (F_lasE := ⟨⟨_, _, _, _, _, _, _, _, _, _, rfl, l_lasE, c_lasE, .inr ⟨by simp, T_lasE, oT_lasE, [Value.int 1 tk_lasE], nT_lasE, rfl, lT_lasE, eT_lasE, .cons ⟨tk_lasE, rfl⟩ .nil⟩, .inl rfl⟩, q_lasE⟩) (m_lasE := PySem.W.mg_of X Gm a_lasE) (F_lline := ⟨⟨_, _, _, _, _, _, _, _, _, _, rfl, l_lline, c_lline, .inl ⟨rfl, rfl⟩, .inl rfl⟩, q_lline⟩) (m_lline := PySem.W.mg_of X Gm a_lline) (F_lsame := ⟨⟨_, _, _, _, _, _, _, _, _, _, rfl, l_lsame, c_lsame, .inl ⟨rfl, rfl⟩, .inl rfl⟩, q_lsame⟩) (m_lsame := PySem.W.mg_of X Gm a_lsame) (F_ldrawn := ⟨⟨_, _, _, _, _, _, _, _, _, _, rfl, l_ldrawn, c_ldrawn, .inl ⟨rfl, rfl⟩, .inl rfl⟩, q_ldrawn⟩) (m_ldrawn := PySem.W.mg_of X Gm a_ldrawn) (F_lshown := ⟨⟨_, _, _, _, _, _, _, _, _, _, rfl, l_lshown, c_lshown, .inl ⟨rfl, rfl⟩, .inl rfl⟩, q_lshown⟩) (m_lshown := PySem.W.mg_of X Gm a_lshown) (F_lkinds := ⟨⟨_, _, _, _, _, _, _, _, _, _, rfl, l_lkinds, c_lkinds, .inl ⟨rfl, rfl⟩, .inl rfl⟩, q_lkinds⟩) (m_lkinds := PySem.W.mg_of X Gm a_lkinds) (F_lundone := ⟨⟨_, _, _, _, _, _, _, _, _, _, rfl, l_lundone, c_lundone, .inl ⟨rfl, rfl⟩, .inl rfl⟩, q_lundone⟩) (m_lundone := PySem.W.mg_of X Gm a_lundone) (F_lright := ⟨⟨_, _, _, _, _, _, _, _, _, _, rfl, l_lright, c_lright, .inl ⟨rfl, rfl⟩, .inl rfl⟩, q_lright⟩) (m_lright := PySem.W.mg_of X Gm a_lright) (F_law := ⟨⟨_, _, _, _, _, _, _, _, _, _, rfl, l_law, c_law, .inl ⟨rfl, rfl⟩, .inl rfl⟩, q_law⟩) (m_law := PySem.W.mg_of X Gm a_law) (hT4 := fun H1 => .inr ⟨ot4, _, n4, lT4, eU4, eT4, by rw [sizeLine_eq]; exact (Nat.le_of_ble_eq_true rfl : 4 ≤ 16777216), .cons ⟨ta, rfl⟩ (.cons ⟨tb, rfl⟩ (.cons ⟨tc, rfl⟩ (.cons ⟨td, rfl⟩ .nil)))⟩) (mC := PySem.W.mg_of X Gm aC) (mE := PySem.W.mg_of X Gm aE) (Mk0 := ⟨mkC, a_init, i_init, kcC⟩) (Mk1 := ⟨mkE, a_einit, i_einit, kcE⟩) (cl := cl) (cl1 := cl1) (na1 := na1) (na2 := na2) (en1 := en1) (en2 := en2) (hfl := rfl) (io := io) (oe := oe0) (oe1 := oe1) (oo_add := ⟨sfC, a_add, i_add, ⟨_, a_radd, .inr ⟨_, rfl⟩⟩, ⟨_, j_add⟩, ⟨_, k_add⟩, sbC_int⟩) (or_add := ⟨sfC, a_add, a_radd, i_radd, suC_int, rfl, PySem.F.slot_int_add, PySem.F.entry_int_add, fun i t v => PySem.F.args_int_add_2 _ _, ⟨_, _, rfl⟩⟩) (oo_sub := ⟨sfC, a_sub, i_sub, ⟨_, a_rsub, .inr ⟨_, rfl⟩⟩, ⟨_, j_sub⟩, ⟨_, k_sub⟩, sbC_int⟩) (or_sub := ⟨sfC, a_sub, a_rsub, i_rsub, suC_int, rfl, PySem.F.slot_int_sub, PySem.F.entry_int_sub, fun i t v => PySem.F.args_int_sub_2 _ _, ⟨_, _, rfl⟩⟩) (oo_mul := ⟨sfC, a_mul, i_mul, ⟨_, a_rmul, .inr ⟨_, rfl⟩⟩, ⟨_, j_mul⟩, ⟨_, k_mul⟩, sbC_int⟩) (or_mul := ⟨sfC, a_mul, a_rmul, i_rmul, suC_int, rfl, PySem.F.slot_int_mul, PySem.F.entry_int_mul, fun i t v => PySem.F.args_int_mul_2 _ _, ⟨_, _, rfl⟩⟩) (oo_eadd := ⟨sfE, a_eadd, i_eadd, ⟨_, er_add, .inl rfl⟩, ⟨_, j_add⟩, ⟨_, k_add⟩, sbE_int⟩) (oo_esub := ⟨sfE, a_esub, i_esub, ⟨_, er_sub, .inl rfl⟩, ⟨_, j_sub⟩, ⟨_, k_sub⟩, sbE_int⟩) (oo_emul := ⟨sfE, a_emul, i_emul, ⟨_, er_mul, .inl rfl⟩, ⟨_, j_mul⟩, ⟨_, k_mul⟩, sbE_int⟩) (on := ⟨a_neg, i_neg⟩) (on1 := ⟨a_eneg, i_eneg⟩) (os := str_rat a_str i_str) (ore := str_e8 (e8t_of rfl) a_erepr i_erepr) (z_isinstance := PySem.W.mg_none_of X Gm z_isinstance) (z_int := PySem.W.mg_none_of X Gm z_int) (z_bool := PySem.W.mg_none_of X Gm z_bool) (z_list := PySem.W.mg_none_of X Gm z_list) (z_tuple := PySem.W.mg_none_of X Gm z_tuple) (z_abs := PySem.W.mg_none_of X Gm z_abs) (z_str := PySem.W.mg_none_of X Gm z_str) (z_repr := PySem.W.mg_none_of X Gm z_repr) (z_all := PySem.W.mg_none_of X Gm z_all) (z_any := PySem.W.mg_none_of X Gm z_any) (z_zip := PySem.W.mg_none_of X Gm z_zip) (z_divmod := PySem.W.mg_none_of X Gm z_divmod) (z_len := PySem.W.mg_none_of X Gm z_len) (z_max := PySem.W.mg_none_of X Gm z_max) (z_min := PySem.W.mg_none_of X Gm z_min) (z_range := PySem.W.mg_none_of X Gm z_range) (z_sum := PySem.W.mg_none_of X Gm z_sum) (z_enumerate := PySem.W.mg_none_of X Gm z_enumerate) (z_gcd := PySem.W.mg_of X Gm z_gcd)
end Hw
namespace Hw
open PySem L2
theorem room_law : Room 15 callerA := ⟨rfl, by decide, by decide⟩
end Hw
open PySem.W PySem PyProof.Rows
set_option maxRecDepth 200000 in
set_option maxHeartbeats 0 in
theorem PySem.Challenge.cw_hingerows_k13_whole_eights_holds : PySem.Challenge.rw_hingerows_k13_whole_eights.Holds := by
  w_on
  o_law
  k_head
  (case hw => w_witness2)
  k_fill
  refine Hw.hw_walk (l := PySem.Challenge.rw_hingerows_k13_whole_eights) (k := 15) (x := "_law_script") rfl rfl Hw.room_law (fun w h Y => PySem.W.kIn_of Y) ?F
  case F =>
    intro w mg fa h KX G hmg
    refine' Hw.all_mk KX G hmg ?aC ?aE ?a_isint ?l_isint ?c_isint ?q_isint ?a_init ?i_init ?l_init ?c_init ?q_init ?lT_init ?eT_init ?a_told ?l_told ?c_told ?q_told ?a_isnum ?l_isnum ?c_isnum ?q_isnum ?a_top ?g_top ?tk_top ?r_top' ?l_top ?c_top ?q_top ?a_bottom ?g_bottom ?tk_bottom ?r_bottom' ?l_bottom ?c_bottom ?q_bottom ?a_sign ?g_sign ?tk_sign ?r_sign' ?l_sign ?c_sign ?q_sign ?a_over ?i_over ?l_over ?c_over ?q_over ?a_add ?i_add ?l_add ?c_add ?q_add ?a_radd ?i_radd ?l_radd ?c_radd ?q_radd ?a_sub ?i_sub ?l_sub ?c_sub ?q_sub ?a_rsub ?i_rsub ?l_rsub ?c_rsub ?q_rsub ?a_mul ?i_mul ?l_mul ?c_mul ?q_mul ?a_rmul ?i_rmul ?l_rmul ?c_rmul ?q_rmul ?a_neg ?i_neg ?l_neg ?c_neg ?q_neg ?a_eq ?i_eq ?l_eq ?c_eq ?q_eq ?rd1 ?rd2 ?a_total ?r_total' ?i_total ?l_total ?c_total ?q_total ?a_str ?i_str ?l_str ?c_str ?q_str ?a_islist ?l_islist ?c_islist ?q_islist ?a_mirror ?l_mirror ?c_mirror ?q_mirror ?a_product ?l_product ?c_product ?q_product ?a_are ?l_are ?c_are ?q_are ?a_isfour ?l_isfour ?c_isfour ?q_isfour ?a_told4 ?l_told4 ?c_told4 ?q_told4 ?a_scaled ?l_scaled ?c_scaled ?q_scaled ?a_nought ?l_nought ?c_nought ?q_nought ?a_dot ?l_dot ?c_dot ?q_dot ?a_undone ?l_undone ?c_undone ?q_undone ?a_added ?l_added ?c_added ?q_added ?a_shownf ?l_shownf ?c_shownf ?q_shownf ?a_check ?l_check ?c_check ?q_check ?a_einit ?i_einit ?l_einit ?c_einit ?q_einit ?lT_einit ?eT_einit ?lT4 ?eT4 ?eU4 ?a_efirst ?i_efirst ?l_efirst ?c_efirst ?q_efirst ?a_esecond ?i_esecond ?l_esecond ?c_esecond ?q_esecond ?a_emirror ?i_emirror ?l_emirror ?c_emirror ?q_emirror ?a_enorm ?i_enorm ?l_enorm ?c_enorm ?q_enorm ?a_etimes ?i_etimes ?l_etimes ?c_etimes ?q_etimes ?a_eadd ?i_eadd ?l_eadd ?c_eadd ?q_eadd ?a_eneg ?i_eneg ?l_eneg ?c_eneg ?q_eneg ?a_esub ?i_esub ?l_esub ?c_esub ?q_esub ?a_emul ?i_emul ?l_emul ?c_emul ?q_emul ?a_eundone ?i_eundone ?l_eundone ?c_eundone ?q_eundone ?a_epose ?g_epose ?tk_epose ?r_epose' ?l_epose ?c_epose ?q_epose ?a_ehinge ?g_ehinge ?tk_ehinge ?r_ehinge' ?l_ehinge ?c_ehinge ?q_ehinge ?a_eeq ?i_eeq ?l_eeq ?c_eeq ?q_eeq ?a_erepr ?i_erepr ?l_erepr ?c_erepr ?q_erepr ?a_draw ?l_draw ?c_draw ?q_draw ?a_lpot ?l_lpot ?c_lpot ?q_lpot ?a_lfour ?l_lfour ?c_lfour ?q_lfour ?a_lmirror ?l_lmirror ?c_lmirror ?q_lmirror ?a_leight ?l_leight ?c_leight ?q_leight ?a_ldot ?l_ldot ?c_ldot ?q_ldot ?a_lcross ?l_lcross ?c_lcross ?q_lcross ?a_lis ?l_lis ?c_lis ?q_lis ?a_passed ?l_passed ?c_passed ?q_passed ?lT_passed ?eT_passed ?a_lrow ?l_lrow ?c_lrow ?q_lrow ?a_lfilled ?l_lfilled ?c_lfilled ?q_lfilled ?a_lpose ?l_lpose ?c_lpose ?q_lpose ?a_lasE ?l_lasE ?c_lasE ?q_lasE ?lT_lasE ?eT_lasE ?a_lline ?l_lline ?c_lline ?q_lline ?a_lsame ?l_lsame ?c_lsame ?q_lsame ?a_ldrawn ?l_ldrawn ?c_ldrawn ?q_ldrawn ?a_lshown ?l_lshown ?c_lshown ?q_lshown ?a_lkinds ?l_lkinds ?c_lkinds ?q_lkinds ?a_lundone ?l_lundone ?c_lundone ?q_lundone ?a_lright ?l_lright ?c_lright ?q_lright ?a_law ?l_law ?c_law ?q_law ?mkC ?kcC ?pgC ?hdC ?poC ?saC ?io1C ?io2C ?icC ?tyC ?suC_int ?suC_bool ?suC_str ?suC_list ?suC_tuple ?sfC ?sbC_NoneType ?sbC_bool ?sbC_int ?sbC_str ?sbC_tuple ?sbC_list ?sbC_dict ?neC ?mkE ?kcE ?pgE ?hdE ?poE ?saE ?io1E ?io2E ?icE ?tyE ?suE_int ?suE_bool ?suE_str ?suE_list ?suE_tuple ?sfE ?sbE_NoneType ?sbE_bool ?sbE_int ?sbE_str ?sbE_tuple ?sbE_list ?sbE_dict ?neE ?na1 ?na2 ?en1 ?en2 ?nq ?sCE ?sEC ?io3 ?io4 ?j_add ?k_add ?er_add ?j_sub ?k_sub ?er_sub ?j_mul ?k_mul ?er_mul ?z_isinstance ?z_int ?z_bool ?z_list ?z_tuple ?z_abs ?z_str ?z_repr ?z_all ?z_any ?z_zip ?z_divmod ?z_len ?z_max ?z_min ?z_range ?z_sum ?z_enumerate ?z_gcd
    (case aC => k_is)
    (case aE => k_is)
    (case a_isint => k_is)
    (case l_isint => k_is)
    (case c_isint => k_is)
    (case q_isint => k_is)
    (case a_init => k_is)
    (case i_init => k_is)
    (case l_init => k_is)
    (case c_init => k_is)
    (case q_init => k_is)
    (case lT_init => k_is)
    (case eT_init => exact rfl)
    (case a_told => k_is)
    (case l_told => k_is)
    (case c_told => k_is)
    (case q_told => k_is)
    (case a_isnum => k_is)
    (case l_isnum => k_is)
    (case c_isnum => k_is)
    (case q_isnum => k_is)
    (case a_top => k_is)
    (case g_top => k_is)
    (case tk_top => k_is)
    (case r_top' => k_is)
    (case l_top => k_is)
    (case c_top => k_is)
    (case q_top => k_is)
    (case a_bottom => k_is)
    (case g_bottom => k_is)
    (case tk_bottom => k_is)
    (case r_bottom' => k_is)
    (case l_bottom => k_is)
    (case c_bottom => k_is)
    (case q_bottom => k_is)
    (case a_sign => k_is)
    (case g_sign => k_is)
    (case tk_sign => k_is)
    (case r_sign' => k_is)
    (case l_sign => k_is)
    (case c_sign => k_is)
    (case q_sign => k_is)
    (case a_over => k_is)
    (case i_over => k_is)
    (case l_over => k_is)
    (case c_over => k_is)
    (case q_over => k_is)
    (case a_add => k_is)
    (case i_add => k_is)
    (case l_add => k_is)
    (case c_add => k_is)
    (case q_add => k_is)
    (case a_radd => k_is)
    (case i_radd => k_is)
    (case l_radd => k_is)
    (case c_radd => k_is)
    (case q_radd => k_is)
    (case a_sub => k_is)
    (case i_sub => k_is)
    (case l_sub => k_is)
    (case c_sub => k_is)
    (case q_sub => k_is)
    (case a_rsub => k_is)
    (case i_rsub => k_is)
    (case l_rsub => k_is)
    (case c_rsub => k_is)
    (case q_rsub => k_is)
    (case a_mul => k_is)
    (case i_mul => k_is)
    (case l_mul => k_is)
    (case c_mul => k_is)
    (case q_mul => k_is)
    (case a_rmul => k_is)
    (case i_rmul => k_is)
    (case l_rmul => k_is)
    (case c_rmul => k_is)
    (case q_rmul => k_is)
    (case a_neg => k_is)
    (case i_neg => k_is)
    (case l_neg => k_is)
    (case c_neg => k_is)
    (case q_neg => k_is)
    (case a_eq => k_is)
    (case i_eq => k_is)
    (case l_eq => k_is)
    (case c_eq => k_is)
    (case q_eq => k_is)
    (case rd1 => k_is)
    (case rd2 => k_is)
    (case a_total => k_is)
    (case r_total' => k_is)
    (case i_total => k_is)
    (case l_total => k_is)
    (case c_total => k_is)
    (case q_total => k_is)
    (case a_str => k_is)
    (case i_str => k_is)
    (case l_str => k_is)
    (case c_str => k_is)
    (case q_str => k_is)
    (case a_islist => k_is)
    (case l_islist => k_is)
    (case c_islist => k_is)
    (case q_islist => k_is)
    (case a_mirror => k_is)
    (case l_mirror => k_is)
    (case c_mirror => k_is)
    (case q_mirror => k_is)
    (case a_product => k_is)
    (case l_product => k_is)
    (case c_product => k_is)
    (case q_product => k_is)
    (case a_are => k_is)
    (case l_are => k_is)
    (case c_are => k_is)
    (case q_are => k_is)
    (case a_isfour => k_is)
    (case l_isfour => k_is)
    (case c_isfour => k_is)
    (case q_isfour => k_is)
    (case a_told4 => k_is)
    (case l_told4 => k_is)
    (case c_told4 => k_is)
    (case q_told4 => k_is)
    (case a_scaled => k_is)
    (case l_scaled => k_is)
    (case c_scaled => k_is)
    (case q_scaled => k_is)
    (case a_nought => k_is)
    (case l_nought => k_is)
    (case c_nought => k_is)
    (case q_nought => k_is)
    (case a_dot => k_is)
    (case l_dot => k_is)
    (case c_dot => k_is)
    (case q_dot => k_is)
    (case a_undone => k_is)
    (case l_undone => k_is)
    (case c_undone => k_is)
    (case q_undone => k_is)
    (case a_added => k_is)
    (case l_added => k_is)
    (case c_added => k_is)
    (case q_added => k_is)
    (case a_shownf => k_is)
    (case l_shownf => k_is)
    (case c_shownf => k_is)
    (case q_shownf => k_is)
    (case a_check => k_is)
    (case l_check => k_is)
    (case c_check => k_is)
    (case q_check => k_is)
    (case a_einit => k_is)
    (case i_einit => k_is)
    (case l_einit => k_is)
    (case c_einit => k_is)
    (case q_einit => k_is)
    (case lT_einit => k_is)
    (case eT_einit => exact rfl)
    (case lT4 => k_is)
    (case eT4 => exact rfl)
    (case eU4 => exact rfl)
    (case a_efirst => k_is)
    (case i_efirst => k_is)
    (case l_efirst => k_is)
    (case c_efirst => k_is)
    (case q_efirst => k_is)
    (case a_esecond => k_is)
    (case i_esecond => k_is)
    (case l_esecond => k_is)
    (case c_esecond => k_is)
    (case q_esecond => k_is)
    (case a_emirror => k_is)
    (case i_emirror => k_is)
    (case l_emirror => k_is)
    (case c_emirror => k_is)
    (case q_emirror => k_is)
    (case a_enorm => k_is)
    (case i_enorm => k_is)
    (case l_enorm => k_is)
    (case c_enorm => k_is)
    (case q_enorm => k_is)
    (case a_etimes => k_is)
    (case i_etimes => k_is)
    (case l_etimes => k_is)
    (case c_etimes => k_is)
    (case q_etimes => k_is)
    (case a_eadd => k_is)
    (case i_eadd => k_is)
    (case l_eadd => k_is)
    (case c_eadd => k_is)
    (case q_eadd => k_is)
    (case a_eneg => k_is)
    (case i_eneg => k_is)
    (case l_eneg => k_is)
    (case c_eneg => k_is)
    (case q_eneg => k_is)
    (case a_esub => k_is)
    (case i_esub => k_is)
    (case l_esub => k_is)
    (case c_esub => k_is)
    (case q_esub => k_is)
    (case a_emul => k_is)
    (case i_emul => k_is)
    (case l_emul => k_is)
    (case c_emul => k_is)
    (case q_emul => k_is)
    (case a_eundone => k_is)
    (case i_eundone => k_is)
    (case l_eundone => k_is)
    (case c_eundone => k_is)
    (case q_eundone => k_is)
    (case a_epose => k_is)
    (case g_epose => k_is)
    (case tk_epose => k_is)
    (case r_epose' => k_is)
    (case l_epose => k_is)
    (case c_epose => k_is)
    (case q_epose => k_is)
    (case a_ehinge => k_is)
    (case g_ehinge => k_is)
    (case tk_ehinge => k_is)
    (case r_ehinge' => k_is)
    (case l_ehinge => k_is)
    (case c_ehinge => k_is)
    (case q_ehinge => k_is)
    (case a_eeq => k_is)
    (case i_eeq => k_is)
    (case l_eeq => k_is)
    (case c_eeq => k_is)
    (case q_eeq => k_is)
    (case a_erepr => k_is)
    (case i_erepr => k_is)
    (case l_erepr => k_is)
    (case c_erepr => k_is)
    (case q_erepr => k_is)
    (case a_draw => k_is)
    (case l_draw => k_is)
    (case c_draw => k_is)
    (case q_draw => k_is)
    (case a_lpot => k_is)
    (case l_lpot => k_is)
    (case c_lpot => k_is)
    (case q_lpot => k_is)
    (case a_lfour => k_is)
    (case l_lfour => k_is)
    (case c_lfour => k_is)
    (case q_lfour => k_is)
    (case a_lmirror => k_is)
    (case l_lmirror => k_is)
    (case c_lmirror => k_is)
    (case q_lmirror => k_is)
    (case a_leight => k_is)
    (case l_leight => k_is)
    (case c_leight => k_is)
    (case q_leight => k_is)
    (case a_ldot => k_is)
    (case l_ldot => k_is)
    (case c_ldot => k_is)
    (case q_ldot => k_is)
    (case a_lcross => k_is)
    (case l_lcross => k_is)
    (case c_lcross => k_is)
    (case q_lcross => k_is)
    (case a_lis => k_is)
    (case l_lis => k_is)
    (case c_lis => k_is)
    (case q_lis => k_is)
    (case a_passed => k_is)
    (case l_passed => k_is)
    (case c_passed => k_is)
    (case q_passed => k_is)
    (case lT_passed => k_is)
    (case eT_passed => exact rfl)
    (case a_lrow => k_is)
    (case l_lrow => k_is)
    (case c_lrow => k_is)
    (case q_lrow => k_is)
    (case a_lfilled => k_is)
    (case l_lfilled => k_is)
    (case c_lfilled => k_is)
    (case q_lfilled => k_is)
    (case a_lpose => k_is)
    (case l_lpose => k_is)
    (case c_lpose => k_is)
    (case q_lpose => k_is)
    (case a_lasE => k_is)
    (case l_lasE => k_is)
    (case c_lasE => k_is)
    (case q_lasE => k_is)
    (case lT_lasE => k_is)
    (case eT_lasE => exact rfl)
    (case a_lline => k_is)
    (case l_lline => k_is)
    (case c_lline => k_is)
    (case q_lline => k_is)
    (case a_lsame => k_is)
    (case l_lsame => k_is)
    (case c_lsame => k_is)
    (case q_lsame => k_is)
    (case a_ldrawn => k_is)
    (case l_ldrawn => k_is)
    (case c_ldrawn => k_is)
    (case q_ldrawn => k_is)
    (case a_lshown => k_is)
    (case l_lshown => k_is)
    (case c_lshown => k_is)
    (case q_lshown => k_is)
    (case a_lkinds => k_is)
    (case l_lkinds => k_is)
    (case c_lkinds => k_is)
    (case q_lkinds => k_is)
    (case a_lundone => k_is)
    (case l_lundone => k_is)
    (case c_lundone => k_is)
    (case q_lundone => k_is)
    (case a_lright => k_is)
    (case l_lright => k_is)
    (case c_lright => k_is)
    (case q_lright => k_is)
    (case a_law => k_is)
    (case l_law => k_is)
    (case c_law => k_is)
    (case q_law => k_is)
    (case mkC => k_is)
    (case kcC => k_is)
    (case pgC => k_is)
    (case hdC => k_is)
    (case poC => k_is)
    (case saC => k_is)
    (case io1C => k_is)
    (case io2C => k_is)
    (case icC => k_is)
    (case tyC => k_is)
    (case suC_int => k_is)
    (case suC_bool => k_is)
    (case suC_str => k_is)
    (case suC_list => k_is)
    (case suC_tuple => k_is)
    (case sfC => k_is)
    (case sbC_NoneType => k_is)
    (case sbC_bool => k_is)
    (case sbC_int => k_is)
    (case sbC_str => k_is)
    (case sbC_tuple => k_is)
    (case sbC_list => k_is)
    (case sbC_dict => k_is)
    (case neC => k_is)
    (case mkE => k_is)
    (case kcE => k_is)
    (case pgE => k_is)
    (case hdE => k_is)
    (case poE => k_is)
    (case saE => k_is)
    (case io1E => k_is)
    (case io2E => k_is)
    (case icE => k_is)
    (case tyE => k_is)
    (case suE_int => k_is)
    (case suE_bool => k_is)
    (case suE_str => k_is)
    (case suE_list => k_is)
    (case suE_tuple => k_is)
    (case sfE => k_is)
    (case sbE_NoneType => k_is)
    (case sbE_bool => k_is)
    (case sbE_int => k_is)
    (case sbE_str => k_is)
    (case sbE_tuple => k_is)
    (case sbE_list => k_is)
    (case sbE_dict => k_is)
    (case neE => k_is)
    (case na1 => k_is)
    (case na2 => k_is)
    (case en1 => k_is)
    (case en2 => k_is)
    (case nq => k_is)
    (case sCE => k_is)
    (case sEC => k_is)
    (case io3 => k_is)
    (case io4 => k_is)
    (case j_add => k_is)
    (case k_add => k_is)
    (case er_add => k_is)
    (case j_sub => k_is)
    (case k_sub => k_is)
    (case er_sub => k_is)
    (case j_mul => k_is)
    (case k_mul => k_is)
    (case er_mul => k_is)
    (case z_isinstance => k_is)
    (case z_int => k_is)
    (case z_bool => k_is)
    (case z_list => k_is)
    (case z_tuple => k_is)
    (case z_abs => k_is)
    (case z_str => k_is)
    (case z_repr => k_is)
    (case z_all => k_is)
    (case z_any => k_is)
    (case z_zip => k_is)
    (case z_divmod => k_is)
    (case z_len => k_is)
    (case z_max => k_is)
    (case z_min => k_is)
    (case z_range => k_is)
    (case z_sum => k_is)
    (case z_enumerate => k_is)
    (case z_gcd => k_is)
