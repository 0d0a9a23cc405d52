import PyProof.Rows.All
import Wide.All
import OpenK.AllK
import Wide.FinOn
import PyProof.EqAt
import PyProof.EqKinds
import PyProof.TupleCall
import HandS.Base
import HandS.Call
import HandS.List
import HandS.Comp
import HandS.Ends
import HandS.Iter
import HandS.Exc
import HandS.Words
import HandS.WordsList
import HandS.WordsExc
import HandS.TupMul
import HandS.Conv
import HandS.IsInst
import KE.GoesMore
import KE.GoesEnum
import PyProof.EnumMake
import HandS.Zip
import HandS.Deep
import HandS.ExcIs
import HandS.HotCalls
import HandS.HeadHook1
import HandS.FStr
import PyProof.FactsAll.list_3
import HandS.Finally
import KE.KExcSuper
import HandS.ExcInit
import HandS.Nested
import HandS.ExcField
import PyProof.Rows.Range3
import KE.KStateDown
import HandS.Head0
import HandS.Head1
import HandS.Head2
import HandS.HeadEnd
import HandS.HeadHook2
import HandS.Defaults
import PySem.Challenge.RW_gatehands_k01_gates_refused
set_option Elab.async false
set_option linter.all false
set_option maxRecDepth 100000
set_option maxHeartbeats 2000000
/-! Data level: what the defs do with plain data (None, bools, ints, texts, lists and tuples of these, instances that stay as they are), without addresses. -/
namespace Dl
open PySem L2

/-- plain data -/
inductive D where
  | non | bl (b : Bool) | int (i : Int) | str (s : Str) | lst (xs : List D) | tup (xs : List D)
  | obj (C : Addr) (ns : List Str) (xs : List D)
  | raw (v : V)

section
mutual
inductive Rep (B : Addr → Prop) (H : Hp) : V → D → Prop
  | non : Rep B H .non .non
  | bl (b : Bool) : Rep B H (.bl b) (.bl b)
  | int (i : Int) : Rep B H (.int i) (.int i)
  | str (x : Str) : Rep B H (.str x) (.str x)
  | lst {a : Addr} {xs : List V} {ds : List D} : ¬ B a → H a = some (.lst xs) → RepL B H xs ds → Rep B H (.ref a) (.lst ds)
  | tup {a : Addr} {xs : List V} {ds : List D} : ¬ B a → H a = some (.tup xs) → RepL B H xs ds → Rep B H (.ref a) (.tup ds)
  | obj {a C dx : Addr} {ns : List Str} {vs : List V} {ds : List D} : ¬ B a → H a = some (.ins C dx (ns.zip vs)) → ns.length = vs.length → RepL B H vs ds → Rep B H (.ref a) (.obj C ns ds)
  | raw (v : V) : Rep B H v (.raw v)
inductive RepL (B : Addr → Prop) (H : Hp) : List V → List D → Prop
  | nil : RepL B H [] []
  | cons {v : V} {vs : List V} {d : D} {ds : List D} : Rep B H v d → RepL B H vs ds → RepL B H (v :: vs) (d :: ds)
end
end

/-- what stood outside B stands -/
def Kept (B : Addr → Prop) (H H' : Hp) : Prop := ∀ b o, H b = some o → ¬ B b → H' b = some o
theorem Kept.refl (B : Addr → Prop) (H : Hp) : Kept B H H := fun _ _ h _ => h
theorem Kept.trans {B : Addr → Prop} {H H1 H2 : Hp} (a : Kept B H H1) (b : Kept B H1 H2) : Kept B H H2 := fun c o h n => b c o (a c o h n) n
theorem Kept.wide {B B' : Addr → Prop} {H H' : Hp} (a : Kept B H H') (h : ∀ b, B b → B' b) : Kept B' H H' := fun c o e n => a c o e fun z => n (h c z)
theorem Kept.new {B : Addr → Prop} {H : Hp} {p : Addr} {o : HO} (h : H p = none) : Kept B H (upd H p o) := fun c u e _ => by rw [upd_ne (ne_of_none e h)]; exact e
theorem Kept.put {B : Addr → Prop} {H : Hp} {p : Addr} {o : HO} (h : B p) : Kept B H (upd H p o) := fun c u e n => by rw [upd_ne (fun z => n (by rw [z]; exact h))]; exact e
theorem Kept.putNew {B : Addr → Prop} {H H' : Hp} {p : Addr} {o : HO} (e : Kept B H H') (h : H p = none) : Kept B H (upd H' p o) := fun c u q n => by rw [upd_ne (ne_of_none q h)]; exact e c u q n

theorem Kept.rd {B : Addr → Prop} {H H' : Hp} {a : Addr} {u : HO} (k : Kept B H H') (n : ¬ B a) (h : Rd H a u) : Rd H' a u := by
  rcases h with h | ⟨o, h⟩
  · exact .inl (k _ _ h n)
  · exact .inr ⟨o, k _ _ h n⟩
theorem rd_there {H : Hp} {a : Addr} {u : HO} (h : H a = some u) : H a ≠ none := by
  rw [h]; exact fun z => nomatch z

section
variable {B B' : Addr → Prop} {H H' : Hp}
mutual
theorem Rep.keep (k : Kept B H H') : ∀ {v : V} {d : D}, Rep B H v d → Rep B H' v d
  | _, _, .non => .non
  | _, _, .bl b => .bl b
  | _, _, .int i => .int i
  | _, _, .str x => .str x
  | _, _, .lst n s r => .lst n (k _ _ s n) (RepL.keep k r)
  | _, _, .tup n s r => .tup n (k _ _ s n) (RepL.keep k r)
  | _, _, .obj n s l r => .obj n (k _ _ s n) l (RepL.keep k r)
  | _, _, .raw v => .raw v
theorem RepL.keep (k : Kept B H H') : ∀ {vs : List V} {ds : List D}, RepL B H vs ds → RepL B H' vs ds
  | _, _, .nil => .nil
  | _, _, .cons r t => .cons (Rep.keep k r) (RepL.keep k t)
end
mutual
/-- other addresses shut out: fewer, or such as nothing stands at -/
theorem Rep.less (k : ∀ b, B' b → B b ∨ H b = none) : ∀ {v : V} {d : D}, Rep B H v d → Rep B' H v d
  | _, _, .non => .non
  | _, _, .bl b => .bl b
  | _, _, .int i => .int i
  | _, _, .str x => .str x
  | _, _, .lst n s r => .lst (fun z => (k _ z).elim n (rd_there s)) s (RepL.less k r)
  | _, _, .tup n s r => .tup (fun z => (k _ z).elim n (rd_there s)) s (RepL.less k r)
  | _, _, .obj n s l r => .obj (fun z => (k _ z).elim n (fun q => by rw [s] at q; cases q)) s l (RepL.less k r)
  | _, _, .raw v => .raw v
theorem RepL.less (k : ∀ b, B' b → B b ∨ H b = none) : ∀ {vs : List V} {ds : List D}, RepL B H vs ds → RepL B' H vs ds
  | _, _, .nil => .nil
  | _, _, .cons r t => .cons (Rep.less k r) (RepL.less k t)
end
theorem RepL.length : ∀ {vs : List V} {ds : List D}, RepL B H vs ds → vs.length = ds.length
  | _, _, .nil => rfl
  | _, _, .cons _ t => congrArg (· + 1) (RepL.length t)
theorem RepL.at : ∀ {vs : List V} {ds : List D} {i : Nat} {d : D}, RepL B H vs ds → ds[i]? = some d → ∃ v, vs[i]? = some v ∧ Rep B H v d
  | _, _, 0, _, .cons r _, e => by
    have e' := Option.some.inj e
    subst e'
    exact ⟨_, rfl, r⟩
  | _, _, i + 1, _, .cons _ t, e => by
    obtain ⟨v, e1, r⟩ := RepL.at (i := i) t (by simpa using e)
    exact ⟨v, by simpa using e1, r⟩
theorem RepL.atV : ∀ {vs : List V} {ds : List D} {i : Nat} {v : V}, RepL B H vs ds → vs[i]? = some v → ∃ d, ds[i]? = some d ∧ Rep B H v d
  | _, _, 0, _, .cons r _, e => by
    have e' := Option.some.inj e
    subst e'
    exact ⟨_, rfl, r⟩
  | _, _, i + 1, _, .cons _ t, e => by
    obtain ⟨v, e1, r⟩ := RepL.atV (i := i) t (by simpa using e)
    exact ⟨v, by simpa using e1, r⟩
theorem RepL.app : ∀ {vs ws : List V} {ds es : List D}, RepL B H vs ds → RepL B H ws es → RepL B H (vs ++ ws) (ds ++ es)
  | _, _, _, _, .nil, s => s
  | _, _, _, _, .cons r t, s => .cons r (RepL.app t s)
theorem RepL.take : ∀ {vs : List V} {ds : List D} (n : Nat), RepL B H vs ds → RepL B H (vs.take n) (ds.take n)
  | _, _, 0, _ => .nil
  | _, _, _ + 1, .nil => .nil
  | _, _, n + 1, .cons r t => .cons r (RepL.take n t)
theorem RepL.drop : ∀ {vs : List V} {ds : List D} (n : Nat), RepL B H vs ds → RepL B H (vs.drop n) (ds.drop n)
  | _, _, 0, r => r
  | _, _, _ + 1, .nil => .nil
  | _, _, n + 1, .cons _ t => RepL.drop n t
theorem RepL.set {v : V} {d : D} (r : Rep B H v d) : ∀ {vs : List V} {ds : List D} (i : Nat), RepL B H vs ds → RepL B H (vs.set i v) (ds.set i d)
  | _, _, _, .nil => .nil
  | _, _, 0, .cons _ t => .cons r t
  | _, _, i + 1, .cons q t => .cons q (RepL.set r i t)
theorem RepL.rep {vs : List V} {ds : List D} (r : RepL B H vs ds) : ∀ n : Nat, RepL B H (List.replicate n vs).flatten (List.replicate n ds).flatten
  | 0 => .nil
  | n + 1 => by
    rw [List.replicate_succ, List.replicate_succ, List.flatten_cons, List.flatten_cons]
    exact r.app (RepL.rep r n)
end

/-! ### what may change: the dice (one list of ints, at δ), and lists of one's own (at M) -/
def DiceAt (H : Hp) (a : Addr) : Prop := ∃ ns : List Int, H a = some (.lst (ns.map V.int)) ∧ 2 ≤ ns.length
abbrev Bn (δ : Option Addr) (M : List Addr) : Addr → Prop := fun a => δ = some a ∨ a ∈ M
def Ext (δ : Option Addr) (H H' : Hp) : Prop := Kept (fun a => δ = some a) H H' ∧ ∀ a, δ = some a → DiceAt H a → DiceAt H' a
theorem Ext.refl {δ : Option Addr} (H : Hp) : Ext δ H H := ⟨Kept.refl _ H, fun _ _ h => h⟩
theorem Ext.trans {δ : Option Addr} {H H1 H2 : Hp} (a : Ext δ H H1) (b : Ext δ H1 H2) : Ext δ H H2 := ⟨a.1.trans b.1, fun c e h => b.2 c e (a.2 c e h)⟩
theorem Ext.new {δ : Option Addr} {H : Hp} {p : Addr} {o : HO} (h : H p = none) : Ext δ H (upd H p o) := ⟨Kept.new h, fun a _ ⟨ns, e, l⟩ => ⟨ns, by rw [upd_ne (ne_of_none e h)]; exact e, l⟩⟩
theorem Ext.kept {δ : Option Addr} {M : List Addr} {H H' : Hp} (e : Ext δ H H') : Kept (Bn δ M) H H' := e.1.wide fun _ h => Or.inl h
theorem Ext.free {δ : Option Addr} {H H' : Hp} {p : Addr} (e : Ext δ H H') (hd : ∀ a, δ = some a → DiceAt H a) (h : H' p = none) : H p = none := by
  cases q : H p with
  | none => rfl
  | some o =>
    by_cases hp : δ = some p
    · obtain ⟨ns, z, _⟩ := e.2 p hp (hd p hp)
      rw [h] at z; cases z
    · rw [e.1 p o q hp] at h; cases h

/-- a slot: plain data, a list of one's own (its place, its items), the dice -/
inductive S where
  | d (x : D) | own (p : Addr) (xs : List D) | dice
def noOwn : List S → Bool
  | [] => true
  | .own _ _ :: _ => false
  | _ :: r => noOwn r
structure XD where
  cls : Value
  fs : Option (List Str × List D)
abbrev Sl := List (Option S)
/-- what leaves a def; which lists of one's own were made ahead of the loop -/
structure Ct where
  ex : XD → Prop
  lk : Addr → Prop
structure Env where
  c : Ct
  sl : Sl

section
variable (δ : Option Addr) (M : List Addr) (H : Hp)
inductive RepS : V → S → Prop
  | d {v : V} {x : D} : Rep (Bn δ M) H v x → RepS v (.d x)
  | own {a : Addr} {xs : List V} {ds : List D} : a ∈ M → δ ≠ some a → H a = some (.lst xs) → RepL (Bn δ M) H xs ds → RepS (.ref a) (.own a ds)
  | dice {a : Addr} : δ = some a → DiceAt H a → RepS (.ref a) .dice
def RepX (d : Option Addr) (x : XD) : Prop := match x.fs with
  | none => d = none
  | some (ns, ds) => ∃ dd vs, d = some dd ∧ H dd = some (.xd (ns.zip vs)) ∧ ns.length = vs.length ∧ RepL (Bn δ M) H vs ds
/-- the state: what is known of the slots; what leaves -/
structure RE (E : XK) (σ : L2.St) (ρ : Env) : Prop where
  len : ρ.sl.length = σ.length
  rep : ∀ (i : Nat) (s : S), ρ.sl[i]? = some (some s) → ∃ v, σ[i]? = some (some v) ∧ RepS δ M H v s
  one : ∀ (i j : Nat) (p : Addr) (xs ys : List D), ρ.sl[i]? = some (some (.own p xs)) → ρ.sl[j]? = some (some (.own p ys)) → i = j
  okM : ∀ b, b ∈ M → ∃ o, H b = some o
  okd : ∀ a, δ = some a → DiceAt H a
  en : ∃ (He : Hp) (Me : List Addr), Ext δ He H ∧ (∀ b, b ∈ Me → b ∈ M ∧ He b ≠ none) ∧ (∀ (i : Nat) (p : Addr) (xs : List D), ρ.sl[i]? = some (some (.own p xs)) → He p = none) ∧ ∀ cls d H' fs, Ext δ He H' → RepX δ Me H' d ⟨cls, fs⟩ → ρ.c.ex ⟨cls, fs⟩ → E cls d H'
end
section
variable {δ : Option Addr} {M : List Addr} {H H' : Hp} {E : XK} {σ : L2.St} {ρ : Env}
theorem bn_cons {p : Addr} (h : H p = none) : ∀ b, Bn δ (p :: M) b → Bn δ M b ∨ H b = none := fun b z => by
  rcases z with z | z
  · exact .inl (.inl z)
  · rcases List.mem_cons.mp z with z | z
    · exact .inr (by rw [z]; exact h)
    · exact .inl (.inr z)
theorem bn_tail {p : Addr} : ∀ b, Bn δ M b → Bn δ (p :: M) b ∨ H b = none := fun b z => .inl (z.elim .inl fun q => .inr (List.mem_cons_of_mem _ q))
theorem RepS.ext (e : Ext δ H H') {v : V} {s : S} (r : RepS δ M H v s) : RepS δ M H' v s := by
  cases r with
  | d r => exact .d (r.keep e.kept)
  | own m n h r => exact .own m n (e.1 _ _ h n) (r.keep e.kept)
  | dice h q => exact .dice h (e.2 _ h q)
theorem RE.ext (e : Ext δ H H') (r : RE δ M H E σ ρ) : RE δ M H' E σ ρ where
  len := r.len
  rep := fun i s q => by
    obtain ⟨v, h1, h2⟩ := r.rep i s q
    exact ⟨v, h1, h2.ext e⟩
  one := r.one
  okM := fun b hb => by
    obtain ⟨o, h⟩ := r.okM b hb
    by_cases hd : δ = some b
    · obtain ⟨ns, z, _⟩ := e.2 b hd (r.okd b hd)
      exact ⟨_, z⟩
    · exact ⟨o, e.1 b o h hd⟩
  okd := fun a h => e.2 a h (r.okd a h)
  en := let ⟨He, Me, a, m, b, c⟩ := r.en; ⟨He, Me, a.trans e, m, b, c⟩
theorem RepX.less {M' : List Addr} {d : Option Addr} {x : XD} (k : ∀ b, Bn δ M' b → Bn δ M b ∨ H b = none) (r : RepX δ M H d x) : RepX δ M' H d x := by
  unfold RepX at r ⊢
  split
  · rename_i z
    rw [z] at r
    exact r
  · rename_i ns ds z
    rw [z] at r
    obtain ⟨dd, vs, a1, a2, a3, a4⟩ := r
    exact ⟨dd, vs, a1, a2, a3, a4.less k⟩
theorem RE.ex (r : RE δ M H E σ ρ) (cls : Value) (d : Option Addr) (H' : Hp) (fs : Option (List Str × List D)) (e : Ext δ H H') (x : RepX δ M H' d ⟨cls, fs⟩) (q : ρ.c.ex ⟨cls, fs⟩) : E cls d H' :=
  let ⟨_, Me, a, m, _, c⟩ := r.en; c cls d H' fs (a.trans e) (x.less fun b z => .inl (z.elim .inl fun y => .inr (m b y).1)) q
theorem RE.fresh (r : RE δ M H E σ ρ) {p : Addr} (h : H p = none) : ¬ Bn δ M p := fun z => by
  rcases z with z | z
  · obtain ⟨ns, q, _⟩ := r.okd p z
    rw [h] at q; cases q
  · obtain ⟨o, q⟩ := r.okM p z
    rw [h] at q; cases q
end

/-! ### what evaluates to what -/
abbrev WE := Env → (D → Prop) → Prop
abbrev WT := Env → (Bool → Prop) → Prop
abbrev WA := Env → (List S → Prop) → Prop
section
variable (E : XK)
def AbsE (t : TE) (w : WE) : Prop := ∀ (δ : Option Addr) (M : List Addr) (σ : L2.St) (H : Hp) (ρ : Env), RE δ M H E σ ρ → ∀ (Φ : D → Prop) (Q : VK), w ρ Φ →
  (∀ v H' d, Ext δ H H' → Rep (Bn δ M) H' v d → Φ d → Q v H') → t σ H Q
def AbsT (t : TT) (w : WT) : Prop := ∀ (δ : Option Addr) (M : List Addr) (σ : L2.St) (H : Hp) (ρ : Env), RE δ M H E σ ρ → ∀ (Φ : Bool → Prop) (Q : Bool → Hp → Prop), w ρ Φ →
  (∀ b H', Ext δ H H' → Φ b → Q b H') → t σ H Q
def AbsA (n : Nat) (t : TA) (w : WA) : Prop := ∀ (δ : Option Addr) (M : List Addr) (σ : L2.St) (H : Hp) (ρ : Env), RE δ M H E σ ρ → ∀ (Φ : List S → Prop) (Q : List V → Hp → Prop), w ρ Φ →
  (∀ vs H' ss, Ext δ H H' → Paired (RepS δ M H') vs ss → ss.length = n → noOwn ss = true → Φ ss → Q vs H') → t σ H Q
/-- one that makes a new list: nothing else holds it -/
def AbsF (t : TE) (w : Env → (List D → Prop) → Prop) : Prop := ∀ (δ : Option Addr) (M : List Addr) (σ : L2.St) (H : Hp) (ρ : Env), RE δ M H E σ ρ → ∀ (Φ : List D → Prop) (Q : VK), w ρ Φ →
  (∀ p vs H' ds, H p = none → Ext δ H H' → H' p = some (.lst vs) → RepL (Bn δ (p :: M)) H' vs ds → Φ ds → Q (.ref p) H') → t σ H Q
end
section
variable (X : Cx) (E : XK)
structure DE (e : Expr) (t : TE) (w : WE) : Prop where
  p : PE X e t
  a : AbsE E t w
structure DT (e : Expr) (t : TT) (w : WT) : Prop where
  p : PT X e t
  a : AbsT E t w
structure DA (es : List Expr) (t : TA) (w : WA) : Prop where
  p : PA X es t
  a : AbsA E es.length t w
structure DF (e : Expr) (t : TE) (w : Env → (List D → Prop) → Prop) : Prop where
  p : PE X e t
  a : AbsF E t w
end

/-! ### slots -/
def look : List (Option S) → Nat → Option S
  | [], _ => none
  | s :: _, 0 => s
  | _ :: r, i + 1 => look r i
theorem look_get : ∀ {l : List (Option S)} {i : Nat} {s : S}, look l i = some s → l[i]? = some (some s)
  | [], _, _, h => by cases h
  | s :: _, 0, _, h => by
    have h' : s = some _ := h
    rw [h']; rfl
  | _ :: r, i + 1, _, h => by
    have := look_get (l := r) (i := i) h
    simpa using this
def setS : List (Option S) → Nat → S → List (Option S)
  | [], _, _ => []
  | _ :: r, 0, s => some s :: r
  | x :: r, i + 1, s => x :: setS r i s
theorem setS_set : ∀ (l : List (Option S)) (i : Nat) (s : S), setS l i s = l.set i (some s)
  | [], _, _ => rfl
  | _ :: _, 0, _ => rfl
  | x :: r, i + 1, s => by
    show x :: setS r i s = x :: r.set i (some s)
    rw [setS_set r i s]
def wVar (i : Nat) : WE := fun ρ Φ => match look ρ.sl i with
  | some (.d x) => Φ x
  | _ => False
def wC (d : D) : WE := fun _ Φ => Φ d
section
variable {X : Cx} {E : XK}
theorem de_var (i : Nat) {x : Str} {pos : Pos} (hN : X.N[i]? = some x := by rfl) (hv : Vis X.env.scope x := by first | exact Or.inl rfl | exact Or.inr (Or.inl rfl) | exact Or.inr (Or.inr rfl)) (hd : (x == ("__debug__" : Str)) = false := by decide)
    (hcd : (x == ("__classdict__" : Str)) = false := by decide) : DE X E (.Name x pos) (tVar i) (wVar i) := by
  refine ⟨pe_var hN hv hd hcd, fun δ M σ H ρ R Φ Q h k => ?_⟩
  unfold wVar at h
  split at h
  · rename_i x hl
    obtain ⟨v, e, r⟩ := R.rep _ _ (look_get hl)
    cases r with
    | d r => exact ⟨v, e, k v H x (Ext.refl H) r h⟩
  · exact h.elim
theorem de_int {i j pos} : DE X E (.Constant (.int i) j pos) (tC (.int i)) (wC (.int i)) := ⟨pe_int, fun δ M σ H ρ R Φ Q h k => k _ H _ (Ext.refl H) (.int i) h⟩
theorem de_bl {i j pos} : DE X E (.Constant (.bool i) j pos) (tC (.bl i)) (wC (.bl i)) := ⟨pe_bl, fun δ M σ H ρ R Φ Q h k => k _ H _ (Ext.refl H) (.bl i) h⟩
theorem de_str {i j pos} : DE X E (.Constant (.str i) j pos) (tC (.str i)) (wC (.str i)) := ⟨pe_str, fun δ M σ H ρ R Φ Q h k => k _ H _ (Ext.refl H) (.str i) h⟩
theorem de_non {j pos} : DE X E (.Constant .none j pos) (tC .non) (wC .non) := ⟨pe_non, fun δ M σ H ρ R Φ Q h k => k _ H _ (Ext.refl H) .non h⟩
end
end Dl

namespace Dl
open PySem L2

/-! ### operators -/
def Fr (δ : Option Addr) (M : List Addr) (H : Hp) : Prop := ∀ p, H p = none → ¬ Bn δ M p
theorem RE.fr {δ : Option Addr} {M : List Addr} {H : Hp} {E : XK} {σ : L2.St} {ρ : Env} (r : RE δ M H E σ ρ) : Fr δ M H := fun _ h => r.fresh h
abbrev WR := D → D → (D → Prop) → Prop
def AbsR (r : R2) (wr : WR) : Prop := ∀ (δ : Option Addr) (M : List Addr) (H : Hp), Fr δ M H → ∀ x y d f, Rep (Bn δ M) H x d → Rep (Bn δ M) H y f → ∀ (Φ : D → Prop) (Q : VK), wr d f Φ →
  (∀ v H' g, Ext δ H H' → Rep (Bn δ M) H' v g → Φ g → Q v H') → r x y H Q
def wOp (wr : WR) (wa wb : WE) : WE := fun ρ Φ => wa ρ fun d => wb ρ fun f => wr d f Φ
section
variable {K : PySem.W.Frag} {E : XK} {ta tb tc : TE} {wa wb wc : WE} {r r' : R2} {wr wr' : WR}
theorem abs_op (hr : AbsR r wr) (ha : AbsE E ta wa) (hb : AbsE E tb wb) : AbsE E (tOp r ta tb) (wOp wr wa wb) := fun δ M σ H ρ R Φ Q h k =>
  ha δ M σ H ρ R _ _ h fun v H1 d e1 r1 h1 => hb δ M σ H1 ρ (R.ext e1) _ _ h1 fun u H2 f e2 r2 h2 =>
    hr δ M H2 ((R.ext e1).ext e2).fr v u d f (r1.keep e2.kept) r2 Φ Q h2 fun v' H' g e3 r3 h3 => k v' H' g ((e1.trans e2).trans e3) r3 h3
def wI0 (g : Int → Int → D) : WR := fun d f Φ => match d, f with
  | .int i, .int j => Φ (g i j)
  | _, _ => False
def wI (C : Int → Int → Prop) (g : Int → Int → D) : WR := fun d f Φ => match d, f with
  | .int i, .int j => C i j ∧ Φ (g i j)
  | _, _ => False
theorem ar_i0 {g : Int → Int → V} {g' : Int → Int → D} (hg : ∀ B H i j, Rep B H (g i j) (g' i j)) : AbsR (rI0 g) (wI0 g') := by
  intro δ M H fr x y d f rx ry Φ Q h k
  cases rx <;> cases ry <;> first | exact False.elim h | skip
  exact ⟨_, _, rfl, rfl, k _ H _ (Ext.refl H) (hg _ _ _ _) h⟩
theorem ar_i {C : Int → Int → Prop} {g : Int → Int → V} {g' : Int → Int → D} (hg : ∀ B H i j, Rep B H (g i j) (g' i j)) : AbsR (rI C g) (wI C g') := by
  intro δ M H fr x y d f rx ry Φ Q h k
  cases rx <;> cases ry <;> first | exact False.elim h | skip
  exact ⟨_, _, rfl, rfl, h.1, k _ H _ (Ext.refl H) (hg _ _ _ _) h.2⟩
theorem ar_add : AbsR (rI0 fun i j => .int (i + j)) (wI0 fun i j => .int (i + j)) := ar_i0 fun _ _ _ _ => .int _
theorem ar_sub : AbsR (rI0 fun i j => .int (i - j)) (wI0 fun i j => .int (i - j)) := ar_i0 fun _ _ _ _ => .int _
theorem ar_mul : AbsR (rI CMul fun i j => .int (i * j)) (wI CMul fun i j => .int (i * j)) := ar_i fun _ _ _ _ => .int _
theorem ar_mod : AbsR (rI (fun _ j => 0 < j) fun i j => .int (i % j)) (wI (fun _ j => 0 < j) fun i j => .int (i % j)) := ar_i fun _ _ _ _ => .int _
theorem ar_fdiv : AbsR (rI CDiv fun i j => .int (i / j)) (wI CDiv fun i j => .int (i / j)) := ar_i fun _ _ _ _ => .int _
theorem ar_pow : AbsR (rI CPow fun i j => .int (i ^ j.toNat)) (wI CPow fun i j => .int (i ^ j.toNat)) := ar_i fun _ _ _ _ => .int _
theorem ar_lt : AbsR (rI0 fun i j => .bl (decide (i < j))) (wI0 fun i j => .bl (decide (i < j))) := ar_i0 fun _ _ _ _ => .bl _
theorem ar_le : AbsR (rI0 fun i j => .bl (decide (i ≤ j))) (wI0 fun i j => .bl (decide (i ≤ j))) := ar_i0 fun _ _ _ _ => .bl _
theorem ar_gt : AbsR (rI0 fun i j => .bl (decide (j < i))) (wI0 fun i j => .bl (decide (j < i))) := ar_i0 fun _ _ _ _ => .bl _
theorem ar_ge : AbsR (rI0 fun i j => .bl (decide (j ≤ i))) (wI0 fun i j => .bl (decide (j ≤ i))) := ar_i0 fun _ _ _ _ => .bl _
/-- == of bools, ints, texts, None -/
def eqS : D → D → Option Bool
  | .int i, .int j => some (decide (i = j))
  | .str i, .str j => some (decide (i = j))
  | .bl i, .bl j => some (decide (i = j))
  | .non, .non => some true
  | _, _ => none
def wEq : WR := fun d f Φ => match eqS d f with
  | some b => Φ (.bl b)
  | none => False
def wNe : WR := fun d f Φ => match eqS d f with
  | some b => Φ (.bl (!b))
  | none => False
theorem dec_inj {α β : Type} [DecidableEq α] [DecidableEq β] {g : α → β} (hg : ∀ a b, g a = g b → a = b) (a b : α) : decide (g a = g b) = decide (a = b) := by
  by_cases h : a = b
  · subst h; simp
  · rw [decide_eq_false h, decide_eq_false fun z => h (hg _ _ z)]
theorem eqS_is {B : Addr → Prop} {H : Hp} {x y : V} {d f : D} {b : Bool} (rx : Rep B H x d) (ry : Rep B H y f) (h : eqS d f = some b) : scal x y = true ∧ decide (x = y) = b := by
  cases rx <;> cases ry <;> first | (cases h; done) | skip
  · cases h; exact ⟨rfl, rfl⟩
  · cases h; exact ⟨rfl, dec_inj (fun _ _ z => V.bl.inj z) _ _⟩
  · cases h; exact ⟨rfl, dec_inj (fun _ _ z => V.int.inj z) _ _⟩
  · cases h; exact ⟨rfl, dec_inj (fun _ _ z => V.str.inj z) _ _⟩
theorem ar_eq : AbsR rEq wEq := by
  intro δ M H fr x y d f rx ry Φ Q h k
  unfold wEq at h
  split at h
  · rename_i b e
    obtain ⟨h1, h2⟩ := eqS_is rx ry e
    exact ⟨h1, k _ H _ (Ext.refl H) (by rw [h2]; exact .bl b) h⟩
  · exact h.elim
theorem ar_ne : AbsR rNe wNe := by
  intro δ M H fr x y d f rx ry Φ Q h k
  unfold wNe at h
  split at h
  · rename_i b e
    obtain ⟨h1, h2⟩ := eqS_is rx ry e
    exact ⟨h1, k _ H _ (Ext.refl H) (by rw [h2]; exact .bl _) h⟩
  · exact h.elim
end

section
variable {X : Cx} {E : XK} {a b c : Expr} {wa wb wc : WE} {ta tb tc : TE} {r r' : R2} {wr wr' : WR} {pos : Pos}
theorem de_op {op : Operator} (ho : OpR X (binaryOp op) r) (hr : AbsR r wr) (ha : DE X E a ta wa) (hb : DE X E b tb wb) : DE X E (.BinOp a op b pos) (tOp r ta tb) (wOp wr wa wb) := by
  obtain ⟨pa, aa⟩ := ha
  obtain ⟨pb, ab⟩ := hb
  exact ⟨pe_op ho pa pb, abs_op hr aa ab⟩
theorem de_cmp {op : CmpOp} (ho : OpR X (compareOp op) r) (hr : AbsR r wr) (ha : DE X E a ta wa) (hb : DE X E b tb wb) (hm : behindInMarks op b = false) : DE X E (.Compare a [op] [b] pos) (tOp r ta tb) (wOp wr wa wb) := by
  obtain ⟨pa, aa⟩ := ha
  obtain ⟨pb, ab⟩ := hb
  exact ⟨pe_cmpR ho pa pb hm, abs_op hr aa ab⟩
/-! ### tests -/
def wTest (w : WE) : WT := fun ρ Φ => w ρ fun d => match d with
  | .bl k => Φ k
  | _ => False
theorem dt_cmp {op : CmpOp} (ho : OpR X (compareOp op) r) (hr : AbsR r wr) (ha : DE X E a ta wa) (hb : DE X E b tb wb) (hm : behindInMarks op b = false) : DT X E (.Compare a [op] [b] pos) (tTest (tOp r ta tb)) (wTest (wOp wr wa wb)) := by
  obtain ⟨pa, aa⟩ := ha
  obtain ⟨pb, ab⟩ := hb
  refine ⟨pt_cmpR ho pa pb hm, fun δ M σ H ρ R Φ Q h k => ?_⟩
  refine abs_op hr aa ab δ M σ H ρ R _ _ h fun v H' d e r h' => ?_
  cases r <;> first | exact False.elim h' | exact ⟨_, rfl, k _ H' e h'⟩
theorem dt_val {e : Expr} (h : DE X E e ta wa) (he : ∀ whole, isTrue e X.env whole = (do let v ← whole; standAt e.pos; holding [v] (truthy v)) := by intro _; rfl) : DT X E e (tB ta) (wTest wa) := by
  obtain ⟨pa, aa⟩ := h
  refine ⟨pt_val pa he, fun δ M σ H ρ R Φ Q h k => ?_⟩
  refine aa δ M σ H ρ R _ _ h fun v H' d e r h' => ?_
  cases r <;> first | exact False.elim h' | exact ⟨_, rfl, k _ H' e h'⟩
/-- a < b < c -/
def wChain (wr wr' : WR) (wa wb wc : WE) : WE := fun ρ Φ => wa ρ fun d => wb ρ fun f => wr d f fun z => match z with
  | .bl k => if k = true then wc ρ fun g => wr' f g Φ else Φ (.bl false)
  | _ => False
theorem abs_chain (hr : AbsR r wr) (hr' : AbsR r' wr') (ha : AbsE E ta wa) (hb : AbsE E tb wb) (hc : AbsE E tc wc) : AbsE E (tChain r r' ta tb tc) (wChain wr wr' wa wb wc) := fun δ M σ H ρ R Φ Q h k =>
  ha δ M σ H ρ R _ _ h fun v H1 d e1 r1 h1 => hb δ M σ H1 ρ (R.ext e1) _ _ h1 fun u H2 f e2 r2 h2 =>
    hr δ M H2 ((R.ext e1).ext e2).fr v u d f (r1.keep e2.kept) r2 _ _ h2 fun v' H3 g e3 r3 h3 => by
      cases r3 <;> first | exact False.elim h3 | skip
      rename_i b
      refine ⟨b, rfl, ?_⟩
      cases b with
      | false => exact k _ H3 _ ((e1.trans e2).trans e3) (.bl false) h3
      | true =>
        have h3' : wc ρ fun g => wr' f g Φ := h3
        exact hc δ M σ H3 ρ (((R.ext e1).ext e2).ext e3) _ _ h3' fun u' H4 g' e4 r4 h4 =>
          hr' δ M H4 ((((R.ext e1).ext e2).ext e3).ext e4).fr u u' f g' (r2.keep (e3.trans e4).kept) r4 Φ Q h4 fun w' H5 g5 e5 r5 h5 => k w' H5 g5 ((((e1.trans e2).trans e3).trans e4).trans e5) r5 h5
theorem de_chain {op op' : CmpOp} (ho : OpR X (compareOp op) r) (hr : AbsR r wr) (ho' : OpR X (compareOp op') r') (hr' : AbsR r' wr') (ha : DE X E a ta wa) (hb : DE X E b tb wb) (hc : DE X E c tc wc)
    (hm : lastMarks [op, op'] [b, c] = false := by with_unfolding_all rfl) : DE X E (.Compare a [op, op'] [b, c] pos) (tChain r r' ta tb tc) (wChain wr wr' wa wb wc) := by
  obtain ⟨pa, aa⟩ := ha
  obtain ⟨pb, ab⟩ := hb
  obtain ⟨pc, ac⟩ := hc
  exact ⟨pe_chain ho ho' pa pb pc hm, abs_chain hr hr' aa ab ac⟩
theorem dt_chain {op op' : CmpOp} (ho : OpR X (compareOp op) r) (hr : AbsR r wr) (ho' : OpR X (compareOp op') r') (hr' : AbsR r' wr') (ha : DE X E a ta wa) (hb : DE X E b tb wb) (hc : DE X E c tc wc)
    (hm : lastMarks [op, op'] [b, c] = false := by with_unfolding_all rfl) : DT X E (.Compare a [op, op'] [b, c] pos) (tTest (tChain r r' ta tb tc)) (wTest (wChain wr wr' wa wb wc)) := by
  obtain ⟨pa, aa⟩ := ha
  obtain ⟨pb, ab⟩ := hb
  obtain ⟨pc, ac⟩ := hc
  refine ⟨pt_chain ho ho' pa pb pc hm, fun δ M σ H ρ R Φ Q h k => ?_⟩
  refine abs_chain hr hr' aa ab ac δ M σ H ρ R _ _ h fun v H' d e r h' => ?_
  cases r <;> first | exact False.elim h' | exact ⟨_, rfl, k _ H' e h'⟩
/-- and, or, not of tests -/
structure DW (X : Cx) (E : XK) (e : Expr) (t : TT) (w : WT) : Prop where
  p : PW X e t
  a : AbsT E t w
variable {va vb : WT} {qa qb : TT} {rest : List Expr}
def wAnd (va vb : WT) : WT := fun ρ Φ => va ρ fun k => if k = true then vb ρ Φ else Φ false
def wOr (va vb : WT) : WT := fun ρ Φ => va ρ fun k => if k = true then Φ true else vb ρ Φ
def wNot (va : WT) : WT := fun ρ Φ => va ρ fun k => Φ (!k)
theorem DW.pt {e : Expr} (h : DW X E e qa va) : DT X E e qa va := ⟨h.p.pt, h.a⟩
theorem dw_and1 (ha : DT X E a qa va) : DW X E (.BoolOp .And [a] pos) qa va := ⟨pw_and1 ha.p, ha.a⟩
theorem dw_or1 (ha : DT X E a qa va) : DW X E (.BoolOp .Or [a] pos) qa va := ⟨pw_or1 ha.p, ha.a⟩
theorem dw_and (ha : DT X E a qa va) (hb : DW X E (.BoolOp .And (b :: rest) pos) qb vb) : DW X E (.BoolOp .And (a :: b :: rest) pos) (tAnd qa qb) (wAnd va vb) := by
  obtain ⟨pa, aa⟩ := ha
  obtain ⟨pb, ab⟩ := hb
  refine ⟨pw_and pa pb, fun δ M σ H ρ R Φ Q h k => ?_⟩
  refine aa δ M σ H ρ R _ _ h fun c H1 e1 h1 => ?_
  cases c with
  | true => exact ab δ M σ H1 ρ (R.ext e1) _ _ h1 fun c' H2 e2 h2 => k c' H2 (e1.trans e2) h2
  | false => exact k false H1 e1 h1
theorem dw_or (ha : DT X E a qa va) (hb : DW X E (.BoolOp .Or (b :: rest) pos) qb vb) : DW X E (.BoolOp .Or (a :: b :: rest) pos) (tOr qa qb) (wOr va vb) := by
  obtain ⟨pa, aa⟩ := ha
  obtain ⟨pb, ab⟩ := hb
  refine ⟨pw_or pa pb, fun δ M σ H ρ R Φ Q h k => ?_⟩
  refine aa δ M σ H ρ R _ _ h fun c H1 e1 h1 => ?_
  cases c with
  | false => exact ab δ M σ H1 ρ (R.ext e1) _ _ h1 fun c' H2 e2 h2 => k c' H2 (e1.trans e2) h2
  | true => exact k true H1 e1 h1
theorem dt_not (ha : DT X E a qa va) : DT X E (.UnaryOp .Not a pos) (tNot qa) (wNot va) := by
  obtain ⟨pa, aa⟩ := ha
  exact ⟨pt_not pa, fun δ M σ H ρ R Φ Q h k => aa δ M σ H ρ R _ _ h fun c H1 e1 h1 => k (!c) H1 e1 h1⟩
/-- .. as values -/
def wAndV (wa wb : WE) : WE := fun ρ Φ => wa ρ fun d => match d with
  | .bl k => if k = true then wb ρ Φ else Φ (.bl false)
  | _ => False
def wOrV (wa wb : WE) : WE := fun ρ Φ => wa ρ fun d => match d with
  | .bl k => if k = true then Φ (.bl true) else wb ρ Φ
  | _ => False
def wNotV (wa : WE) : WE := fun ρ Φ => wa ρ fun d => match d with
  | .bl k => Φ (.bl (!k))
  | _ => False
theorem de_one {op : BoolOp} (ha : DE X E a ta wa) : DE X E (.BoolOp op [a] pos) ta wa := ⟨pe_one ha.p, ha.a⟩
theorem de_and (ha : DE X E a ta wa) (hb : DE X E (.BoolOp .And (b :: rest) pos) tb wb) : DE X E (.BoolOp .And (a :: b :: rest) pos) (tAndV ta tb) (wAndV wa wb) := by
  obtain ⟨pa, aa⟩ := ha
  obtain ⟨pb, ab⟩ := hb
  refine ⟨pe_and pa pb, fun δ M σ H ρ R Φ Q h k => ?_⟩
  refine aa δ M σ H ρ R _ _ h fun v H1 d e1 r1 h1 => ?_
  cases r1 <;> first | exact False.elim h1 | skip
  rename_i c
  refine ⟨c, rfl, ?_⟩
  cases c with
  | true => exact ab δ M σ H1 ρ (R.ext e1) _ _ h1 fun v' H2 d' e2 r2 h2 => k v' H2 d' (e1.trans e2) r2 h2
  | false => exact k _ H1 _ e1 (.bl false) h1
theorem de_or (ha : DE X E a ta wa) (hb : DE X E (.BoolOp .Or (b :: rest) pos) tb wb) : DE X E (.BoolOp .Or (a :: b :: rest) pos) (tOrV ta tb) (wOrV wa wb) := by
  obtain ⟨pa, aa⟩ := ha
  obtain ⟨pb, ab⟩ := hb
  refine ⟨pe_or pa pb, fun δ M σ H ρ R Φ Q h k => ?_⟩
  refine aa δ M σ H ρ R _ _ h fun v H1 d e1 r1 h1 => ?_
  cases r1 <;> first | exact False.elim h1 | skip
  rename_i c
  refine ⟨c, rfl, ?_⟩
  cases c with
  | false => exact ab δ M σ H1 ρ (R.ext e1) _ _ h1 fun v' H2 d' e2 r2 h2 => k v' H2 d' (e1.trans e2) r2 h2
  | true => exact k _ H1 _ e1 (.bl true) h1
theorem de_not (ha : DE X E a ta wa) : DE X E (.UnaryOp .Not a pos) (tNotV ta) (wNotV wa) := by
  obtain ⟨pa, aa⟩ := ha
  refine ⟨pe_not pa, fun δ M σ H ρ R Φ Q h k => ?_⟩
  refine aa δ M σ H ρ R _ _ h fun v H1 d e1 r1 h1 => ?_
  cases r1 <;> first | exact False.elim h1 | exact ⟨_, rfl, k _ H1 _ e1 (.bl _) h1⟩
def wIfE (va : WT) (wa wb : WE) : WE := fun ρ Φ => va ρ fun k => if k = true then wa ρ Φ else wb ρ Φ
theorem de_ifExp {c : Expr} (hc : DT X E c qa va) (ha : DE X E a ta wa) (hb : DE X E b tb wb) : DE X E (.IfExp c a b pos) (tIf qa ta tb) (wIfE va wa wb) := by
  obtain ⟨pc, ac⟩ := hc
  obtain ⟨pa, aa⟩ := ha
  obtain ⟨pb, ab⟩ := hb
  refine ⟨pe_ifExp pc pa pb, fun δ M σ H ρ R Φ Q h k => ?_⟩
  refine ac δ M σ H ρ R _ _ h fun c H1 e1 h1 => ?_
  cases c with
  | true => exact aa δ M σ H1 ρ (R.ext e1) _ _ h1 fun v' H2 d' e2 r2 h2 => k v' H2 d' (e1.trans e2) r2 h2
  | false => exact ab δ M σ H1 ρ (R.ext e1) _ _ h1 fun v' H2 d' e2 r2 h2 => k v' H2 d' (e1.trans e2) r2 h2

/-! ### argument lists, displays -/
variable {e : Expr} {es : List Expr} {te : TE} {tl : TA} {w : WE} {ws : WA}
def wCons (w : WE) (ws : WA) : WA := fun ρ Φ => w ρ fun d => ws ρ fun ss => Φ (.d d :: ss)
def wDice (i : Nat) (ws : WA) : WA := fun ρ Φ => match look ρ.sl i with
  | some .dice => ws ρ fun ss => Φ (.dice :: ss)
  | _ => False
def wNil : WA := fun _ Φ => Φ []
theorem Paired.ext {δ : Option Addr} {M : List Addr} {H H' : Hp} (e : Ext δ H H') : ∀ {vs : List V} {ss : List S}, Paired (RepS δ M H) vs ss → Paired (RepS δ M H') vs ss
  | _, _, .nil => .nil
  | _, _, .cons r t => .cons (r.ext e) (Paired.ext e t)
theorem da_nil : DA X E [] tNil wNil := ⟨pa_nil, fun δ M σ H ρ R Φ Q h k => k [] H [] (Ext.refl H) .nil rfl rfl h⟩
theorem da_cons (ha : DE X E e te w) (hr : DA X E es tl ws) (hs : starEach (e :: es) X.env = (false, eval e X.env) :: starEach es X.env := by rfl) : DA X E (e :: es) (tCons te tl) (wCons w ws) := by
  obtain ⟨pa, aa⟩ := ha
  obtain ⟨pb, ab⟩ := hr
  refine ⟨pa_cons pa pb hs, fun δ M σ H ρ R Φ Q h k => ?_⟩
  exact aa δ M σ H ρ R _ _ h fun v H1 d e1 r1 h1 => ab δ M σ H1 ρ (R.ext e1) _ _ h1 fun vs H2 ss e2 r2 l2 n2 h2 => k _ H2 _ (e1.trans e2) (.cons (.d (r1.keep e2.kept)) r2) (congrArg (· + 1) l2) n2 h2
theorem da_dice (i : Nat) {x : Str} {p : Pos} (hr : DA X E es tl ws) (hN : X.N[i]? = some x := by rfl) (hv : Vis X.env.scope x := by first | exact Or.inl rfl | exact Or.inr (Or.inl rfl) | exact Or.inr (Or.inr rfl)) (hd : (x == ("__debug__" : Str)) = false := by decide)
    (hcd : (x == ("__classdict__" : Str)) = false := by decide) (hs : starEach (.Name x p :: es) X.env = (false, eval (.Name x p) X.env) :: starEach es X.env := by rfl) : DA X E (.Name x p :: es) (tCons (tVar i) tl) (wDice i ws) := by
  obtain ⟨pb, ab⟩ := hr
  refine ⟨pa_cons (pe_var hN hv hd hcd) pb hs, fun δ M σ H ρ R Φ Q h k => ?_⟩
  unfold wDice at h
  split at h
  · rename_i hl
    obtain ⟨v, ev, r⟩ := R.rep _ _ (look_get hl)
    exact ⟨v, ev, ab δ M σ H ρ R _ _ h fun vs H2 ss e2 r2 l2 n2 h2 => k _ H2 _ e2 (.cons (r.ext e2) r2) (congrArg (· + 1) l2) n2 h2⟩
  · exact h.elim
def allD : List S → Option (List D)
  | [] => some []
  | .d x :: r => (allD r).map (x :: ·)
  | _ => none
theorem allD_rep {δ : Option Addr} {M : List Addr} {H : Hp} : ∀ {vs : List V} {ss : List S} {ds : List D}, Paired (RepS δ M H) vs ss → allD ss = some ds → RepL (Bn δ M) H vs ds
  | _, _, _, .nil, h => by cases h; exact .nil
  | _, _, _, .cons (.d r) t, h => by
    unfold allD at h
    cases q : allD _ with
    | none => rw [q] at h; cases h
    | some es => rw [q] at h; cases h; exact .cons r (allD_rep t q)
  | _, _, _, .cons (.own ..) t, h => by cases h
  | _, _, _, .cons (.dice ..) t, h => by cases h
def wTup (ws : WA) : WE := fun ρ Φ => ws ρ fun ss => match allD ss with
  | some ds => ds.length ≤ 100000 ∧ Φ (.tup ds)
  | none => False
def wLst (ws : WA) : Env → (List D → Prop) → Prop := fun ρ Φ => ws ρ fun ss => match allD ss with
  | some ds => ds.length ≤ 100000 ∧ Φ ds
  | none => False
theorem sz_of {n : Nat} (h : n ≤ 100000) : n ≤ sizeLine := Nat.le_trans h (by decide)
theorem sz_lt {n : Nat} (h : n < 100000) : n < sizeLine := Nat.lt_of_lt_of_le h (by decide)
theorem de_tup {x1} (h : DA X E es tl ws) : DE X E (.Tuple es x1 pos) (tTup tl) (wTup ws) := by
  obtain ⟨pa, aa⟩ := h
  refine ⟨pe_tup pa, fun δ M σ H ρ R Φ Q h k => ?_⟩
  refine aa δ M σ H ρ R _ _ h fun vs H1 ss e1 r1 _ _ h1 => ?_
  split at h1
  · rename_i ds ed
    have rl := allD_rep r1 ed
    refine ⟨by rw [rl.length]; exact sz_of h1.1, fun p hp => ?_⟩
    exact k _ _ _ (e1.trans (Ext.new hp)) (.tup ((R.ext e1).fresh hp) upd_same (rl.keep (Kept.new hp))) h1.2
  · exact h1.elim
theorem df_lst (h : DA X E es tl ws) : DF X E (.List es pos) (tLst tl) (wLst ws) := by
  obtain ⟨pa, aa⟩ := h
  refine ⟨pe_lst pa, fun δ M σ H ρ R Φ Q h k => ?_⟩
  refine aa δ M σ H ρ R _ _ h fun vs H1 ss e1 r1 _ _ h1 => ?_
  split at h1
  · rename_i ds ed
    have rl := allD_rep r1 ed
    refine ⟨by rw [rl.length]; exact sz_of h1.1, fun p hp => ?_⟩
    exact k p vs _ ds (e1.free R.okd hp) (e1.trans (Ext.new hp)) upd_same ((rl.less (bn_cons hp)).keep (Kept.new hp)) h1.2
  · exact h1.elim
/-- a new list as plain data -/
def wNew (w : Env → (List D → Prop) → Prop) : WE := fun ρ Φ => w ρ fun ds => Φ (.lst ds)
theorem DF.de {w : Env → (List D → Prop) → Prop} (h : DF X E e te w) : DE X E e te (wNew w) := by
  obtain ⟨p, a⟩ := h
  refine ⟨p, fun δ M σ H ρ R Φ Q h k => ?_⟩
  exact a δ M σ H ρ R _ _ h fun q vs H1 ds f e1 hq rl h1 => k _ H1 _ e1 (.lst (R.fresh f) hq (rl.less bn_tail)) h1

/-! ### subscripts, slices -/
def wIx : WR := fun d f Φ => match d, f with
  | .lst xs, .int i => ∃ x, atI xs i = some x ∧ Φ x
  | .tup xs, .int i => ∃ x, atI xs i = some x ∧ Φ x
  | _, _ => False
theorem RepL.atI {B : Addr → Prop} {H : Hp} {vs : List V} {ds : List D} {i : Int} {d : D} (r : RepL B H vs ds) (h : L2.atI ds i = some d) : ∃ v, L2.atI vs i = some v ∧ Rep B H v d := by
  unfold L2.atI at h ⊢
  rw [r.length]
  cases e : ixN ds.length i with
  | none => rw [e] at h; cases h
  | some j =>
    rw [e] at h
    exact r.at (show ds[j]? = some d from h)
def rIxLT (K : PySem.W.Frag) : R2 := fun x y H Q => rIxL K x y H Q ∨ rIxT K x y H Q
theorem ix_lt : IxR X (rIxLT X.K) := ix_list.or ix_tup
theorem ar_ix {K : PySem.W.Frag} : AbsR (rIxLT K) wIx := by
  intro δ M H fr x y d f rx ry Φ Q h k
  cases rx <;> cases ry <;> first | exact False.elim h | skip
  · rename_i n s r i
    obtain ⟨z, e, h⟩ := h
    obtain ⟨v, e', r'⟩ := r.atI e
    exact .inl ⟨_, _, i, v, rfl, rfl, SqL.of s, e', k v H z (Ext.refl H) r' h⟩
  · rename_i n s r i
    obtain ⟨z, e, h⟩ := h
    obtain ⟨v, e', r'⟩ := r.atI e
    exact .inr ⟨_, _, i, v, rfl, rfl, SqT.of s, e', k v H z (Ext.refl H) r' h⟩
theorem de_ix (ha : DE X E a ta wa) (hb : DE X E b tb wb) (hs : PlainIx b := by exact fun _ _ => rfl) : DE X E (.Subscript a b pos) (tOp (rIxLT X.K) ta tb) (wOp wIx wa wb) := by
  obtain ⟨pa, aa⟩ := ha
  obtain ⟨pb, ab⟩ := hb
  exact ⟨pe_ix ix_lt pa pb hs, abs_op ar_ix aa ab⟩
/-- xs[e], xs a list of one's own -/
def wIxN (i : Nat) (wb : WE) : WE := fun ρ Φ => match look ρ.sl i with
  | some (.own _ xs) => wb ρ fun f => match f with
    | .int k => ∃ x, atI xs k = some x ∧ Φ x
    | _ => False
  | _ => False
theorem RE.own {δ : Option Addr} {M : List Addr} {H : Hp} {E : XK} {σ : L2.St} {ρ : Env} (R : RE δ M H E σ ρ) {i : Nat} {p : Addr} {ds : List D} (h : look ρ.sl i = some (.own p ds)) :
    ∃ vs, σ[i]? = some (some (.ref p)) ∧ p ∈ M ∧ δ ≠ some p ∧ H p = some (.lst vs) ∧ RepL (Bn δ M) H vs ds := by
  obtain ⟨v, e, r⟩ := R.rep _ _ (look_get h)
  cases r with
  | own m n hp rl => exact ⟨_, e, m, n, hp, rl⟩
theorem de_ixOwn (i : Nat) {x : Str} {p : Pos} (hb : DE X E b tb wb) (hs : PlainIx b := by exact fun _ _ => rfl) (hN : X.N[i]? = some x := by rfl) (hv : Vis X.env.scope x := by first | exact Or.inl rfl | exact Or.inr (Or.inl rfl) | exact Or.inr (Or.inr rfl)) (hd : (x == ("__debug__" : Str)) = false := by decide)
    (hcd : (x == ("__classdict__" : Str)) = false := by decide) : DE X E (.Subscript (.Name x p) b pos) (tOp (rIxL X.K) (tVar i) tb) (wIxN i wb) := by
  obtain ⟨pb, ab⟩ := hb
  refine ⟨pe_ix ix_list (pe_var hN hv hd hcd) pb hs, fun δ M σ H ρ R Φ Q h k => ?_⟩
  unfold wIxN at h
  split at h
  · rename_i q ds hl
    obtain ⟨vs, e, m, n, hp, rl⟩ := R.own hl
    refine ⟨_, e, ab δ M σ H ρ R _ _ h fun u H1 f e1 r1 h1 => ?_⟩
    cases r1 <;> first | exact False.elim h1 | skip
    obtain ⟨z, ez, h1⟩ := h1
    have hp1 := e1.1 _ _ hp n
    obtain ⟨v, ev, r'⟩ := (rl.keep e1.kept).atI ez
    exact ⟨_, _, _, v, rfl, rfl, SqL.of hp1, ev, k v H1 z e1 r' h1⟩
  · exact h.elim
def cutG {α : Type} (xs : List α) (lo hi : Option Int) : List α := (xs.drop (HT.sIx xs.length 0 lo)).take (HT.sIx xs.length xs.length hi - HT.sIx xs.length 0 lo)
theorem RepL.cut {B : Addr → Prop} {H : Hp} {vs : List V} {ds : List D} (r : RepL B H vs ds) (lo hi : Option Int) : RepL B H (cutV vs lo hi) (cutG ds lo hi) := by
  unfold cutV cutG
  rw [r.length]
  exact (r.drop _).take _
abbrev WO := Env → (Option Int → Prop) → Prop
structure DO (X : Cx) (E : XK) (e : Option Expr) (t : TO) (w : WO) : Prop where
  p : PO X e t
  a : ∀ (δ : Option Addr) (M : List Addr) (σ : L2.St) (H : Hp) (ρ : Env), RE δ M H E σ ρ → ∀ (Φ : Option Int → Prop) (Q : Option Int → Hp → Prop), w ρ Φ → (∀ o H', Ext δ H H' → Φ o → Q o H') → t σ H Q
def wNoP : WO := fun _ Φ => Φ none
def wPart (w : WE) : WO := fun ρ Φ => w ρ fun d => match d with
  | .int i => Φ (some i)
  | _ => False
theorem do_none : DO X E none tNoPart wNoP := ⟨po_none, fun δ M σ H ρ R Φ Q h k => k none H (Ext.refl H) h⟩
theorem do_some (h : DE X E e te w) : DO X E (some e) (tPart te) (wPart w) := by
  obtain ⟨p, a⟩ := h
  refine ⟨po_some p, fun δ M σ H ρ R Φ Q h k => ?_⟩
  refine a δ M σ H ρ R _ _ h fun v H1 d e1 r1 h1 => ?_
  cases r1 <;> first | exact False.elim h1 | exact ⟨_, rfl, k _ H1 e1 h1⟩
variable {lo hi : Option Expr} {wl wh : WO} {to tu : TO}
def wSlT (w : WE) (wl wh : WO) : WE := fun ρ Φ => w ρ fun d => wl ρ fun l => wh ρ fun h => match d with
  | .tup xs => ¬ (HT.sIx xs.length 0 l = 0 ∧ HT.sIx xs.length xs.length h = xs.length) ∧ Φ (.tup (cutG xs l h))
  | _ => False
def wSlL (w : WE) (wl wh : WO) : Env → (List D → Prop) → Prop := fun ρ Φ => w ρ fun d => wl ρ fun l => wh ρ fun h => match d with
  | .lst xs => Φ (cutG xs l h)
  | _ => False
theorem de_slT {p2 : Pos} (he : DE X E e te w) (hl : DO X E lo to wl) (hu : DO X E hi tu wh) : DE X E (.Subscript e (.Slice lo hi none p2) pos) (tSl (rSlT X.K) te to tu) (wSlT w wl wh) := by
  obtain ⟨p, ae⟩ := he
  obtain ⟨pl, al⟩ := hl
  obtain ⟨ph, ah⟩ := hu
  refine ⟨pe_slice sl_tup p pl ph, fun δ M σ H ρ R Φ Q h k => ?_⟩
  refine ae δ M σ H ρ R _ _ h fun v H1 d e1 r1 h1 => ?_
  refine al δ M σ H1 ρ (R.ext e1) _ _ h1 fun l H2 e2 h2 => ?_
  refine ah δ M σ H2 ρ ((R.ext e1).ext e2) _ _ h2 fun u H3 e3 h3 => ?_
  have r3 := r1.keep (e2.trans e3).kept
  cases r3 <;> first | exact False.elim h3 | skip
  rename_i n s rl
  refine ⟨_, _, rfl, SqT.of s, by rw [rl.length]; exact h3.1, fun q hq => ?_⟩
  have e := (e1.trans e2).trans e3
  exact k _ _ _ (e.trans (Ext.new hq)) (.tup ((R.ext e).fresh hq) upd_same ((rl.cut l u).keep (Kept.new hq))) h3.2
theorem df_slL {p2 : Pos} (he : DE X E e te w) (hl : DO X E lo to wl) (hu : DO X E hi tu wh) : DF X E (.Subscript e (.Slice lo hi none p2) pos) (tSl (rSlL X.K) te to tu) (wSlL w wl wh) := by
  obtain ⟨p, ae⟩ := he
  obtain ⟨pl, al⟩ := hl
  obtain ⟨ph, ah⟩ := hu
  refine ⟨pe_slice sl_list p pl ph, fun δ M σ H ρ R Φ Q h k => ?_⟩
  refine ae δ M σ H ρ R _ _ h fun v H1 d e1 r1 h1 => ?_
  refine al δ M σ H1 ρ (R.ext e1) _ _ h1 fun l H2 e2 h2 => ?_
  refine ah δ M σ H2 ρ ((R.ext e1).ext e2) _ _ h2 fun u H3 e3 h3 => ?_
  have r3 := r1.keep (e2.trans e3).kept
  cases r3 <;> first | exact False.elim h3 | skip
  rename_i n s rl
  refine ⟨_, _, rfl, SqL.of s, fun q hq => ?_⟩
  have e := (e1.trans e2).trans e3
  exact k q _ _ _ (e.free R.okd hq) (e.trans (Ext.new hq)) upd_same (((rl.cut l u).less (bn_cons hq)).keep (Kept.new hq)) h3
end
end Dl

namespace Dl
open PySem L2

/-! ### calls of built-ins -/
abbrev WCl := List S → (D → Prop) → Prop
def AbsC (r : List V → Hp → VK → Prop) (wc : WCl) : Prop := ∀ (δ : Option Addr) (M : List Addr) (H : Hp), Fr δ M H → ∀ vs ss, Paired (RepS δ M H) vs ss → ∀ (Φ : D → Prop) (Q : VK), wc ss Φ →
  (∀ v H' d, Ext δ H H' → Rep (Bn δ M) H' v d → Φ d → Q v H') → r vs H Q
def wCB (wc : WCl) (ws : WA) : WE := fun ρ Φ => ws ρ fun ss => wc ss Φ
section
variable {X : Cx} {E : XK} {e : Expr} {es : List Expr} {te : TE} {tl : TA} {w : WE} {ws : WA} {r : List V → Hp → VK → Prop} {wc : WCl} {x : Str} {p pos : Pos} {id T : String}
theorem abs_CB {n : Nat} (hr : AbsC r wc) (ha : AbsA E n tl ws) : AbsE E (tCB r tl) (wCB wc ws) := fun δ M σ H ρ R Φ Q h k =>
  ha δ M σ H ρ R _ _ h fun vs H1 ss e1 r1 _ _ h1 => hr δ M H1 (R.ext e1).fr vs ss r1 Φ Q h1 fun v H2 d e2 r2 h2 => k v H2 d (e1.trans e2) r2 h2
theorem de_callB (hc : CallR X (.builtin id) r) (hr : AbsC r wc) (hg : Gl X x) (hm : X.mg x = none) (hv : bootBuiltins x = some (.builtin id)) (ha : DA X E (e :: es) tl ws) (hn : x ≠ "__name__" := by decide) (hdb : (x == ("__debug__" : Str)) = false := by decide)
    (he : starEach (e :: es) X.env = (false, eval e X.env) :: starEach es X.env := by rfl) (hpl : (backTo pos (starEach es X.env)).any (·.1) = false := by rfl) : DE X E (.Call (.Name x p) (e :: es) [] pos) (tCB r tl) (wCB wc ws) :=
  ⟨pe_callB hc hg hm hv ha.p hn hdb he hpl, abs_CB hr ha.a⟩
theorem de_callTy (hc : CallR X (.type T) r) (hr : AbsC r wc) (hg : Gl X x) (hm : X.mg x = none) (hv : bootBuiltins x = some (.type T)) (ha : DA X E (e :: es) tl ws) (hn : x ≠ "__name__" := by decide) (hdb : (x == ("__debug__" : Str)) = false := by decide)
    (he : starEach (e :: es) X.env = (false, eval e X.env) :: starEach es X.env := by rfl) (hpl : (backTo pos (starEach es X.env)).any (·.1) = false := by rfl) : DE X E (.Call (.Name x p) (e :: es) [] pos) (tCB r tl) (wCB wc ws) :=
  ⟨pe_callTy hc hg hm hv ha.p hn hdb he hpl, abs_CB hr ha.a⟩
def wLen : WCl := fun ss Φ => match ss with
  | [.d (.lst xs)] => Φ (.int xs.length)
  | [.d (.tup xs)] => Φ (.int xs.length)
  | [.own _ xs] => Φ (.int xs.length)
  | _ => False
def wTupOf : WCl := fun ss Φ => match ss with
  | [.d (.lst xs)] => Φ (.tup xs)
  | [.d (.tup xs)] => Φ (.tup xs)
  | _ => False
def wAbs : WCl := fun ss Φ => match ss with
  | [.d (.int i)] => Φ (.int (if i < 0 then -i else i))
  | _ => False
def wIntOf : WCl := fun ss Φ => match ss with
  | [.d (.int i)] => Φ (.int i)
  | [.d (.bl k)] => Φ (.int (if k then 1 else 0))
  | _ => False
theorem paired1 {δ : Option Addr} {M : List Addr} {H : Hp} {vs : List V} {s : S} (h : Paired (RepS δ M H) vs [s]) : ∃ v, vs = [v] ∧ RepS δ M H v s := by
  cases h with
  | cons r t => cases t; exact ⟨_, rfl, r⟩
theorem ac_len {K : PySem.W.Frag} : AbsC (fun xs H Q => ∃ p ys, xs = [.ref p] ∧ (SqL K H p ys ∨ SqT K H p ys) ∧ Q (.int ys.length) H) wLen := by
  intro δ M H fr vs ss r Φ Q h k
  unfold wLen at h
  split at h
  · obtain ⟨v, rfl, rr⟩ := paired1 r
    cases rr with
    | d rd => cases rd with
      | lst n s rl => exact ⟨_, _, rfl, .inl (SqL.of s), k _ H _ (Ext.refl H) (by rw [rl.length]; exact .int _) h⟩
  · obtain ⟨v, rfl, rr⟩ := paired1 r
    cases rr with
    | d rd => cases rd with
      | tup n s rl => exact ⟨_, _, rfl, .inr (SqT.of s), k _ H _ (Ext.refl H) (by rw [rl.length]; exact .int _) h⟩
  · obtain ⟨v, rfl, rr⟩ := paired1 r
    cases rr with
    | own m n s rl => exact ⟨_, _, rfl, .inl (SqL.of s), k _ H _ (Ext.refl H) (by rw [rl.length]; exact .int _) h⟩
  · exact h.elim
theorem ac_tuple {K : PySem.W.Frag} : AbsC (fun xs H Q => ∃ p ys, xs = [.ref p] ∧ ((SqL K H p ys ∧ ∀ l, H l = none → Q (.ref l) (upd H l (.tup ys))) ∨ (SqT K H p ys ∧ Q (.ref p) H))) wTupOf := by
  intro δ M H fr vs ss r Φ Q h k
  unfold wTupOf at h
  split at h
  · obtain ⟨v, rfl, rr⟩ := paired1 r
    cases rr with
    | d rd => cases rd with
      | lst n s rl => exact ⟨_, _, rfl, .inl ⟨SqL.of s, fun l hl => k _ _ _ (Ext.new hl) (.tup (fr l hl) upd_same (rl.keep (Kept.new hl))) h⟩⟩
  · obtain ⟨v, rfl, rr⟩ := paired1 r
    cases rr with
    | d rd => cases rd with
      | tup n s rl => exact ⟨_, _, rfl, .inr ⟨SqT.of s, k _ H _ (Ext.refl H) (.tup n s rl) h⟩⟩
  · exact h.elim
theorem ac_abs : AbsC (fun xs H Q => ∃ i, xs = [.int i] ∧ Q (.int (if i < 0 then -i else i)) H) wAbs := by
  intro δ M H fr vs ss r Φ Q h k
  unfold wAbs at h
  split at h
  · obtain ⟨v, rfl, rr⟩ := paired1 r
    cases rr with
    | d rd => cases rd with
      | int i => exact ⟨_, rfl, k _ H _ (Ext.refl H) (.int _) h⟩
  · exact h.elim
theorem ac_int : AbsC (fun xs H Q => (∃ i, xs = [.int i] ∧ Q (.int i) H) ∨ ∃ k, xs = [.bl k] ∧ Q (.int (if k then 1 else 0)) H) wIntOf := by
  intro δ M H fr vs ss r Φ Q h k
  unfold wIntOf at h
  split at h
  · obtain ⟨v, rfl, rr⟩ := paired1 r
    cases rr with
    | d rd => cases rd with
      | int i => exact .inl ⟨_, rfl, k _ H _ (Ext.refl H) (.int _) h⟩
  · obtain ⟨v, rfl, rr⟩ := paired1 r
    cases rr with
    | d rd => cases rd with
      | bl b => exact .inr ⟨_, rfl, k _ H _ (Ext.refl H) (.int _) h⟩
  · exact h.elim
/-- list(xs): a new list -/
def wListOf (ws : WA) : Env → (List D → Prop) → Prop := fun ρ Φ => ws ρ fun ss => match ss with
  | [.d (.lst xs)] => Φ xs
  | [.d (.tup xs)] => Φ xs
  | _ => False
theorem df_listOf (hg : Gl X x) (hm : X.mg x = none) (hv : bootBuiltins x = some (.type "list")) (ha : DA X E (e :: es) tl ws) (hn : x ≠ "__name__" := by decide) (hdb : (x == ("__debug__" : Str)) = false := by decide)
    (he : starEach (e :: es) X.env = (false, eval e X.env) :: starEach es X.env := by rfl) (hpl : (backTo pos (starEach es X.env)).any (·.1) = false := by rfl) :
    DF X E (.Call (.Name x p) (e :: es) [] pos) (tCB (fun xs H Q => ∃ p ys, xs = [.ref p] ∧ (SqL X.K H p ys ∨ SqT X.K H p ys) ∧ ∀ l, H l = none → Q (.ref l) (upd H l (.lst ys))) tl) (wListOf ws) := by
  refine ⟨pe_callTy call_list_of hg hm hv ha.p hn hdb he hpl, fun δ M σ H ρ R Φ Q h k => ?_⟩
  refine ha.a δ M σ H ρ R _ _ h fun vs H1 ss e1 r1 _ _ h1 => ?_
  split at h1
  · obtain ⟨v, rfl, r⟩ := paired1 r1
    cases r with
    | d r => cases r with
      | lst n s rl => exact ⟨_, _, rfl, .inl (SqL.of s), fun l hl => k l _ _ _ (e1.free R.okd hl) (e1.trans (Ext.new hl)) upd_same ((rl.less (bn_cons hl)).keep (Kept.new hl)) h1⟩
  · obtain ⟨v, rfl, r⟩ := paired1 r1
    cases r with
    | d r => cases r with
      | tup n s rl => exact ⟨_, _, rfl, .inr (SqT.of s), fun l hl => k l _ _ _ (e1.free R.okd hl) (e1.trans (Ext.new hl)) upd_same ((rl.less (bn_cons hl)).keep (Kept.new hl)) h1⟩
  · exact h1.elim

/-! ### fields -/
def wFld (C : Addr) (f : Str) (w : WE) : WE := fun ρ Φ => w ρ fun d => match d with
  | .obj C' ns xs => C' = C ∧ ∃ x, (ns.zip xs).lookup f = some x ∧ Φ x
  | _ => False
theorem RepL.field {B : Addr → Prop} {H : Hp} {f : Str} {x : D} : ∀ {ns : List Str} {vs : List V} {ds : List D}, RepL B H vs ds → (ns.zip ds).lookup f = some x → ∃ v, (ns.zip vs).lookup f = some v ∧ Rep B H v x
  | [], _, _, _, h => by cases h
  | _ :: _, _, _, .nil, h => by cases h
  | n :: ns, v :: vs, d :: ds, .cons r t, h => by
    show ∃ v', (((n, v) :: ns.zip vs).lookup f) = some v' ∧ Rep B H v' x
    have h' : (((n, d) :: ns.zip ds).lookup f) = some x := h
    rw [List.lookup_cons] at h' ⊢
    by_cases q : (f == n) = true
    · rw [q] at h' ⊢
      have e : d = x := Option.some.inj h'
      exact ⟨v, rfl, e ▸ r⟩
    · have q' : (f == n) = false := by simpa using q
      rw [q'] at h' ⊢
      exact RepL.field t h'
theorem de_fld {C : Addr} {f : Str} (c : Cls X.K C) (nA : NoAttr X.K C f) (he : DE X E e te w) (hb : attributeBase e f X.env (eval e X.env) = eval e X.env := by rfl) : DE X E (.Attribute e f pos) (tFld X.K te f) (wFld C f w) := by
  refine ⟨pe_fld he.p hb, fun δ M σ H ρ R Φ Q h k => ?_⟩
  refine he.a δ M σ H ρ R _ _ h fun v H1 d e1 r1 h1 => ?_
  cases r1 <;> first | exact False.elim h1 | skip
  rename_i n ho hl rl
  obtain ⟨rfl, z, hz, h1⟩ := h1
  obtain ⟨u, hu, ru⟩ := rl.field hz
  exact ⟨_, _, _, _, u, rfl, ho, c, nA, hu, k u H1 z e1 ru h1⟩

/-! ### the promises of defs over data -/
def spD (n : Nat) (P : List S → (D → Prop) → Prop) : L2.Sp := fun vs H Q _ => ∃ (δ : Option Addr) (M : List Addr) (ss : List S) (Φ : D → Prop), vs.length = n ∧ Paired (RepS δ M H) vs ss ∧ noOwn ss = true ∧ (∀ b, b ∈ M → ∃ o, H b = some o) ∧ (∀ a, δ = some a → DiceAt H a) ∧
  P ss Φ ∧ ∀ v H' d, Ext δ H H' → Rep (Bn δ M) H' v d → Φ d → Q v H'
/-- .. of such as may raise -/
def spX (n : Nat) (P : List S → (D → Prop) → (XD → Prop) → Prop) : L2.Sp := fun vs H Q E => ∃ (δ : Option Addr) (M : List Addr) (ss : List S) (Φ : D → Prop) (Ψ : XD → Prop), vs.length = n ∧ Paired (RepS δ M H) vs ss ∧ noOwn ss = true ∧ (∀ b, b ∈ M → ∃ o, H b = some o) ∧ (∀ a, δ = some a → DiceAt H a) ∧
  P ss Φ Ψ ∧ (∀ v H' d, Ext δ H H' → Rep (Bn δ M) H' v d → Φ d → Q v H') ∧ ∀ cls d H' fs, Ext δ H H' → RepX δ M H' d ⟨cls, fs⟩ → Ψ ⟨cls, fs⟩ → E cls d H'
def wCall (P : List S → (D → Prop) → Prop) (ws : WA) : WE := fun ρ Φ => ws ρ fun ss => P ss Φ
def wCallX (P : List S → (D → Prop) → (XD → Prop) → Prop) (ws : WA) : WE := fun ρ Φ => ws ρ fun ss => P ss Φ ρ.c.ex
theorem Paired.len {α β : Type} {F : α → β → Prop} {l₁ : List α} {l₂ : List β} (h : Paired F l₁ l₂) : l₁.length = l₂.length := Paired.length h
section
variable {CX : CXT} {k f : Nat} {fd : FuncData} {ps : List Str} {n : Nat} {P : List S → (D → Prop) → Prop} {PX : List S → (D → Prop) → (XD → Prop) → Prop}
theorem abs_call {E' : XK} (hn : es.length = n) (ha : AbsA E es.length tl ws) : AbsE E (tCall (spD n P) [] E' tl) (wCall P ws) := fun δ M σ H ρ R Φ Q h k =>
  ha δ M σ H ρ R _ _ h fun vs H1 ss e1 r1 l1 n1 h1 => by
    have R1 := R.ext e1
    show spD n P (vs ++ []) H1 Q E'
    rw [List.append_nil]
    exact ⟨δ, M, ss, Φ, (Paired.length r1).trans (l1.trans hn), r1, n1, R1.okM, R1.okd, h1, fun v H2 d e2 r2 h2 => k v H2 d (e1.trans e2) r2 h2⟩
theorem abs_callX (hn : es.length = n) (ha : AbsA E es.length tl ws) : AbsE E (tCall (spX n PX) [] E tl) (wCallX PX ws) := fun δ M σ H ρ R Φ Q h k =>
  ha δ M σ H ρ R _ _ h fun vs H1 ss e1 r1 l1 n1 h1 => by
    have R1 := R.ext e1
    show spX n PX (vs ++ []) H1 Q E
    rw [List.append_nil]
    exact ⟨δ, M, ss, Φ, ρ.c.ex, (Paired.length r1).trans (l1.trans hn), r1, n1, R1.okM, R1.okd, h1, fun v H2 d e2 r2 h2 => k v H2 d (e1.trans e2) r2 h2, R1.ex⟩
/-- f(..), nothing is raised -/
theorem de_call (F : FnOk X.prog X.w X.K X.mg X.base CX0 k f fd ps (spD n P)) (hr : Room k X.A) (hg : Gl X x) (hm : X.mg x = some (.ref f)) (hk : PySem.W.keepIn X.K (.ref f) = true) (hb : Binds X.K fd ps [])
    (ha : DA X E (e :: es) tl ws) (hn : (e :: es).length = n := by rfl) (hdb : (x == ("__debug__" : Str)) = false := by decide) (he : starEach (e :: es) X.env = (false, eval e X.env) :: starEach es X.env := by rfl) (hpl : (backTo pos (starEach es X.env)).any (·.1) = false := by rfl) :
    DE X E (.Call (.Name x p) (e :: es) [] pos) (tCall (spD n P) [] E0 tl) (wCall P ws) :=
  ⟨pe_call F hr hg hm hk hb .nil pass0 ha.p hdb he hpl, abs_call hn ha.a⟩
/-- f(..), what is raised leaves this def too -/
theorem de_callX (F : FnOk X.prog X.w X.K X.mg X.base CX k f fd ps (spX n PX)) (hr : Room k X.A) (hg : Gl X x) (hm : X.mg x = some (.ref f)) (hk : PySem.W.keepIn X.K (.ref f) = true) (hb : Binds X.K fd ps []) (hx : Passes CX X E)
    (ha : DA X E (e :: es) tl ws) (hn : (e :: es).length = n := by rfl) (hdb : (x == ("__debug__" : Str)) = false := by decide) (he : starEach (e :: es) X.env = (false, eval e X.env) :: starEach es X.env := by rfl) (hpl : (backTo pos (starEach es X.env)).any (·.1) = false := by rfl) :
    DE X E (.Call (.Name x p) (e :: es) [] pos) (tCall (spX n PX) [] E tl) (wCallX PX ws) :=
  ⟨pe_call F hr hg hm hk hb .nil hx ha.p hdb he hpl, abs_callX hn ha.a⟩
end
end

/-! ### statements -/
structure WEnds where
  nx : Sl → Prop
  rt : D → Prop
  bk : Sl → Prop := fun _ => False
  ct : Sl → Prop := fun _ => False
abbrev WS := Ct → WEnds → Sl → Prop
/-- what is kept since the entry: all but the dice and W -/
def KD (δ : Option Addr) (W : Addr → Prop) (H H' : Hp) : Prop := Kept (fun a => δ = some a ∨ W a) H H' ∧ ∀ a, δ = some a → DiceAt H a → DiceAt H' a
theorem KD.refl {δ : Option Addr} {W : Addr → Prop} (H : Hp) : KD δ W H H := ⟨Kept.refl _ H, fun _ _ h => h⟩
theorem KD.ext {δ : Option Addr} {W : Addr → Prop} {H H1 H2 : Hp} (a : KD δ W H H1) (b : Ext δ H1 H2) : KD δ W H H2 := ⟨a.1.trans (b.1.wide fun _ => Or.inl), fun c e h => b.2 c e (a.2 c e h)⟩
theorem KD.toExt {δ : Option Addr} {H H1 : Hp} (a : KD δ (fun _ => False) H H1) : Ext δ H H1 := ⟨a.1.wide fun _ h => h.elim id False.elim, a.2⟩
structure RS (δ : Option Addr) (M0 : List Addr) (H0 : Hp) (E : XK) (c : Ct) (σ : L2.St) (H : Hp) (l : Sl) : Prop where
  ex : ∃ M, (∀ b, b ∈ M0 → b ∈ M) ∧ (∀ b, b ∈ M → b ∈ M0 ∨ H0 b = none) ∧ RE δ M H E σ ⟨c, l⟩
  kd : KD δ c.lk H0 H
  d0 : ∀ a, δ = some a → DiceAt H0 a
  wr : ∀ (i : Nat) (p : Addr) (xs : List D), l[i]? = some (some (.own p xs)) → c.lk p ∨ H0 p = none
  wm : ∀ b, c.lk b → b ∈ M0
  m0 : ∀ b, b ∈ M0 → H0 b ≠ none
structure EOk (δ : Option Addr) (M0 : List Addr) (H0 : Hp) (E : XK) (c : Ct) (Φ : WEnds) (D : Ends) : Prop where
  nx : ∀ σ H l, RS δ M0 H0 E c σ H l → Φ.nx l → D.nx σ H
  rt : ∀ v H d, KD δ c.lk H0 H → Rep (Bn δ M0) H v d → Φ.rt d → D.rt v H
  bk : ∀ σ H l, RS δ M0 H0 E c σ H l → Φ.bk l → D.bk σ H
  ct : ∀ σ H l, RS δ M0 H0 E c σ H l → Φ.ct l → D.ct σ H
def AbsS (E : XK) (t : TS) (w : WS) : Prop := ∀ (δ : Option Addr) (M0 : List Addr) (H0 : Hp) (c : Ct) (Φ : WEnds) (D : Ends), EOk δ M0 H0 E c Φ D → ∀ σ H l, RS δ M0 H0 E c σ H l → w c Φ l → t D σ H
section
variable (X : Cx) (E : XK)
structure DS (s : Stmt) (t : TS) (w : WS) : Prop where
  p : PS X s t
  a : AbsS E t w
structure DSs (s : List Stmt) (t : TS) (w : WS) : Prop where
  p : PSs X s t
  a : AbsS E t w
end
section
variable {δ : Option Addr} {M0 : List Addr} {H0 H H' : Hp} {E : XK} {c : Ct} {σ : L2.St} {l : Sl}
theorem RS.ext (e : Ext δ H H') (r : RS δ M0 H0 E c σ H l) : RS δ M0 H0 E c σ H' l := ⟨let ⟨M, m, n, R⟩ := r.ex; ⟨M, m, n, R.ext e⟩, r.kd.ext e, r.d0, r.wr, r.wm, r.m0⟩
theorem bn_less {δ : Option Addr} {M0 M : List Addr} {H : Hp} (m : ∀ b, b ∈ M0 → b ∈ M) : ∀ b, Bn δ M0 b → Bn δ M b ∨ H b = none := fun b z => Or.inl (z.elim Or.inl fun q => Or.inr (m b q))
end
section
variable {X : Cx} {E : XK} {e : Expr} {te : TE} {w : WE} {pos : Pos} {st : Stmt} {rest : List Stmt} {t u : TS} {w1 w2 : WS}
def wNext : WS := fun _ Φ l => Φ.nx l
def wSeq (a b : WS) : WS := fun c Φ l => a c { Φ with nx := fun l' => b c Φ l' } l
theorem dss_nil : DSs X E [] tNext wNext := ⟨pss_nil, fun δ M0 H0 c Φ D ok σ H l R h => ok.nx σ H l R h⟩
theorem dss_cons (h1 : DS X E st t w1) (h2 : DSs X E rest u w2) : DSs X E (st :: rest) (tSeq t u) (wSeq w1 w2) :=
  ⟨pss_cons h1.p h2.p, fun δ M0 H0 c Φ D ok σ H l R h => h1.a δ M0 H0 c { Φ with nx := fun l' => w2 c Φ l' } { D with nx := u D } ⟨fun σ' H' l' R' h' => h2.a δ M0 H0 c Φ D ok σ' H' l' R' h', ok.rt, ok.bk, ok.ct⟩ σ H l R h⟩
theorem dss_one (h1 : DS X E st t w1) : DSs X E [st] t w1 := ⟨pss_one h1.p, h1.a⟩
theorem ds_pass : DS X E (.Pass pos) tNext wNext := ⟨ps_pass, fun δ M0 H0 c Φ D ok σ H l R h => ok.nx σ H l R h⟩
def wBreak : WS := fun _ Φ l => Φ.bk l
def wCont : WS := fun _ Φ l => Φ.ct l
theorem ds_break : DS X E (.Break pos) tBreak wBreak := ⟨ps_break, fun δ M0 H0 c Φ D ok σ H l R h => ok.bk σ H l R h⟩
theorem ds_continue : DS X E (.Continue pos) tCont wCont := ⟨ps_continue, fun δ M0 H0 c Φ D ok σ H l R h => ok.ct σ H l R h⟩
def wDrop (w : WE) : WS := fun c Φ l => w ⟨c, l⟩ fun _ => Φ.nx l
theorem ds_expr (he : DE X E e te w) (hs : swapsWith e none pos.line X.env = pure false := by rfl) : DS X E (.Expr e pos) (tDrop te) (wDrop w) :=
  ⟨ps_expr he.p hs, fun δ M0 H0 c Φ D ok σ H l R h => let ⟨M, m, n, Re⟩ := R.ex; he.a δ M σ H ⟨c, l⟩ Re _ _ h fun v H1 d e1 r1 h1 => ok.nx σ H1 l (R.ext e1) h1⟩
def wRet (w : WE) : WS := fun c Φ l => w ⟨c, l⟩ Φ.rt
theorem ds_ret (he : DE X E e te w) : DS X E (.Return (some e) pos) (tRet te) (wRet w) :=
  ⟨ps_ret he.p, fun δ M0 H0 c Φ D ok σ H l R h => let ⟨M, m, n, Re⟩ := R.ex; he.a δ M σ H ⟨c, l⟩ Re _ _ h fun v H1 d e1 r1 h1 => ok.rt v H1 d (R.kd.ext e1) (r1.less (bn_less m)) h1⟩
def wRetN : WS := fun _ Φ _ => Φ.rt .non
theorem ds_retN : DS X E (.Return none pos) tRetN wRetN := ⟨ps_retN, fun δ M0 H0 c Φ D ok σ H l R h => ok.rt .non H .non R.kd .non h⟩
def wIf (v : WT) (a b : WS) : WS := fun c Φ l => v ⟨c, l⟩ fun k => if k = true then a c Φ l else b c Φ l
theorem ds_if {c : Expr} {a b : List Stmt} {tc : TT} {wc : WT} (hc : DT X E c tc wc) (ha : DSs X E a t w1) (hb : DSs X E b u w2) : DS X E (.If c a b pos) (tIfS tc t u) (wIf wc w1 w2) := by
  refine ⟨ps_if hc.p ha.p hb.p, fun δ M0 H0 c Φ D ok σ H l R h => ?_⟩
  obtain ⟨M, m, n, Re⟩ := R.ex
  refine hc.a δ M σ H ⟨c, l⟩ Re _ _ h fun k H1 e1 h1 => ?_
  cases k with
  | true => exact ha.a δ M0 H0 c Φ D ok σ H1 l (R.ext e1) h1
  | false => exact hb.a δ M0 H0 c Φ D ok σ H1 l (R.ext e1) h1

/-! ### targets -/
abbrev WG := D → Sl → (Sl → Prop) → Prop
abbrev WGs := List D → Sl → (Sl → Prop) → Prop
/-- the slots outside ix are as they were -/
def Off (ix : List Nat) (σ σ' : L2.St) : Prop := σ'.length = σ.length ∧ ∀ j, j ∉ ix → σ'[j]? = σ[j]?
theorem Off.refl {ix : List Nat} (σ : L2.St) : Off ix σ σ := ⟨rfl, fun _ _ => rfl⟩
theorem Off.trans {ix : List Nat} {a b c : L2.St} (x : Off ix a b) (y : Off ix b c) : Off ix a c := ⟨y.1.trans x.1, fun j h => (y.2 j h).trans (x.2 j h)⟩
/-- no list of one's own comes in -/
def NoNew (l l' : Sl) : Prop := ∀ (i : Nat) (p : Addr) (xs : List D), l'[i]? = some (some (.own p xs)) → l[i]? = some (some (.own p xs))
theorem NoNew.refl (l : Sl) : NoNew l l := fun _ _ _ h => h
theorem NoNew.trans {a b c : Sl} (x : NoNew a b) (y : NoNew b c) : NoNew a c := fun i p xs h => x i p xs (y i p xs h)
def AbsG (ix : List Nat) (g : TG) (w : WG) : Prop := ∀ (E : XK) (δ : Option Addr) (M : List Addr) (σ : L2.St) (H : Hp) (c : Ct) (l : Sl) (v : V) (d : D), RE δ M H E σ ⟨c, l⟩ → Rep (Bn δ M) H v d → ∀ (Φ : Sl → Prop) (Q : L2.St → Hp → Prop), w d l Φ →
  (∀ σ' l', RE δ M H E σ' ⟨c, l'⟩ → Off ix σ σ' → NoNew l l' → Φ l' → Q σ' H) → g v σ H Q
def AbsGs (ix : List Nat) (g : TGs) (w : WGs) : Prop := ∀ (E : XK) (δ : Option Addr) (M : List Addr) (σ : L2.St) (H : Hp) (c : Ct) (l : Sl) (vs : List V) (ds : List D), RE δ M H E σ ⟨c, l⟩ → RepL (Bn δ M) H vs ds → ∀ (Φ : Sl → Prop) (Q : L2.St → Hp → Prop), w ds l Φ →
  (∀ σ' l', RE δ M H E σ' ⟨c, l'⟩ → Off ix σ σ' → NoNew l l' → Φ l' → Q σ' H) → g vs σ H Q
structure DG (X : Cx) (ix : List Nat) (e : Expr) (g : TG) (w : WG) : Prop where
  p : PG X e g
  a : AbsG ix g w
structure DGs (X : Cx) (ix : List Nat) (es : List Expr) (g : TGs) (w : WGs) : Prop where
  p : PGs X es g
  a : AbsGs ix g w
theorem setS_own {l : Sl} {i : Nat} {s : S} (hs : ∀ p xs, s ≠ .own p xs) : NoNew l (setS l i s) := fun k p zs z => by
  rw [setS_set] at z
  by_cases hk : i = k
  · subst hk
    rcases Nat.lt_or_ge i l.length with y | y
    · rw [List.getElem?_set_self y] at z
      exact absurd (Option.some.inj (Option.some.inj z)) (hs p zs)
    · rw [List.getElem?_eq_none (by rw [List.length_set]; exact y)] at z; cases z
  · rw [List.getElem?_set_ne hk] at z
    exact z
/-- a slot is written -/
theorem RE.setAny {δ : Option Addr} {M : List Addr} {H : Hp} {σ : L2.St} {c : Ct} {l : Sl} (R : RE δ M H E σ ⟨c, l⟩) (i : Nat) {v : V} {s : S} (r : RepS δ M H v s)
    (one : ∀ p xs, s = .own p xs → ∀ (j : Nat) ys, j ≠ i → l[j]? ≠ some (some (.own p ys)))
    (en : ∃ (He : Hp) (Me : List Addr), Ext δ He H ∧ (∀ b, b ∈ Me → b ∈ M ∧ He b ≠ none) ∧ (∀ (j : Nat) (p : Addr) (xs : List D), (setS l i s)[j]? = some (some (.own p xs)) → He p = none) ∧ ∀ cls d H' fs, Ext δ He H' → RepX δ Me H' d ⟨cls, fs⟩ → c.ex ⟨cls, fs⟩ → E cls d H') : RE δ M H E (σ.set i (some v)) ⟨c, setS l i s⟩ := by
  have at_ : ∀ {k : Nat} {q : S}, (setS l i s)[k]? = some (some q) → (k = i ∧ k < l.length ∧ q = s) ∨ (k ≠ i ∧ l[k]? = some (some q)) := fun {k q} z => by
    rw [setS_set] at z
    by_cases hk : i = k
    · subst hk
      rcases Nat.lt_or_ge i l.length with y | y
      · rw [List.getElem?_set_self y] at z
        exact .inl ⟨rfl, y, (Option.some.inj (Option.some.inj z)).symm⟩
      · rw [List.getElem?_eq_none (by rw [List.length_set]; exact y)] at z; cases z
    · rw [List.getElem?_set_ne hk] at z
      exact .inr ⟨fun z => hk z.symm, z⟩
  refine ⟨?_, fun j q z => ?_, fun j j' p xs ys q q' => ?_, R.okM, R.okd, en⟩
  · show (setS l i s).length = _
    rw [setS_set, List.length_set, List.length_set]
    exact R.len
  · rcases at_ z with ⟨rfl, hl, rfl⟩ | ⟨hj, z⟩
    · exact ⟨v, List.getElem?_set_self (by rw [← R.len]; exact hl), r⟩
    · obtain ⟨u, h1, h2⟩ := R.rep j q z
      exact ⟨u, by rw [List.getElem?_set_ne (Ne.symm hj)]; exact h1, h2⟩
  · rcases at_ q with ⟨e1, _, e2⟩ | ⟨e1, e2⟩ <;> rcases at_ q' with ⟨f1, _, f2⟩ | ⟨f1, f2⟩
    · exact e1.trans f1.symm
    · exact absurd f2 (one p xs e2.symm j' ys f1)
    · exact absurd e2 (one p ys f2.symm j xs e1)
    · exact R.one j j' p xs ys e2 f2
theorem RE.set {δ : Option Addr} {M : List Addr} {H : Hp} {σ : L2.St} {c : Ct} {l : Sl} (R : RE δ M H E σ ⟨c, l⟩) (i : Nat) {v : V} {d : D} (r : Rep (Bn δ M) H v d) : RE δ M H E (σ.set i (some v)) ⟨c, setS l i (.d d)⟩ :=
  R.setAny i (.d r) (fun _ _ z => nomatch z) (let ⟨He, Me, a, mm, b, q⟩ := R.en; ⟨He, Me, a, mm, fun j p xs z => b j p xs (setS_own (s := .d d) (fun _ _ z => nomatch z) j p xs z), q⟩)
theorem noNew_put {l : Sl} (i : Nat) (d : D) : NoNew l (setS l i (.d d)) := setS_own fun _ _ z => nomatch z
def wgName (i : Nat) : WG := fun d l Φ => Φ (setS l i (.d d))
theorem ag_name {ix : List Nat} {i : Nat} (hm : i ∈ ix) : AbsG ix (gName i) (wgName i) := fun E δ M σ H c l v d R r Φ Q h k =>
  k _ _ (R.set i r) ⟨List.length_set, fun j hj => List.getElem?_set_ne fun z => hj (by rw [← z]; exact hm)⟩ (noNew_put i d) h
theorem dg_name {ix : List Nat} {i : Nat} {x : Str} (hN : X.N.Nodup) (hi : X.N[i]? = some x) (hx : Loc X.env.scope x) (hf : X.fn x = true ∨ X.env.scope.names.lookup x = some .local := by first | exact .inl rfl | exact .inr rfl | assumption)
    (hm : i ∈ ix := by decide) : DG X ix (.Name x pos) (gName i) (wgName i) := ⟨pg_name hN hi hx hf, ag_name hm⟩
def wgNil : WGs := fun ds l Φ => match ds with
  | [] => Φ l
  | _ => False
def wgCons (w : WG) (ws : WGs) : WGs := fun ds l Φ => match ds with
  | d :: r => w d l fun l' => ws r l' Φ
  | [] => False
theorem dgs_nil {ix : List Nat} : DGs X ix [] gNil wgNil := ⟨pgs_nil, fun E δ M σ H c l vs ds R r Φ Q h k => by
  cases r with
  | nil => exact ⟨rfl, k σ l R (Off.refl σ) (NoNew.refl l) h⟩
  | cons => exact False.elim h⟩
theorem dgs_cons {ix : List Nat} {e : Expr} {es : List Expr} {g : TG} {gs : TGs} {w : WG} {ws : WGs} (h1 : DG X ix e g w) (h2 : DGs X ix es gs ws) (ha : (assignEach (e :: es) X.env).map (·.2) = assign e X.env :: (assignEach es X.env).map (·.2) := by rfl) : DGs X ix (e :: es) (gCons g gs) (wgCons w ws) := by
  refine ⟨pgs_cons h1.p h2.p ha, fun E δ M σ H c l vs ds R r Φ Q h k => ?_⟩
  cases r with
  | nil => exact False.elim h
  | cons r1 r2 =>
    exact ⟨_, _, rfl, h1.a E δ M σ H c l _ _ R r1 _ _ h fun σ1 ρ1 R1 o1 n1 h1' => h2.a E δ M σ1 H c ρ1 _ _ R1 r2 _ _ h1' fun σ2 ρ2 R2 o2 n2 h2' => k σ2 ρ2 R2 (o1.trans o2) (n1.trans n2) h2'⟩
def wgTup (n : Nat) (w : WGs) : WG := fun d l Φ => match d with
  | .tup xs => xs.length = n ∧ w xs l Φ
  | _ => False
theorem dg_tup {ix : List Nat} {es : List Expr} {k : Nat} {gs : TGs} {ws : WGs} {n : Nat} (hc : X.calm = true) (h : DGs X ix es gs ws) (hn : (assignEach es X.env).length = n := by rfl) (hst : (assignEach es X.env).findIdx? (·.1) = none := by rfl) :
    DG X ix (.Tuple es k pos) (gTup X.K n gs) (wgTup n ws) := by
  refine ⟨pg_tup hc h.p hn hst, fun E δ M σ H c l v d R r Φ Q hw k => ?_⟩
  cases r <;> first | exact False.elim hw | skip
  rename_i nb s rl
  exact ⟨_, _, rfl, SqT.of s, by rw [rl.length]; exact hw.1, h.a E δ M σ H c l _ _ R rl Φ Q hw.2 k⟩
/-- x = e, a, b = e -/
def wAsg (w : WE) (g : WG) : WS := fun c Φ l => w ⟨c, l⟩ fun d => g d l Φ.nx
theorem abs_asg {ix : List Nat} {g : TG} {wg : WG} (he : AbsE E te w) (hg : AbsG ix g wg) : AbsS E (tAsg te g) (wAsg w wg) := fun δ M0 H0 c Φ D ok σ H l R h => by
  obtain ⟨M, m, n, Re⟩ := R.ex
  refine he δ M σ H ⟨c, l⟩ Re _ _ h fun v H1 d e1 r1 h1 => ?_
  have R1 := R.ext e1
  exact hg E δ M σ H1 c l v d (Re.ext e1) r1 _ _ h1 fun σ' ρ' R' _ n' h' => ok.nx σ' H1 ρ' ⟨⟨M, m, n, R'⟩, R1.kd, R1.d0, fun i p xs q => R1.wr i p xs (n' i p xs q), R1.wm, R1.m0⟩ h'
theorem ds_asg {ix : List Nat} {tg : Expr} {g : TG} {wg : WG} (he : DE X E e te w) (hg : DG X ix tg g wg) (hs : swapsWithSole [tg] e pos.line X.env = pure false := by rfl) (hw : swappedStores [tg] e X.env = pure none := by rfl)
    (h1 : (assignEach [tg] X.env).map (·.2) = [assign tg X.env] := by rfl) : DS X E (.Assign [tg] e pos) (tAsg te g) (wAsg w wg) := ⟨ps_asg he.p hg.p hs hw h1, abs_asg he.a hg.a⟩
theorem ds_set {i : Nat} {x : Str} {pos' : Pos} (hN : X.N.Nodup) (hi : X.N[i]? = some x) (hx : Loc X.env.scope x) (he : DE X E e te w) (hs : swapsWith e (some (.Name x pos')) pos.line X.env = pure false := by rfl) (hf : X.fn x = true ∨ X.env.scope.names.lookup x = some .local := by first | exact .inl rfl | exact .inr rfl | assumption) :
    DS X E (.Assign [.Name x pos'] e pos) (tAsg te (gName i)) (wAsg w (wgName i)) :=
  ⟨ps_set hN hi hx he.p hs hf, abs_asg he.a (ag_name (ix := [i]) (by simp))⟩

/-! ### lists of one's own -/
/-- x = [..], and x alone holds it -/
def wOwn (w : Env → (List D → Prop) → Prop) (i : Nat) : WS := fun c Φ l => w ⟨c, l⟩ fun ds => ∀ p, ¬ c.lk p → Φ.nx (setS l i (.own p ds))
theorem abs_own {i : Nat} {w : Env → (List D → Prop) → Prop} (he : AbsF E te w) : AbsS E (tAsg te (gName i)) (wOwn w i) := fun δ M0 H0 c Φ D ok σ H l R h => by
  obtain ⟨M, m, n, Re⟩ := R.ex
  refine he δ M σ H ⟨c, l⟩ Re _ _ h fun p vs H1 ds hp e1 hp1 rl h1 => ?_
  have ndl : δ ≠ some p := fun z => by
    obtain ⟨ns, q, _⟩ := Re.okd p z
    rw [hp] at q; cases q
  have nlk : ¬ c.lk p := fun z => by
    obtain ⟨o, q⟩ := Re.okM p (m p (R.wm p z))
    rw [hp] at q; cases q
  have h0p : H0 p = none := by
    cases q : H0 p with
    | none => rfl
    | some o =>
      have z := R.kd.1 p o q fun z => z.elim ndl nlk
      rw [hp] at z; cases z
  -- more is shut out, at the heap ahead
  have R2 : RE δ (p :: M) H1 E σ ⟨c, l⟩ := by
    have Re1 := Re.ext e1
    refine ⟨Re.len, fun j s q => ?_, Re.one, fun b hb => ?_, Re1.okd, ?_⟩
    · obtain ⟨v, g1, g2⟩ := Re.rep j s q
      refine ⟨v, g1, ?_⟩
      cases g2 with
      | d r => exact .d ((r.less (bn_cons hp)).keep e1.kept)
      | own mm nn hh rr => exact .own (List.mem_cons_of_mem _ mm) nn (e1.1 _ _ hh nn) ((rr.less (bn_cons hp)).keep e1.kept)
      | dice hh qq => exact .dice hh (e1.2 _ hh qq)
    · rcases List.mem_cons.mp hb with z | z
      · exact ⟨_, by rw [z]; exact hp1⟩
      · exact Re1.okM b z
    · obtain ⟨He, Me, a, mm, b, q⟩ := Re1.en
      exact ⟨He, Me, a, fun b hb => ⟨List.mem_cons_of_mem _ (mm b hb).1, (mm b hb).2⟩, b, q⟩
  have R3 := R2.setAny i (.own List.mem_cons_self ndl hp1 rl) fun q xs e j ys hj z => by
    obtain ⟨v, g1, g2⟩ := Re.rep j _ z
    cases e
    cases g2 with
    | own mm nn hh rr => rw [hp] at hh; cases hh
  have R3 := R3 (by
    obtain ⟨He, Me, a, mm, b, q⟩ := Re.en
    refine ⟨He, Me, a.trans e1, fun b hb => ⟨List.mem_cons_of_mem _ (mm b hb).1, (mm b hb).2⟩, fun j q xs z => ?_, q⟩
    rw [setS_set] at z
    by_cases hk : i = j
    · subst hk
      rcases Nat.lt_or_ge i l.length with y | y
      · rw [List.getElem?_set_self y] at z
        cases z
        cases w : He p with
        | none => rfl
        | some o =>
          have z := a.1 p o w ndl
          rw [hp] at z; cases z
      · rw [List.getElem?_eq_none (by rw [List.length_set]; exact y)] at z; cases z
    · rw [List.getElem?_set_ne hk] at z
      exact b j q xs z)
  refine ok.nx _ H1 _ ⟨⟨p :: M, fun b hb => List.mem_cons_of_mem _ (m b hb), fun b hb => ?_, R3⟩, R.kd.ext e1, R.d0, fun j q xs z => ?_, R.wm, R.m0⟩ (h1 p nlk)
  · rcases List.mem_cons.mp hb with z | z
    · exact .inr (by rw [z]; exact h0p)
    · exact n b z
  · rw [setS_set] at z
    by_cases hk : i = j
    · subst hk
      rcases Nat.lt_or_ge i l.length with y | y
      · rw [List.getElem?_set_self y] at z
        cases z
        exact .inr h0p
      · rw [List.getElem?_eq_none (by rw [List.length_set]; exact y)] at z; cases z
    · rw [List.getElem?_set_ne hk] at z
      exact R.wr j q xs z
theorem ds_own {i : Nat} {x : Str} {pos' : Pos} {w : Env → (List D → Prop) → Prop} (hN : X.N.Nodup) (hi : X.N[i]? = some x) (hx : Loc X.env.scope x) (he : DF X E e te w) (hs : swapsWith e (some (.Name x pos')) pos.line X.env = pure false := by rfl) (hf : X.fn x = true ∨ X.env.scope.names.lookup x = some .local := by first | exact .inl rfl | exact .inr rfl | assumption) :
    DS X E (.Assign [.Name x pos'] e pos) (tAsg te (gName i)) (wOwn w i) := ⟨ps_set hN hi hx he.p hs hf, abs_own he.a⟩
/-- a list of one's own is written -/
theorem RS.write {δ : Option Addr} {M0 : List Addr} {H0 H : Hp} {c : Ct} {σ : L2.St} {l : Sl} {i : Nat} {p : Addr} {ds ds' : List D} {vs' : List V} (R : RS δ M0 H0 E c σ H l) (hl : look l i = some (.own p ds))
    {M : List Addr} (m : ∀ b, b ∈ M0 → b ∈ M) (n : ∀ b, b ∈ M → b ∈ M0 ∨ H0 b = none) (Re : RE δ M H E σ ⟨c, l⟩) (r : RepL (Bn δ M) H vs' ds') : RS δ M0 H0 E c σ (upd H p (.lst vs')) (setS l i (.own p ds')) := by
  obtain ⟨vs, hs, hm, ndl, hp, rl⟩ := Re.own hl
  have hg := look_get hl
  have kp : Kept (Bn δ M) H (upd H p (.lst vs')) := Kept.put (.inr hm)
  have kd : ∀ a, δ = some a → DiceAt H a → DiceAt (upd H p (.lst vs')) a := fun a ha ⟨ns, e, q⟩ => ⟨ns, by rw [upd_ne (fun z => ndl (by rw [← z]; exact ha))]; exact e, q⟩
  have at_ : ∀ {k : Nat} {q : S}, (setS l i (.own p ds'))[k]? = some (some q) → (k = i ∧ q = .own p ds') ∨ (k ≠ i ∧ l[k]? = some (some q)) := fun {k q} z => by
    rw [setS_set] at z
    by_cases hk : i = k
    · subst hk
      rcases Nat.lt_or_ge i l.length with y | y
      · rw [List.getElem?_set_self y] at z
        exact .inl ⟨rfl, (Option.some.inj (Option.some.inj z)).symm⟩
      · rw [List.getElem?_eq_none (by rw [List.length_set]; exact y)] at z; cases z
    · rw [List.getElem?_set_ne hk] at z
      exact .inr ⟨fun z => hk z.symm, z⟩
  have R2 : RE δ M (upd H p (.lst vs')) E σ ⟨c, setS l i (.own p ds')⟩ := by
    refine ⟨?_, fun k q z => ?_, fun j j' q xs ys z z' => ?_, fun b hb => ?_, fun a ha => kd a ha (Re.okd a ha), ?_⟩
    · show (setS l i (.own p ds')).length = _
      rw [setS_set, List.length_set]
      exact Re.len
    · rcases at_ z with ⟨rfl, rfl⟩ | ⟨hk, z⟩
      · exact ⟨_, hs, .own hm ndl upd_same (r.keep kp)⟩
      · obtain ⟨v, g1, g2⟩ := Re.rep k q z
        refine ⟨v, g1, ?_⟩
        cases g2 with
        | d rr => exact .d (rr.keep kp)
        | own mm nn hh rr =>
          rename_i a xs ds2
          refine .own mm nn ?_ (rr.keep kp)
          rw [upd_ne]
          · exact hh
          · intro ea
            rw [ea] at z
            exact hk (Re.one k i p _ _ z hg)
        | dice hh qq => exact .dice hh (kd _ hh qq)
    · have old : ∀ {k : Nat} {zs : List D}, (setS l i (.own p ds'))[k]? = some (some (.own q zs)) → ∃ ws, l[k]? = some (some (.own q ws)) := fun {k zs} y => by
        rcases at_ y with ⟨rfl, e⟩ | ⟨_, y⟩
        · cases e
          exact ⟨_, hg⟩
        · exact ⟨_, y⟩
      obtain ⟨ws, a1⟩ := old z
      obtain ⟨ws', a2⟩ := old z'
      exact Re.one j j' q ws ws' a1 a2
    · obtain ⟨o, q⟩ := Re.okM b hb
      by_cases hbp : b = p
      · exact ⟨_, by rw [hbp]; exact upd_same⟩
      · exact ⟨o, by rw [upd_ne hbp]; exact q⟩
    · obtain ⟨He, Me, a, mm, b, q⟩ := Re.en
      refine ⟨He, Me, ⟨fun b' o e nb => ?_, fun b' hb' dd => kd b' hb' (a.2 b' hb' dd)⟩, mm, fun j q' xs z => ?_, q⟩
      · rw [upd_ne]
        · exact a.1 b' o e nb
        · intro z
          rw [z, b i p ds hg] at e
          cases e
      · rcases at_ z with ⟨rfl, e⟩ | ⟨_, y⟩
        · cases e
          exact b j p ds hg
        · exact b j q' xs y
  refine ⟨⟨M, m, n, R2⟩, ⟨fun b o e q => ?_, fun a ha q => kd a ha (R.kd.2 a ha q)⟩, R.d0, fun j q xs z => ?_, R.wm, R.m0⟩
  · rw [upd_ne]
    · exact R.kd.1 b o e q
    · intro z
      rcases R.wr i p ds hg with y | y
      · exact q (.inr (by rw [z]; exact y))
      · rw [z, y] at e; cases e
  · rcases at_ z with ⟨rfl, e⟩ | ⟨_, y⟩
    · cases e
      exact R.wr j p ds hg
    · exact R.wr j q xs y
end
end Dl

namespace Dl
open PySem L2
section
variable {X : Cx} {E : XK} {e e2 : Expr} {te te2 : TE} {w w' : WE} {pos p : Pos} {x : Str}
/-! ### lists of one's own: append, an item stored, handed over -/
def wApp (i : Nat) (w : WE) : WS := fun c Φ l => match look l i with
  | some (.own p xs) => w ⟨c, l⟩ fun d => xs.length < 100000 ∧ Φ.nx (setS l i (.own p (xs ++ [d])))
  | _ => False
theorem ds_append (i : Nat) {epos apos cpos : Pos} (he : DE X E e te w) (hN : X.N[i]? = some x := by rfl) (hv : Vis X.env.scope x := by first | exact Or.inl rfl | exact Or.inr (Or.inl rfl) | exact Or.inr (Or.inr rfl)) (hd : (x == ("__debug__" : Str)) = false := by decide)
    (hcd : (x == ("__classdict__" : Str)) = false := by decide) (hst : starEach (e :: []) X.env = (false, eval e X.env) :: starEach [] X.env := by rfl)
    (hbase : attributeBase (.Name x p) "append" X.env (eval (.Name x p) X.env) = eval (.Name x p) X.env := by rfl)
    (hfew : ((backTo cpos (starEach (e :: []) X.env)).all (fun x => !x.1) && (backToKw cpos (keywordEach [] X.env)).all (fun x => x.1.isSome)
      && decide ((e :: []).length + ([] : List Keyword).length + (if ([] : List Keyword).isEmpty then 0 else 1) < 30)) = true := by rfl)
    (hline : (apos.endLine == cpos.line) = true := by rfl) (hplain : (backTo cpos (starEach [] X.env)).any (·.1) = false := by rfl)
    (hs : swapsWith (.Call (.Attribute (.Name x p) "append" apos) [e] [] cpos) none epos.line X.env = pure false := by rfl) :
    DS X E (.Expr (.Call (.Attribute (.Name x p) "append" apos) [e] [] cpos) epos) (tDrop (tBM X.K "list" rAppend (tVar i) (tCons te tNil))) (wApp i w) := by
  refine ⟨ps_expr (pe_bm PySem.F.plainAttrs_list PySem.F.slot_list_append PySem.F.type_list_append mt_append (pe_var hN hv hd hcd) (pa_cons he.p pa_nil hst) hbase hfew hline hst hplain) hs, fun δ M0 H0 c Φ D ok σ H l R h => ?_⟩
  unfold wApp at h
  split at h
  · rename_i q ds hl
    obtain ⟨M, m, n, Re⟩ := R.ex
    obtain ⟨vs, hσ, hm, ndl, hq, rl⟩ := Re.own hl
    refine ⟨_, hσ, .inl ⟨rfl, _, SqL.of hq⟩, ?_⟩
    refine he.a δ M σ H ⟨c, l⟩ Re _ _ h fun v H1 d e1 r1 h1 => ?_
    have hq1 := e1.1 _ _ hq ndl
    refine ⟨q, vs, v, rfl, rfl, hq1, by rw [rl.length]; exact sz_lt h1.1, ?_⟩
    exact ok.nx _ _ _ ((R.ext e1).write (vs' := vs ++ [v]) hl m n (Re.ext e1) ((rl.keep e1.kept).app (.cons r1 .nil))) h1.2
  · exact h.elim
/-- x[e2] = e -/
def wPut (i : Nat) (w w' : WE) : WS := fun c Φ l => match look l i with
  | some (.own p xs) => w ⟨c, l⟩ fun d => w' ⟨c, l⟩ fun f => match f with
    | .int k => ∃ j, ixN xs.length k = some j ∧ Φ.nx (setS l i (.own p (xs.set j d)))
    | _ => False
  | _ => False
theorem ds_put (i : Nat) {spos : Pos} (he : DE X E e te w) (h2 : DE X E e2 te2 w') (hN : X.N[i]? = some x := by rfl) (hv : Vis X.env.scope x := by first | exact Or.inl rfl | exact Or.inr (Or.inl rfl) | exact Or.inr (Or.inr rfl)) (hd : (x == ("__debug__" : Str)) = false := by decide)
    (hcd : (x == ("__classdict__" : Str)) = false := by decide)
    (ha : ∀ v, assign (.Subscript (.Name x p) e2 spos) X.env v = (do
      let ov ← holding [v] (eval (.Name x p) X.env)
      let iv ← holding [v, ov] (eval e2 X.env)
      standAt spos
      holding [v, ov, iv] (setItem ov iv v)
      release [v, ov, iv] []) := by intro _; rfl)
    (hs : swapsWithSole [.Subscript (.Name x p) e2 spos] e pos.line X.env = pure false := by rfl) (hw : swappedStores [.Subscript (.Name x p) e2 spos] e X.env = pure none := by rfl)
    (h1 : (assignEach [.Subscript (.Name x p) e2 spos] X.env).map (·.2) = [assign (.Subscript (.Name x p) e2 spos) X.env] := by rfl) : DS X E (.Assign [.Subscript (.Name x p) e2 spos] e pos) (tAsg te (gSub (tVar i) te2 rSetL)) (wPut i w w') := by
  refine ⟨ps_asg he.p (pg_sub (pe_var hN hv hd hcd) h2.p set_list ha) hs hw h1, fun δ M0 H0 c Φ D ok σ H l R h => ?_⟩
  unfold wPut at h
  split at h
  · rename_i q ds hl
    obtain ⟨M, m, n, Re⟩ := R.ex
    obtain ⟨vs, hσ, hm, ndl, hq, rl⟩ := Re.own hl
    refine he.a δ M σ H ⟨c, l⟩ Re _ _ h fun v H1 d e1 r1 h1 => ?_
    refine ⟨_, hσ, ?_⟩
    refine h2.a δ M σ H1 ⟨c, l⟩ (Re.ext e1) _ _ h1 fun u H2 f e2 r2 h2 => ?_
    cases r2 <;> first | exact False.elim h2 | skip
    obtain ⟨j, hj, h2⟩ := h2
    have e12 := e1.trans e2
    refine ⟨_, vs, _, j, rfl, rfl, e12.1 _ _ hq ndl, by rw [rl.length]; exact hj, ?_⟩
    exact ok.nx _ _ _ ((R.ext e12).write hl m n (Re.ext e12) ((rl.keep e12.kept).set (r1.keep e2.kept) j)) h2
  · exact h.elim
/-- the list is one's own no more: plain data from here on -/
def wFrz (i : Nat) (w : WS) : WS := fun c Φ l => match look l i with
  | some (.own p xs) => ¬ c.lk p ∧ w c Φ (setS l i (.d (.lst xs)))
  | _ => False
theorem RE.frz {δ : Option Addr} {M : List Addr} {H : Hp} {σ : L2.St} {c : Ct} {l : Sl} {i : Nat} {p : Addr} {ds : List D} (R : RE δ M H E σ ⟨c, l⟩) (hl : look l i = some (.own p ds)) : RE δ (M.filter fun b => decide (b ≠ p)) H E σ ⟨c, setS l i (.d (.lst ds))⟩ := by
  obtain ⟨vs, hσ, hm, ndl, hp, rl⟩ := R.own hl
  have hg := look_get hl
  have less : ∀ b, Bn δ (M.filter fun b => decide (b ≠ p)) b → Bn δ M b ∨ H b = none := fun b z => .inl (z.elim .inl fun q => .inr (List.mem_filter.mp q).1)
  have at_ : ∀ {k : Nat} {q : S}, (setS l i (.d (.lst ds)))[k]? = some (some q) → (k = i ∧ q = .d (.lst ds)) ∨ (k ≠ i ∧ l[k]? = some (some q)) := fun {k q} z => by
    rw [setS_set] at z
    by_cases hk : i = k
    · subst hk
      rcases Nat.lt_or_ge i l.length with y | y
      · rw [List.getElem?_set_self y] at z
        exact .inl ⟨rfl, (Option.some.inj (Option.some.inj z)).symm⟩
      · rw [List.getElem?_eq_none (by rw [List.length_set]; exact y)] at z; cases z
    · rw [List.getElem?_set_ne hk] at z
      exact .inr ⟨fun z => hk z.symm, z⟩
  have old := setS_own (l := l) (i := i) (s := .d (.lst ds)) fun _ _ z => nomatch z
  have noown : ∀ {k : Nat} {zs : List D}, (setS l i (.d (.lst ds)))[k]? ≠ some (some (.own p zs)) := fun {k zs} z => by
    rcases at_ z with ⟨_, e⟩ | ⟨hk, e⟩
    · cases e
    · exact hk (R.one k i p _ _ e hg)
  refine ⟨?_, fun k q z => ?_, fun j j' q xs ys z z' => R.one j j' q xs ys (old j q xs z) (old j' q ys z'), fun b hb => R.okM b (List.mem_filter.mp hb).1, R.okd, ?_⟩
  · show (setS l i (.d (.lst ds))).length = _
    rw [setS_set, List.length_set]
    exact R.len
  · rcases at_ z with ⟨rfl, rfl⟩ | ⟨hk, y⟩
    · refine ⟨_, hσ, .d (.lst (fun q => q.elim ndl fun q => ?_) hp (rl.less less))⟩
      simpa using (List.mem_filter.mp q).2
    · obtain ⟨v, g1, g2⟩ := R.rep k q y
      refine ⟨v, g1, ?_⟩
      cases g2 with
      | d rr => exact .d (rr.less less)
      | own mm nn hh rr =>
        rename_i a xs ds2
        refine .own (List.mem_filter.mpr ⟨mm, decide_eq_true fun ea => ?_⟩) nn hh (rr.less less)
        rw [ea] at z
        exact noown z
      | dice hh qq => exact .dice hh qq
  · obtain ⟨He, Me, a, mm, b, q⟩ := R.en
    exact ⟨He, Me, a, fun b' hb => ⟨List.mem_filter.mpr ⟨(mm b' hb).1, decide_eq_true fun z => (mm b' hb).2 (by rw [z]; exact b i p ds hg)⟩, (mm b' hb).2⟩, fun j q' xs z => b j q' xs (old j q' xs z), q⟩
theorem dss_frz (i : Nat) {s : List Stmt} {t : TS} {w : WS} (h : DSs X E s t w) : DSs X E s t (wFrz i w) := by
  refine ⟨h.p, fun δ M0 H0 c Φ D ok σ H l R hw => ?_⟩
  unfold wFrz at hw
  split at hw
  · rename_i p ds hl
    obtain ⟨M, m, n, Re⟩ := R.ex
    have h0 : H0 p = none := (R.wr i p ds (look_get hl)).resolve_left hw.1
    refine h.a δ M0 H0 c Φ D ok σ H _ ⟨⟨M.filter fun b => decide (b ≠ p), fun b hb => ?_, fun b hb => n b (List.mem_filter.mp hb).1, Re.frz hl⟩, R.kd, R.d0, fun j q xs z => R.wr j q xs (setS_own (s := .d (.lst ds)) (fun _ _ z => nomatch z) j q xs z), R.wm, R.m0⟩ hw.2
    refine List.mem_filter.mpr ⟨m b hb, decide_eq_true fun z => ?_⟩
    have z' : b = p := z
    exact R.m0 b hb (by rw [z']; exact h0)
  · exact hw.elim

/-! ### what is walked -/
structure ItOk (B : Addr → Prop) (J : It) (H1 : Hp) (xs : List D) : Prop where
  go : ∀ (B' : Addr → Prop), (∀ b, B' b → B b ∨ H1 b = none) → ∀ H i, Kept B' H1 H → i < xs.length → J.go i H
  stop : ∀ (B' : Addr → Prop), (∀ b, B' b → B b ∨ H1 b = none) → ∀ H i, Kept B' H1 H → xs.length ≤ i → J.stop i H
  yld : ∀ (B' : Addr → Prop), (∀ b, B' b → B b ∨ H1 b = none) → ∀ H i x v H', Kept B' H1 H → (∀ b, B' b → H b ≠ none) → xs[i]? = some x → J.yld i H v H' → Kept (fun _ => False) H H' ∧ Rep B' H' v x
abbrev WI := Env → (List D → Prop) → Prop
def AbsI (E : XK) (wi : TI) (w : WI) : Prop := ∀ (δ : Option Addr) (M : List Addr) (σ : L2.St) (H : Hp) (ρ : Env), RE δ M H E σ ρ → ∀ (Φ : List D → Prop) (R : It → Hp → Prop), w ρ Φ → (∀ J H1 xs, Ext δ H H1 → ItOk (Bn δ M) J H1 xs → Φ xs → R J H1) → wi σ H R
structure DI (X : Cx) (E : XK) (tg it : Expr) (wi : TI) (w : WI) : Prop where
  p : PI X tg it wi
  a : AbsI E wi w
theorem Kept.ext0 {δ : Option Addr} {H H' : Hp} (k : Kept (fun _ => False) H H') : Ext δ H H' := ⟨k.wide fun _ h => h.elim, fun a _ ⟨ns, e, l⟩ => ⟨ns, k _ _ e id, l⟩⟩
def wiL (w : WE) : WI := fun ρ Φ => w ρ fun d => match d with
  | .lst xs => Φ xs
  | _ => False
def wiT (w : WE) : WI := fun ρ Φ => w ρ fun d => match d with
  | .tup xs => Φ xs
  | _ => False
theorem sl_same {K : PySem.W.Frag} {B' : Addr → Prop} {H1 H : Hp} {a : Addr} {vs : List V} (s : H1 a = some (.lst vs)) (n : ¬ B' a) (k : Kept B' H1 H) : SqL K H a vs := SqL.of (k _ _ s n)
theorem st_same {K : PySem.W.Frag} {B' : Addr → Prop} {H1 H : Hp} {a : Addr} {vs : List V} (s : H1 a = some (.tup vs)) (n : ¬ B' a) (k : Kept B' H1 H) : SqT K H a vs := SqT.of (k _ _ s n)
theorem di_list {tg : Expr} (he : DE X E e te w) : DI X E tg e (iList X.K te) (wiL w) := by
  refine ⟨pi_list he.p, fun δ M σ H ρ R Φ Q h k => ?_⟩
  refine he.a δ M σ H ρ R _ _ h fun v H1 d e1 r1 h1 => ?_
  cases r1 <;> first | exact False.elim h1 | skip
  rename_i a vs ds n s rl
  have nb : ∀ B' : Addr → Prop, (∀ b, B' b → Bn δ M b ∨ H1 b = none) → ¬ B' a := fun B' hB z => (hB a z).elim n (rd_there s)
  refine ⟨a, rfl, ⟨vs, SqL.of s⟩, k _ H1 ds e1 ⟨fun B' hB H2 i kp hi => ?_, fun B' hB H2 i kp hi => ?_, fun B' hB H2 i x v H3 kp hN hx y => ?_⟩ h1⟩
  · obtain ⟨u, hu, _⟩ := rl.at (d := ds[i]) (List.getElem?_eq_getElem hi)
    exact ⟨vs, u, sl_same s (nb B' hB) kp, hu⟩
  · exact ⟨vs, sl_same s (nb B' hB) kp, by rw [rl.length]; exact hi⟩
  · obtain ⟨e, y⟩ := y
    subst e
    obtain ⟨u, hu, ru⟩ := rl.at hx
    have hv := y vs (sl_same s (nb B' hB) kp)
    rw [hu] at hv
    cases hv
    exact ⟨Kept.refl _ _, (ru.less hB).keep kp⟩
theorem di_tup {tg : Expr} (he : DE X E e te w) : DI X E tg e (iTup X.K te) (wiT w) := by
  refine ⟨pi_tup he.p, fun δ M σ H ρ R Φ Q h k => ?_⟩
  refine he.a δ M σ H ρ R _ _ h fun v H1 d e1 r1 h1 => ?_
  cases r1 <;> first | exact False.elim h1 | skip
  rename_i a vs ds n s rl
  have nb : ∀ B' : Addr → Prop, (∀ b, B' b → Bn δ M b ∨ H1 b = none) → ¬ B' a := fun B' hB z => (hB a z).elim n (rd_there s)
  refine ⟨a, rfl, ⟨vs, SqT.of s⟩, k _ H1 ds e1 ⟨fun B' hB H2 i kp hi => ?_, fun B' hB H2 i kp hi => ?_, fun B' hB H2 i x v H3 kp hN hx y => ?_⟩ h1⟩
  · obtain ⟨u, hu, _⟩ := rl.at (d := ds[i]) (List.getElem?_eq_getElem hi)
    exact ⟨vs, u, st_same s (nb B' hB) kp, hu⟩
  · exact ⟨vs, st_same s (nb B' hB) kp, by rw [rl.length]; exact hi⟩
  · obtain ⟨e, y⟩ := y
    subst e
    obtain ⟨u, hu, ru⟩ := rl.at hx
    have hv := y vs (st_same s (nb B' hB) kp)
    rw [hu] at hv
    cases hv
    exact ⟨Kept.refl _ _, (ru.less hB).keep kp⟩
/-- range(n), range(a, b) -/
def rangeD (lo : Int) (n : Nat) : List D := (List.range n).map fun (k : Nat) => D.int (lo + (k : Int))
theorem rangeD_len {lo : Int} {n : Nat} : (rangeD lo n).length = n := by unfold rangeD; rw [List.length_map, List.length_range]
theorem rangeD_at {lo : Int} {n i : Nat} {x : D} (h : (rangeD lo n)[i]? = some x) : i < n ∧ x = .int (lo + (i : Int)) := by
  have hl : i < (rangeD lo n).length := (List.getElem?_eq_some_iff.mp h).1
  rw [rangeD_len] at hl
  unfold rangeD at h
  rw [List.getElem?_map, List.getElem?_range hl] at h
  exact ⟨hl, (Option.some.inj h).symm⟩
theorem it_range {B : Addr → Prop} {H1 : Hp} {lo : Int} {n : Nat} : ItOk B (Itr lo n) H1 (rangeD lo n) :=
  ⟨fun _ _ _ i _ hi => by rw [rangeD_len] at hi; exact hi, fun _ _ _ i _ hi => by rw [rangeD_len] at hi; exact hi, fun B' _ H i x v H' _ _ hx y => by
    obtain ⟨e, y⟩ := y
    subst e
    obtain ⟨_, rfl⟩ := rangeD_at hx
    subst y
    exact ⟨Kept.refl _ _, .int _⟩⟩
def wiR1 (ws : WA) : WI := fun ρ Φ => ws ρ fun ss => match ss with
  | [.d (.int j)] => (-(2 ^ 62) ≤ j ∧ j < 2 ^ 62) ∧ Φ (rangeD 0 j.toNat)
  | _ => False
def wiR2 (ws : WA) : WI := fun ρ Φ => ws ρ fun ss => match ss with
  | [.d (.int i), .d (.int j)] => (-(2 ^ 62) ≤ i ∧ i < 2 ^ 62 ∧ -(2 ^ 62) ≤ j ∧ j < 2 ^ 62) ∧ Φ (rangeD i (j - i).toNat)
  | _ => False
theorem di_range1 {tg a : Expr} {p pos : Pos} {tl : TA} {ws : WA} (hg : Gl X "range") (hm : X.mg "range" = none) (ha : DA X E [a] tl ws) (hs : starEach [a] X.env = [(false, eval a X.env)] := by rfl) : DI X E tg (.Call (.Name "range" p) [a] [] pos) (iRng1 tl) (wiR1 ws) := by
  refine ⟨pi_range1 hg hm ha.p hs, fun δ M σ H ρ R Φ Q h k => ?_⟩
  refine ha.a δ M σ H ρ R _ _ h fun vs H1 ss e1 r1 _ _ h1 => ?_
  split at h1
  · obtain ⟨v, rfl, rr⟩ := paired1 r1
    cases rr with
    | d rd => cases rd with
      | int _ => exact ⟨_, rfl, h1.1.1, h1.1.2, k _ H1 _ e1 it_range h1.2⟩
  · exact h1.elim
theorem paired2 {δ : Option Addr} {M : List Addr} {H : Hp} {vs : List V} {s s' : S} (h : Paired (RepS δ M H) vs [s, s']) : ∃ v v', vs = [v, v'] ∧ RepS δ M H v s ∧ RepS δ M H v' s' := by
  cases h with
  | cons r t =>
    obtain ⟨v', rfl, r'⟩ := paired1 t
    exact ⟨_, _, rfl, r, r'⟩
theorem di_range2 {tg a b : Expr} {p pos : Pos} {tl : TA} {ws : WA} (hg : Gl X "range") (hm : X.mg "range" = none) (ha : DA X E [a, b] tl ws) (hs : starEach [a, b] X.env = [(false, eval a X.env), (false, eval b X.env)] := by rfl) (hs2 : starEach [b] X.env = [(false, eval b X.env)] := by rfl) :
    DI X E tg (.Call (.Name "range" p) [a, b] [] pos) (iRng2 tl) (wiR2 ws) := by
  refine ⟨pi_range2 hg hm ha.p hs hs2, fun δ M σ H ρ R Φ Q h k => ?_⟩
  refine ha.a δ M σ H ρ R _ _ h fun vs H1 ss e1 r1 _ _ h1 => ?_
  split at h1
  · obtain ⟨v, v', rfl, rr, rr'⟩ := paired2 r1
    cases rr with
    | d rd => cases rd with
      | int i => cases rr' with
        | d rd' => cases rd' with
          | int _ => exact ⟨_, _, rfl, h1.1, k _ H1 _ e1 it_range h1.2⟩
  · exact h1.elim
/-- enumerate(list) -/
def enumD (xs : List D) : List D := xs.zipIdx.map fun z => D.tup [.int (z.2 : Nat), z.1]
theorem enumD_len {xs : List D} : (enumD xs).length = xs.length := by unfold enumD; rw [List.length_map, List.length_zipIdx]
theorem enumD_at {xs : List D} {i : Nat} {x : D} (h : (enumD xs)[i]? = some x) : ∃ y, xs[i]? = some y ∧ x = .tup [.int (i : Nat), y] := by
  unfold enumD at h
  rw [List.getElem?_map, List.getElem?_zipIdx] at h
  cases q : xs[i]? with
  | none => rw [q] at h; cases h
  | some y =>
    rw [q] at h
    refine ⟨y, rfl, ?_⟩
    have h' := Option.some.inj h
    rw [← h']
    simp
def wiE (ws : WA) : WI := fun ρ Φ => ws ρ fun ss => match ss with
  | [.d (.lst xs)] => Φ (enumD xs)
  | _ => False
theorem di_enum {e : Expr} {tl : TA} {ws : WA} {p pos tpos : Pos} {elts : List Expr} {kk : Nat} (hg : Gl X "enumerate") (hm : X.mg "enumerate" = none) (ha : DA X E [e] tl ws) (hs : starEach [e] X.env = [(false, eval e X.env)] := by rfl) :
    DI X E (.Tuple elts kk tpos) (.Call (.Name "enumerate" p) [e] [] pos) (iEnum X.K tl) (wiE ws) := by
  refine ⟨pi_enum hg hm ha.p hs, fun δ M σ H ρ R Φ Q h k => ?_⟩
  refine ha.a δ M σ H ρ R _ _ h fun vs H1 ss e1 r1 _ _ h1 => ?_
  split at h1
  · obtain ⟨v, rfl, rr⟩ := paired1 r1
    cases rr with
    | d rd => cases rd with
      | lst n s rl =>
        rename_i ds a vs
        have nb : ∀ B' : Addr → Prop, (∀ b, B' b → Bn δ M b ∨ H1 b = none) → ¬ B' a := fun B' hB z => (hB a z).elim n (rd_there s)
        refine ⟨a, vs, rfl, SqL.of s, k _ H1 _ e1 ⟨fun B' hB H2 i kp hi => ?_, fun B' hB H2 i kp hi => ?_, fun B' hB H2 i x v H3 kp hN hx y => ?_⟩ h1⟩
        · rw [enumD_len] at hi
          obtain ⟨u, hu, _⟩ := rl.at (List.getElem?_eq_getElem hi)
          exact ⟨vs, u, sl_same s (nb B' hB) kp, hu⟩
        · rw [enumD_len] at hi
          exact ⟨vs, sl_same s (nb B' hB) kp, by rw [rl.length]; exact hi⟩
        · obtain ⟨T, z, rfl, hT, rfl, y⟩ := y
          obtain ⟨q, hq, rfl⟩ := enumD_at hx
          obtain ⟨u, hu, ru⟩ := rl.at hq
          have hv := y vs (sl_same s (nb B' hB) kp)
          rw [hu] at hv
          cases hv
          exact ⟨Kept.new hT, .tup (fun z => hN T z hT) upd_same (.cons (.int _) (.cons (((ru.less hB).keep kp).keep (Kept.new hT)) .nil))⟩
  · exact h1.elim

/-! ### loops -/
/-- the lists of one's own ahead of a loop -/
def owns (l : Sl) : Addr → Prop := fun p => ∃ (i : Nat) (xs : List D), l[i]? = some (some (.own p xs))
def wFor (wi : WI) (g : WG) (wb : WS) : WS := fun c Φ l => wi ⟨c, l⟩ fun xs => ∃ I : Nat → Sl → Prop, I 0 l ∧
  (∀ i x l', xs[i]? = some x → I i l' → g x l' fun l2 => wb ⟨c.ex, owns l⟩ { Φ with nx := I (i + 1), ct := I (i + 1), bk := Φ.nx } l2) ∧ ∀ l', I xs.length l' → Φ.nx l'
theorem RS.inner {δ : Option Addr} {M0 M : List Addr} {H0 H1 : Hp} {c : Ct} {σ : L2.St} {l : Sl} (R : RS δ M0 H0 E c σ H1 l) (m : ∀ b, b ∈ M0 → b ∈ M) (Re : RE δ M H1 E σ ⟨c, l⟩) : RS δ M H1 E ⟨c.ex, owns l⟩ σ H1 l :=
  ⟨⟨M, fun _ h => h, fun _ h => .inl h, ⟨Re.len, Re.rep, Re.one, Re.okM, Re.okd, Re.en⟩⟩, KD.refl H1, Re.okd, fun i p xs q => .inl ⟨i, xs, q⟩, fun b ⟨i, xs, q⟩ => by
    obtain ⟨v, _, r⟩ := Re.rep i _ q
    cases r with
    | own mm _ _ _ => exact mm, fun b hb z => by
    obtain ⟨o, q⟩ := Re.okM b hb
    rw [z] at q; cases q⟩
theorem RS.outer {δ : Option Addr} {M0 M : List Addr} {H0 H1 H : Hp} {c : Ct} {σ1 σ : L2.St} {l1 l : Sl} (R : RS δ M0 H0 E c σ1 H1 l1) (m : ∀ b, b ∈ M0 → b ∈ M) (n : ∀ b, b ∈ M → b ∈ M0 ∨ H0 b = none) (Re : RE δ M H1 E σ1 ⟨c, l1⟩)
    (R' : RS δ M H1 E ⟨c.ex, owns l1⟩ σ H l) : RS δ M0 H0 E c σ H l := by
  obtain ⟨M', m', n', Re'⟩ := R'.ex
  have none0 : ∀ b, H1 b = none → H0 b = none := fun b z => by
    cases q : H0 b with
    | none => rfl
    | some o =>
      by_cases hd : δ = some b
      · obtain ⟨ns, y, _⟩ := Re.okd b hd
        rw [z] at y; cases y
      · by_cases hk : c.lk b
        · obtain ⟨o', y⟩ := Re.okM b (m b (R.wm b hk))
          rw [z] at y; cases y
        · have y := R.kd.1 b o q fun w => w.elim hd hk
          rw [z] at y; cases y
  refine ⟨⟨M', fun b hb => m' b (m b hb), fun b hb => (n' b hb).elim (n b) fun z => .inr (none0 b z), ⟨Re'.len, Re'.rep, Re'.one, Re'.okM, Re'.okd, Re'.en⟩⟩, ?_, R.d0, fun i p xs q => ?_, R.wm, R.m0⟩
  · refine ⟨fun b o e nb => ?_, fun a ha q => R'.kd.2 a ha (R.kd.2 a ha q)⟩
    refine R'.kd.1 b o (R.kd.1 b o e nb) fun z => ?_
    rcases z with z | ⟨i, xs, z⟩
    · exact nb (.inl z)
    · rcases R.wr i b xs z with y | y
      · exact nb (.inr y)
      · rw [y] at e; cases e
  · rcases R'.wr i p xs q with ⟨j, ys, z⟩ | z
    · exact R.wr j p ys z
    · exact .inr (none0 p z)
theorem abs_for {ix : List Nat} {wi : TI} {ww : WI} {g : TG} {wg : WG} {tb : TS} {wb : WS} (hi : AbsI E wi ww) (hg : AbsG ix g wg) (hb : AbsS E tb wb) : AbsS E (tFor wi g tb) (wFor ww wg wb) := fun δ M0 H0 c Φ D ok σ H l R h => by
  obtain ⟨M, m, n, Re⟩ := R.ex
  refine hi δ M σ H ⟨c, l⟩ Re _ _ h fun J H1 xs e1 io h1 => ?_
  obtain ⟨I, I0, Is, Ie⟩ := h1
  have R1 := R.ext e1
  have Re1 := Re.ext e1
  have RI := R1.inner m Re1
  refine ⟨fun i k σ' H' => k = xs.length - i ∧ i ≤ xs.length ∧ ∃ l', RS δ M H1 E ⟨c.ex, owns l⟩ σ' H' l' ∧ I i l', ⟨xs.length, by simp, Nat.zero_le _, l, RI, I0⟩, ?_⟩
  rintro i k σ' H' ⟨rfl, hle, l', R', hI⟩
  obtain ⟨M', m', n', Re'⟩ := id R'.ex
  have hB : ∀ b, Bn δ M' b → Bn δ M b ∨ H1 b = none := fun b z => z.elim (fun q => .inl (.inl q)) fun q => (n' b q).elim (fun y => .inl (.inr y)) .inr
  have kp : Kept (Bn δ M') H1 H' := R'.kd.1.wide fun b z => z.elim .inl fun q => .inr (m' b (R'.wm b q))
  by_cases hlt : i < xs.length
  · refine .inr ⟨io.go _ hB H' i kp hlt, fun σ2 H2 => ∃ l2, RS δ M H1 E ⟨c.ex, owns l⟩ σ2 H2 l2 ∧ I (i + 1) l2, fun σ2 H2 q => ⟨xs.length - (i + 1), by omega, rfl, hlt, q⟩, fun v H2 y => ?_⟩
    have hN : ∀ b, Bn δ M' b → H' b ≠ none := fun b z => by
      rcases z with z | z
      · obtain ⟨ns, q, _⟩ := Re'.okd b z
        rw [q]; exact fun y => nomatch y
      · obtain ⟨o, q⟩ := Re'.okM b z
        rw [q]; exact fun y => nomatch y
    obtain ⟨k2, r2⟩ := io.yld _ hB H' i xs[i] v H2 kp hN (List.getElem?_eq_getElem hlt) y
    · have e2 : Ext δ H' H2 := k2.ext0
      have Re2 := Re'.ext e2
      have R2 := R'.ext e2
      refine hg E δ M' σ' H2 _ l' v _ Re2 r2 _ _ (Is i _ l' (List.getElem?_eq_getElem hlt) hI) fun σ3 l3 Re3 _ n3 h3 => ?_
      refine hb δ M H1 _ { Φ with nx := I (i + 1), ct := I (i + 1), bk := Φ.nx } { D with nx := fun σ2 H2 => ∃ l2, RS δ M H1 E ⟨c.ex, owns l⟩ σ2 H2 l2 ∧ I (i + 1) l2, ct := fun σ2 H2 => ∃ l2, RS δ M H1 E ⟨c.ex, owns l⟩ σ2 H2 l2 ∧ I (i + 1) l2, bk := D.nx } ⟨fun σ4 H4 l4 R4 h4 => ⟨l4, R4, h4⟩, fun v' H4 d k4 r4 h4 => ?_, fun σ4 H4 l4 R4 h4 => ok.nx σ4 H4 l4 (R1.outer m n Re1 R4) h4, fun σ4 H4 l4 R4 h4 => ⟨l4, R4, h4⟩⟩ σ3 H2 l3 ⟨⟨M', m', n', Re3⟩, R2.kd, R2.d0, fun j p ys q => R2.wr j p ys (n3 j p ys q), R2.wm, R2.m0⟩ h3
      refine ok.rt v' H4 d ⟨fun b o e nb => ?_, fun a ha q => k4.2 a ha (R1.kd.2 a ha q)⟩ (r4.less (bn_less m)) h4
      refine k4.1 b o (R1.kd.1 b o e nb) fun z => ?_
      rcases z with z | ⟨j, ys, z⟩
      · exact nb (.inl z)
      · rcases R.wr j b ys z with y | y
        · exact nb (.inr y)
        · rw [y] at e; cases e
  · have e : i = xs.length := by omega
    subst e
    exact .inl ⟨io.stop _ hB H' _ kp (Nat.le_refl _), ok.nx σ' H' l' (R1.outer m n Re1 R') (Ie l' hI)⟩
theorem ds_for {ix : List Nat} {tg iter : Expr} {body : List Stmt} {wi : TI} {ww : WI} {g : TG} {wg : WG} {tb : TS} {wb : WS} (hp : PassesOwn (model X.prog X.w) X.A X.env X.xe) (hc : X.calm = true) (hi : DI X E tg iter wi ww) (hg : DG X ix tg g wg) (hb : DSs X E body tb wb)
    (hs : ∀ x, foldedSetIterable iter X.env x = pure x := by intro _; rfl) : DS X E (.For tg iter body [] pos) (tFor wi g tb) (wFor ww wg wb) := ⟨ps_for hp hc hi.p hg.p hb.p hs, abs_for hi.a hg.a hb.a⟩
def wWhile (v : WT) (wb : WS) : WS := fun c Φ l => ∃ I : Nat → Sl → Prop, (∃ m, I m l) ∧ ∀ m l', I m l' → v ⟨c, l'⟩ fun k => if k = true then wb c { Φ with nx := fun l2 => ∃ m', m' < m ∧ I m' l2, ct := fun l2 => ∃ m', m' < m ∧ I m' l2, bk := Φ.nx } l' else Φ.nx l'
theorem ds_while {v : Expr} {body : List Stmt} {tc : TT} {wc : WT} {tb : TS} {wb : WS} (hp : PassesOwn (model X.prog X.w) X.A X.env X.xe) (hc : DT X E v tc wc) (hb : DSs X E body tb wb) : DS X E (.While v body [] pos) (tWhile tc tb) (wWhile wc wb) := by
  refine ⟨ps_while hp hc.p hb.p, fun δ M0 H0 c Φ D ok σ H l R h => ?_⟩
  obtain ⟨I, ⟨m0, I0⟩, Is⟩ := h
  refine ⟨fun k σ' H' => ∃ l', RS δ M0 H0 E c σ' H' l' ∧ I k l', ⟨m0, l, R, I0⟩, ?_⟩
  rintro k σ' H' ⟨l', R', hI⟩
  obtain ⟨M, m, n, Re⟩ := R'.ex
  refine hc.a δ M σ' H' ⟨c, l'⟩ Re _ _ (Is k l' hI) fun b H1 e1 h1 => ?_
  cases b with
  | false => exact ok.nx σ' H1 l' (R'.ext e1) h1
  | true =>
    refine ⟨fun σ2 H2 => ∃ l2, RS δ M0 H0 E c σ2 H2 l2 ∧ ∃ m', m' < k ∧ I m' l2, fun σ2 H2 ⟨l2, R2, m', hm, h2⟩ => ⟨m', hm, l2, R2, h2⟩, ?_⟩
    exact hb.a δ M0 H0 c { Φ with nx := fun l2 => ∃ m', m' < k ∧ I m' l2, ct := fun l2 => ∃ m', m' < k ∧ I m' l2, bk := Φ.nx } { D with nx := fun σ2 H2 => ∃ l2, RS δ M0 H0 E c σ2 H2 l2 ∧ ∃ m', m' < k ∧ I m' l2, ct := fun σ2 H2 => ∃ l2, RS δ M0 H0 E c σ2 H2 l2 ∧ ∃ m', m' < k ∧ I m' l2, bk := D.nx } ⟨fun σ4 H4 l4 R4 h4 => ⟨l4, R4, h4⟩, ok.rt, fun σ4 H4 l4 R4 h4 => ok.nx σ4 H4 l4 R4 h4, fun σ4 H4 l4 R4 h4 => ⟨l4, R4, h4⟩⟩ σ' H1 l' (R'.ext e1) h1
end
end Dl

namespace Dl
open PySem L2
/-! ### comprehensions -/
def wipeS (l : Sl) : List Nat → Sl
  | [] => l
  | v :: vs => unS (wipeS l vs) v
where
  unS : Sl → Nat → Sl
    | [], _ => []
    | _ :: r, 0 => none :: r
    | x :: r, i + 1 => x :: unS r i
theorem unS_set : ∀ (l : Sl) (i : Nat), wipeS.unS l i = l.set i none
  | [], _ => rfl
  | _ :: _, 0 => rfl
  | x :: r, i + 1 => by
    show x :: wipeS.unS r i = x :: r.set i none
    rw [unS_set r i]
theorem wipeS_len (l : Sl) : ∀ vs, (wipeS l vs).length = l.length
  | [] => rfl
  | v :: vs => by
    show (wipeS.unS (wipeS l vs) v).length = _
    rw [unS_set, List.length_set, wipeS_len l vs]
theorem wipeS_some {l : Sl} {i : Nat} {s : S} : ∀ {vs : List Nat}, (wipeS l vs)[i]? = some (some s) → l[i]? = some (some s) ∧ i ∉ vs
  | [], h => ⟨h, by simp⟩
  | v :: vs, h => by
    have h' : (wipeS.unS (wipeS l vs) v)[i]? = some (some s) := h
    rw [unS_set] at h'
    by_cases hv : v = i
    · subst hv
      rcases Nat.lt_or_ge v (wipeS l vs).length with y | y
      · rw [List.getElem?_set_self y] at h'; cases h'
      · rw [List.getElem?_eq_none (by rw [List.length_set]; exact y)] at h'; cases h'
    · rw [List.getElem?_set_ne hv] at h'
      obtain ⟨a, b⟩ := wipeS_some h'
      exact ⟨a, fun z => (List.mem_cons.mp z).elim (fun q => hv q.symm) b⟩
theorem wipe_get {σ : L2.St} {i : Nat} : ∀ {vs : List Nat}, i ∉ vs → (wipe σ vs)[i]? = σ[i]?
  | [], _ => rfl
  | v :: vs, h => by
    have h1 : v ≠ i := fun z => h (by rw [z]; exact List.mem_cons_self)
    show ((wipe σ vs).set v none)[i]? = _
    rw [List.getElem?_set_ne h1, wipe_get fun z => h (List.mem_cons_of_mem _ z)]
theorem wipe_in {σ : L2.St} {i : Nat} : ∀ {vs : List Nat}, i ∈ vs → i < σ.length → (wipe σ vs)[i]? = some none
  | [], h, _ => nomatch h
  | v :: vs, h, hl => by
    show ((wipe σ vs).set v none)[i]? = _
    by_cases hv : v = i
    · subst hv
      exact List.getElem?_set_self (by rw [wipe_length]; exact hl)
    · rw [List.getElem?_set_ne hv]
      exact wipe_in ((List.mem_cons.mp h).resolve_left fun z => hv z.symm) hl
theorem wipe_off {vs : List Nat} {a b : L2.St} (h : Off vs a b) : wipe b vs = wipe a vs := by
  refine List.ext_getElem? fun i => ?_
  by_cases hi : i ∈ vs
  · rcases Nat.lt_or_ge i a.length with hl | hl
    · rw [wipe_in (σ := a) hi hl, wipe_in (σ := b) hi (by rw [h.1]; exact hl)]
    · rw [List.getElem?_eq_none (l := wipe a vs) (by rw [wipe_length]; exact hl), List.getElem?_eq_none (l := wipe b vs) (by rw [wipe_length, h.1]; exact hl)]
  · rw [wipe_get hi, wipe_get hi, h.2 i hi]
theorem off_wipe {vs : List Nat} {a : L2.St} : Off vs a (wipe a vs) := ⟨wipe_length a vs, fun _ h => wipe_get h⟩
theorem Ext.mut {δ : Option Addr} {H H' : Hp} {p : Addr} {o : HO} (e : Ext δ H H') (h : H p = none) : Ext δ H (upd H' p o) := ⟨fun b u q n => by rw [upd_ne (ne_of_none q h)]; exact e.1 b u q n, fun a ha d => by
  obtain ⟨ns, q, l⟩ := e.2 a ha d
  obtain ⟨ms, q', _⟩ := d
  exact ⟨ns, by rw [upd_ne (ne_of_none q' h)]; exact q, l⟩⟩
theorem RE.block {δ : Option Addr} {M : List Addr} {H H' : Hp} {E : XK} {σ : L2.St} {c : Ct} {l : Sl} {vs : List Nat} {D : Addr} {o : HO} (R : RE δ M H E σ ⟨c, l⟩) (hD : H D = none) (e : Ext δ H H') (hD' : H' D = some o) :
    RE δ (D :: M) H' E0 (wipe σ vs) ⟨⟨fun _ => False, c.lk⟩, wipeS l vs⟩ := by
  have R1 := R.ext e
  refine ⟨?_, fun j s q => ?_, fun j j' p xs ys z z' => R.one j j' p xs ys (wipeS_some z).1 (wipeS_some z').1, fun b hb => ?_, R1.okd, ?_⟩
  · show (wipeS l vs).length = _
    rw [wipeS_len, wipe_length]
    exact R.len
  · obtain ⟨a, b⟩ := wipeS_some q
    obtain ⟨v, g1, g2⟩ := R.rep j s a
    refine ⟨v, by rw [wipe_get b]; exact g1, ?_⟩
    cases g2 with
    | d r => exact .d ((r.less (bn_cons hD)).keep e.kept)
    | own mm nn hh rr => exact .own (List.mem_cons_of_mem _ mm) nn (e.1 _ _ hh nn) ((rr.less (bn_cons hD)).keep e.kept)
    | dice hh qq => exact .dice hh (e.2 _ hh qq)
  · rcases List.mem_cons.mp hb with z | z
    · exact ⟨_, by rw [z]; exact hD'⟩
    · exact R1.okM b z
  · obtain ⟨He, Me, a, mm, b, q⟩ := R.en
    exact ⟨He, [], a.trans e, fun _ z => (nomatch z), fun j p xs z => b j p xs (wipeS_some z).1, fun _ _ _ _ _ _ z => z.elim⟩
def wLc (wi : WI) (g : WG) (wt : WT) (we : WE) (vs : List Nat) : Env → (List D → Prop) → Prop := fun ρ Φ => wi ρ fun xs => xs.length ≤ 100000 ∧ ∃ I : Nat → List D → Prop, I 0 [] ∧
  (∀ i x acc, xs[i]? = some x → I i acc → g x (wipeS ρ.sl vs) fun l2 => wt ⟨⟨fun _ => False, ρ.c.lk⟩, l2⟩ fun b => if b = true then we ⟨⟨fun _ => False, ρ.c.lk⟩, l2⟩ fun d => I (i + 1) (acc ++ [d]) else I (i + 1) acc) ∧ ∀ acc, I xs.length acc → Φ acc
def wYes : WT := fun _ Φ => Φ true
structure DTs (X : Cx) (E : XK) (ifs : List Expr) (t : TT) (w : WT) : Prop where
  p : PTs X ifs t
  a : AbsT E t w
section
variable {X : Cx} {E : XK} {e elt tg iter : Expr} {te : TE} {w we : WE} {pos : Pos} {wi : TI} {ww : WI} {g : TG} {wg : WG} {tt : TT} {wt : WT} {ifs : List Expr} {scope : Scope} {own : List (Str × Nat)}
theorem dts_nil : DTs X E [] tYes wYes := ⟨pts_nil, fun δ M σ H ρ R Φ Q h k => k true H (Ext.refl H) h⟩
theorem dts_one (h : DT X E e tt wt) : DTs X E [e] tt wt := ⟨pts_one h.p, h.a⟩
theorem abs_lc {vs : List Nat} (hi : AbsI E wi ww) (hg : AbsG vs g wg) (ht : AbsT E0 tt wt) (he : AbsE E0 te we) : AbsF E (tLc wi g tt te vs) (wLc ww wg wt we vs) := fun δ M σ H ρ R Φ Q h k => by
  obtain ⟨c, l⟩ := ρ
  refine hi δ M σ H ⟨c, l⟩ R _ _ h fun J H1 xs e1 io h1 D hD => ?_
  obtain ⟨hz, I, I0, Is, Ie⟩ := h1
  have hDH : H D = none := e1.free R.okd hD
  have ndl : δ ≠ some D := fun z => by
    obtain ⟨ns, q, _⟩ := R.okd D z
    rw [hDH] at q; cases q
  have hB : ∀ b, Bn δ (D :: M) b → Bn δ M b ∨ H1 b = none := bn_cons hD
  refine ⟨fun i m H' => m = xs.length - i ∧ i ≤ xs.length ∧ ∃ acc us, H' D = some (.lst us) ∧ RepL (Bn δ (D :: M)) H' us acc ∧ I i acc ∧ Ext δ H1 H' ∧ acc.length ≤ i, ⟨xs.length, by simp, Nat.zero_le _, [], [], upd_same, .nil, I0, Ext.new hD, Nat.le_refl _⟩, ?_⟩
  rintro i m H' ⟨rfl, hle, acc, us, hu, rl, hI, ex, hal⟩
  have kp : Kept (Bn δ (D :: M)) H1 H' := ex.kept
  by_cases hlt : i < xs.length
  · refine .inr ⟨io.go _ hB H' i kp hlt, fun H2 => ∃ acc us, H2 D = some (.lst us) ∧ RepL (Bn δ (D :: M)) H2 us acc ∧ I (i + 1) acc ∧ Ext δ H1 H2 ∧ acc.length ≤ i + 1, fun H2 q => ⟨xs.length - (i + 1), by omega, rfl, hlt, q⟩, fun v H2 y => ?_⟩
    have RB : RE δ (D :: M) H' E0 (wipe σ vs) ⟨⟨fun _ => False, c.lk⟩, wipeS l vs⟩ := R.block hDH (e1.trans ex) hu
    have hN : ∀ b, Bn δ (D :: M) b → H' b ≠ none := fun b z => by
      rcases z with z | z
      · obtain ⟨ns, q, _⟩ := RB.okd b z
        rw [q]; exact fun y => nomatch y
      · obtain ⟨o, q⟩ := RB.okM b z
        rw [q]; exact fun y => nomatch y
    obtain ⟨k2, r2⟩ := io.yld _ hB H' i xs[i] v H2 kp hN (List.getElem?_eq_getElem hlt) y
    have e2 : Ext δ H' H2 := k2.ext0
    have RB2 := RB.ext e2
    refine hg E0 δ (D :: M) (wipe σ vs) H2 _ _ v _ RB2 r2 _ _ (Is i _ acc (List.getElem?_eq_getElem hlt) hI) fun σ3 l3 R3 o3 n3 h3 => ?_
    refine ⟨(wipe_off o3).trans (wipe_off (off_wipe (vs := vs) (a := σ))), ?_⟩
    refine ht δ (D :: M) σ3 H2 _ R3 _ _ h3 fun b H3 e3 h3' => ?_
    cases b with
    | false =>
      have e23 := e2.trans e3
      exact ⟨acc, us, e23.1 _ _ hu ndl, rl.keep e23.kept, h3', ex.trans e23, Nat.le_succ_of_le hal⟩
    | true =>
      refine he δ (D :: M) σ3 H3 _ (R3.ext e3) _ _ h3' fun y H4 d e4 r4 h4 => ?_
      have e24 := (e2.trans e3).trans e4
      have hu4 := e24.1 _ _ hu ndl
      have kput : Kept (Bn δ (D :: M)) H4 (upd H4 D (.lst (us ++ [y]))) := Kept.put (.inr List.mem_cons_self)
      refine ⟨us, hu4, by rw [rl.length]; exact sz_lt (by omega), acc ++ [d], us ++ [y], upd_same, ((rl.keep e24.kept).app (.cons r4 .nil)).keep kput, h4, (ex.trans e24).mut hD, ?_⟩
      rw [List.length_append]
      exact Nat.succ_le_succ hal
  · have e : i = xs.length := by omega
    subst e
    exact .inl ⟨io.stop _ hB H' _ kp (Nat.le_refl _), k D us H' acc hDH (e1.trans ex) hu rl (Ie acc hI)⟩
theorem df_lc (hc : X.calm = true) (hN : X.N.Nodup) (hi : DI X E tg iter wi ww) (ok : BlkOk X.N X.env.scope scope own)
    (hg : ∀ (s : Shared) (H : Hp) (C : Addr) (cl : List (Str × Addr)) (fp : List Addr), DG (X.blk s H scope (compEnvC scope cl C X.env) fp) (own.map (·.2)) tg g wg)
    (ht : ∀ (s : Shared) (H : Hp) (C : Addr) (cl : List (Str × Addr)) (fp : List Addr), DTs (X.blk s H scope (compEnvC scope cl C X.env) fp) E0 ifs tt wt)
    (he : ∀ (s : Shared) (H : Hp) (C : Addr) (cl : List (Str × Addr)) (fp : List Addr), DE (X.blk s H scope (compEnvC scope cl C X.env) fp) E0 elt te we) (hs : ∀ x, foldedSetIterable iter X.env x = pure x := by intro _; rfl) :
    DF X E (.ListComp elt [⟨tg, iter, ifs, 0⟩] scope pos) (tLc wi g tt te (own.map (·.2))) (wLc ww wg wt we (own.map (·.2))) :=
  ⟨pe_lc hc hN hi.p ok (fun s H C cl fp => (hg s H C cl fp).p) (fun s H C cl fp => (ht s H C cl fp).p) (fun s H C cl fp => (he s H C cl fp).p) hs,
    abs_lc hi.a (hg X.s_0 X.H_0 X.env.locals [] []).a (ht X.s_0 X.H_0 X.env.locals [] []).a (he X.s_0 X.H_0 X.env.locals [] []).a⟩
/-- y = [..] on one line -/
theorem ds_setLc {i : Nat} {y : Str} {py spos : Pos} (hc : X.calm = true) (hN : X.N.Nodup) (hy : X.N[i]? = some y) (hyl : X.env.scope.names.lookup y = some .local) (hsw : swapsWith (.ListComp elt [⟨tg, iter, ifs, 0⟩] scope pos) (some (.Name y py)) spos.line X.env = pure true)
    (hi : DI X E tg iter wi ww) (ok : BlkOk X.N X.env.scope scope own)
    (hg : ∀ (s : Shared) (H : Hp) (C : Addr) (cl : List (Str × Addr)) (fp : List Addr), DG (X.blk s H scope (compEnvC scope cl C X.env) fp) (own.map (·.2)) tg g wg)
    (ht : ∀ (s : Shared) (H : Hp) (C : Addr) (cl : List (Str × Addr)) (fp : List Addr), DTs (X.blk s H scope (compEnvC scope cl C X.env) fp) E0 ifs tt wt)
    (he : ∀ (s : Shared) (H : Hp) (C : Addr) (cl : List (Str × Addr)) (fp : List Addr), DE (X.blk s H scope (compEnvC scope cl C X.env) fp) E0 elt te we) (hs : ∀ x, foldedSetIterable iter X.env x = pure x := by intro _; rfl) :
    DS X E (.Assign [.Name y py] (.ListComp elt [⟨tg, iter, ifs, 0⟩] scope pos) spos) (tAsg (tLc wi g tt te (own.map (·.2))) (gName i)) (wAsg (wNew (wLc ww wg wt we (own.map (·.2)))) (wgName i)) :=
  ⟨ps_setLc hc hN hy hyl hsw hi.p ok (fun s H C cl fp => (hg s H C cl fp).p) (fun s H C cl fp => (ht s H C cl fp).p) (fun s H C cl fp => (he s H C cl fp).p) hs,
    abs_asg (fun δ M σ H ρ R Φ Q h k => abs_lc hi.a (hg X.s_0 X.H_0 X.env.locals [] []).a (ht X.s_0 X.H_0 X.env.locals [] []).a (he X.s_0 X.H_0 X.env.locals [] []).a δ M σ H ρ R _ _ h fun q vs H1 ds f e1 hq rl h1 => k _ H1 _ e1 (.lst (R.fresh f) hq (rl.less bn_tail)) h1) (ag_name (ix := [i]) (by simp))⟩
theorem ds_ownLc {i : Nat} {y : Str} {py spos : Pos} (hc : X.calm = true) (hN : X.N.Nodup) (hy : X.N[i]? = some y) (hyl : X.env.scope.names.lookup y = some .local) (hsw : swapsWith (.ListComp elt [⟨tg, iter, ifs, 0⟩] scope pos) (some (.Name y py)) spos.line X.env = pure true)
    (hi : DI X E tg iter wi ww) (ok : BlkOk X.N X.env.scope scope own)
    (hg : ∀ (s : Shared) (H : Hp) (C : Addr) (cl : List (Str × Addr)) (fp : List Addr), DG (X.blk s H scope (compEnvC scope cl C X.env) fp) (own.map (·.2)) tg g wg)
    (ht : ∀ (s : Shared) (H : Hp) (C : Addr) (cl : List (Str × Addr)) (fp : List Addr), DTs (X.blk s H scope (compEnvC scope cl C X.env) fp) E0 ifs tt wt)
    (he : ∀ (s : Shared) (H : Hp) (C : Addr) (cl : List (Str × Addr)) (fp : List Addr), DE (X.blk s H scope (compEnvC scope cl C X.env) fp) E0 elt te we) (hs : ∀ x, foldedSetIterable iter X.env x = pure x := by intro _; rfl) :
    DS X E (.Assign [.Name y py] (.ListComp elt [⟨tg, iter, ifs, 0⟩] scope pos) spos) (tAsg (tLc wi g tt te (own.map (·.2))) (gName i)) (wOwn (wLc ww wg wt we (own.map (·.2))) i) :=
  ⟨ps_setLc hc hN hy hyl hsw hi.p ok (fun s H C cl fp => (hg s H C cl fp).p) (fun s H C cl fp => (ht s H C cl fp).p) (fun s H C cl fp => (he s H C cl fp).p) hs,
    abs_own (abs_lc hi.a (hg X.s_0 X.H_0 X.env.locals [] []).a (ht X.s_0 X.H_0 X.env.locals [] []).a (he X.s_0 X.H_0 X.env.locals [] []).a)⟩
/-- o.m() -/
def wMeth0 (C : Addr) (m : Str) (P : List S → (D → Prop) → Prop) (w : WE) : WE := fun ρ Φ => w ρ fun d => match d with
  | .obj C' ns xs => C' = C ∧ (ns.zip xs).lookup m = none ∧ P [.d (.obj C' ns xs)] Φ
  | _ => False
theorem RepL.nofield {B : Addr → Prop} {H : Hp} {f : Str} : ∀ {ns : List Str} {vs : List V} {ds : List D}, RepL B H vs ds → (ns.zip ds).lookup f = none → (ns.zip vs).lookup f = none
  | [], _, _, _, _ => rfl
  | _ :: _, _, _, .nil, _ => rfl
  | n :: ns, v :: vs, d :: ds, .cons r t, h => by
    show (((n, v) :: ns.zip vs).lookup f) = none
    have h' : (((n, d) :: ns.zip ds).lookup f) = none := h
    rw [List.lookup_cons] at h' ⊢
    by_cases q : (f == n) = true
    · rw [q] at h'; cases h'
    · have q' : (f == n) = false := by simpa using q
      rw [q'] at h' ⊢
      exact RepL.nofield t h'
theorem de_meth0 {o : Expr} {pl : Sem Bool} {m : Str} {apos : Pos} {C f k : Nat} {fd : FuncData} {ps : List Str} {P : List S → (D → Prop) → Prop} (he : DE X E o te w) (c : Cls X.K C) (hm : Meth X.K C m f) (F : FnOk X.prog X.w X.K X.mg X.base CX0 k f fd ps (spD 1 P)) (hr : Room k X.A) (hb : Binds X.K fd ps [])
    (ht : eval (.Call (.Attribute o m apos) [] [] pos) X.env = (do
      let ov ← eval o X.env
      standAt apos.atName
      let (f, first) ← holding [ov] (getMethod ov m pl)
      callWith pos f first (backTo pos (starEach [] X.env)) (backToKw pos (keywordEach [] X.env))) := by rfl) :
    DE X E (.Call (.Attribute o m apos) [] [] pos) (tMeth C m (spD 1 P) [] E0 te tNil) (wMeth0 C m P w) := by
  refine ⟨pe_meth0 he.p c hm F hr hb .nil pass0 ht, fun δ M σ H ρ R Φ Q h k => ?_⟩
  refine he.a δ M σ H ρ R _ _ h fun v H1 d e1 r1 h1 => ?_
  cases r1 <;> first | exact False.elim h1 | skip
  rename_i a C' dx ns vs ds n ho hl rl
  obtain ⟨rfl, hz, h1⟩ := h1
  have R1 := R.ext e1
  refine ⟨a, dx, _, rfl, ho, rl.nofield hz, ?_⟩
  exact ⟨δ, M, [.d (.obj C' ns ds)], Φ, rfl, .cons (.d (.obj n ho hl rl)) .nil, rfl, R1.okM, R1.okd, h1, fun v H2 d e2 r2 h2 => k v H2 d (e1.trans e2) r2 h2⟩
end

/-! ### a def's body -/
def startS (n : Nat) (ss : List S) : Sl := ss.map some ++ List.replicate (n - ss.length) none
theorem start_at {ss : List S} {n i : Nat} {s : S} (h : (startS n ss)[i]? = some (some s)) : ss[i]? = some s := by
  unfold startS at h
  rcases Nat.lt_or_ge i ss.length with y | y
  · rw [List.getElem?_append_left (by rw [List.length_map]; exact y), List.getElem?_map] at h
    cases q : ss[i]? with
    | none => rw [q] at h; cases h
    | some z => rw [q] at h; cases h; rfl
  · rw [List.getElem?_append_right (by rw [List.length_map]; exact y)] at h
    have := List.mem_of_getElem? h
    have := List.eq_of_mem_replicate this
    cases this
theorem paired_at {δ : Option Addr} {M : List Addr} {H : Hp} : ∀ {vs : List V} {ss : List S} {i : Nat} {s : S}, Paired (RepS δ M H) vs ss → ss[i]? = some s → ∃ v, vs[i]? = some v ∧ RepS δ M H v s
  | _, _, 0, _, .cons r _, e => by
    have e' := Option.some.inj e
    subst e'
    exact ⟨_, rfl, r⟩
  | _, _, i + 1, _, .cons _ t, e => by
    obtain ⟨v, e1, r⟩ := paired_at (i := i) t (by simpa using e)
    exact ⟨v, by simpa using e1, r⟩
theorem noOwn_at : ∀ {ss : List S} {i : Nat} {p : Addr} {xs : List D}, noOwn ss = true → ss[i]? ≠ some (.own p xs)
  | [], _, _, _, _ => fun z => by cases z
  | .own _ _ :: _, _, _, _, h => by cases h
  | .d _ :: r, 0, _, _, _ => fun z => by cases z
  | .dice :: r, 0, _, _, _ => fun z => by cases z
  | .d _ :: r, i + 1, _, _, h => fun z => noOwn_at (ss := r) (i := i) h (by simpa using z)
  | .dice :: r, i + 1, _, _, h => fun z => noOwn_at (ss := r) (i := i) h (by simpa using z)
theorem rs_start {δ : Option Addr} {M : List Addr} {H : Hp} {N : List Str} {vs : List V} {ss : List S} {E : XK} {ex : XD → Prop} (hp : Paired (RepS δ M H) vs ss) (no : noOwn ss = true) (okM : ∀ b, b ∈ M → ∃ o, H b = some o) (okd : ∀ a, δ = some a → DiceAt H a)
    (hex : ∀ cls d H' fs, Ext δ H H' → RepX δ M H' d ⟨cls, fs⟩ → ex ⟨cls, fs⟩ → E cls d H') : RS δ M H E ⟨ex, fun _ => False⟩ (L2.start N vs) H (startS N.length ss) := by
  have noown : ∀ {i : Nat} {p : Addr} {xs : List D}, (startS N.length ss)[i]? ≠ some (some (.own p xs)) := fun z => noOwn_at no (start_at z)
  refine ⟨⟨M, fun _ h => h, fun _ h => .inl h, ⟨?_, fun i s h => ?_, fun i j p xs ys h => absurd h noown, okM, okd, ⟨H, M, Ext.refl H, fun b hb => ⟨hb, fun z => by
    obtain ⟨o, q⟩ := okM b hb
    rw [z] at q; cases q⟩, fun i p xs h => absurd h noown, hex⟩⟩⟩, KD.refl H, okd, fun i p xs h => absurd h noown, fun _ h => h.elim, fun b hb z => by
    obtain ⟨o, q⟩ := okM b hb
    rw [z] at q; cases q⟩
  · show (startS N.length ss).length = _
    unfold startS L2.start
    rw [List.length_append, List.length_append, List.length_map, List.length_map, List.length_replicate, List.length_replicate, hp.length]
  · obtain ⟨v, h1, h2⟩ := paired_at hp (start_at h)
    refine ⟨v, ?_, h2⟩
    have hl : i < vs.length := (List.getElem?_eq_some_iff.mp h1).1
    unfold L2.start
    rw [List.getElem?_append_left (by rw [List.length_map]; exact hl), List.getElem?_map, h1]
    rfl
section
variable {Pr : Program} {w : World} {K : PySem.W.Frag} {mg : Str → Option Value} {base : Heap} {x qual : Str} {st : Stmt} {f : Addr} {fd : FuncData} {N ps : List Str} {k n : Nat}
/-- THE RULE: a def whose body, over data, does what its promise says -/
theorem fn_D {P : List S → (D → Prop) → Prop} (F : Fun K x qual st f fd) (Sc : FnScope N ps (defScope st)) (hn : ps.length = n)
    (hbody : ∀ (cdv : Value) (A : Around) (outer : List PySem.Env) (s : Shared) (H : Hp) (Eo : XK), Room k (A.deeper (PyProof.Rows.envOfC qual (defScope st) s.heap.objs.size f cdv)) →
      ∃ t w', DSs ((cxOf CX0 Pr w K mg base N qual (defScope st) f cdv A outer s H Eo).nox) E0 (defBody st) t w' ∧ ∀ ss Φ, ss.length = n → P ss Φ → w' ⟨fun _ => False, fun _ => False⟩ { nx := fun _ => Φ .non, rt := Φ } (startS N.length ss)) : FnOk Pr w K mg base CX0 (k + 1) f fd ps (spD n P) := by
  refine F.ok Sc (fun vs H Q E h => ?_) (fun cdv A outer s H vs Q E hr h => ?_)
  · obtain ⟨δ, M, ss, Φ, h1, _⟩ := h
    rw [h1, hn]
  · obtain ⟨δ, M, ss, Φ, h1, h2, h3, h4, h5, h6, h7⟩ := h
    obtain ⟨t, w', hs, hw⟩ := hbody cdv A outer s H E hr
    refine ⟨t, hs.p, hs.a δ M H ⟨fun _ => False, fun _ => False⟩ { nx := fun _ => Φ .non, rt := Φ } _ ⟨fun σ H' l R h => h7 .non H' .non R.kd.toExt .non h, fun v H' d kd r h => h7 v H' d kd.toExt r h, fun _ _ _ _ h => h.elim, fun _ _ _ _ h => h.elim⟩ _ H _ (rs_start h2 h3 h4 h5 fun _ _ _ _ _ _ z => z.elim) (hw ss Φ (by rw [← h2.length, h1]) h6)⟩
/-- .. of one that may raise -/
theorem fn_X {P : List S → (D → Prop) → (XD → Prop) → Prop} (F : Fun K x qual st f fd) (Sc : FnScope N ps (defScope st)) (hn : ps.length = n)
    (hbody : ∀ (cdv : Value) (A : Around) (outer : List PySem.Env) (s : Shared) (H : Hp) (E : XK), Room k (A.deeper (PyProof.Rows.envOfC qual (defScope st) s.heap.objs.size f cdv)) →
      ∃ t w', DSs (cxOf (L2.CX Pr w) Pr w K mg base N qual (defScope st) f cdv A outer s H E) E (defBody st) t w' ∧ ∀ ss Φ Ψ, ss.length = n → P ss Φ Ψ → w' ⟨Ψ, fun _ => False⟩ { nx := fun _ => Φ .non, rt := Φ } (startS N.length ss)) : FnOk Pr w K mg base (L2.CX Pr w) (k + 1) f fd ps (spX n P) := by
  refine F.okX Sc (fun vs H Q E h => ?_) (fun cdv A outer s H vs Q E hr h => ?_)
  · obtain ⟨δ, M, ss, Φ, Ψ, h1, _⟩ := h
    rw [h1, hn]
  · obtain ⟨δ, M, ss, Φ, Ψ, h1, h2, h3, h4, h5, h6, h7, h8⟩ := h
    obtain ⟨t, w', hs, hw⟩ := hbody cdv A outer s H E hr
    refine ⟨t, hs.p, hs.a δ M H ⟨Ψ, fun _ => False⟩ { nx := fun _ => Φ .non, rt := Φ } _ ⟨fun σ H' l R h => h7 .non H' .non R.kd.toExt .non h, fun v H' d kd r h => h7 v H' d kd.toExt r h, fun _ _ _ _ h => h.elim, fun _ _ _ _ h => h.elim⟩ _ H _ (rs_start h2 h3 h4 h5 h8) (hw ss Φ Ψ (by rw [← h2.length, h1]) h6)⟩
end
end Dl

namespace Dl
open PySem L2 PyProof.Rows
section
variable {X : Cx} {E : XK}
/-! ### tuples that CPython hands back as they are -/
def rCatT0 (K : PySem.W.Frag) : R2 := fun x y H Q => ∃ a b ys, x = .ref a ∧ y = .ref b ∧ SqT K H a [] ∧ SqT K H b ys ∧ Q (.ref b) H
theorem op_catT0 : OpR X (binaryOp .Add) (rCatT0 X.K) := by
  intro pins s σ H x y v u Q I rx ry h
  obtain ⟨a, b, ys, rfl, rfl, h1, h2, q⟩ := h
  cases rx
  cases ry
  obtain ⟨its, r1, ht, _⟩ := I.tuple h1
  obtain ⟨jts, r2, hb, _⟩ := I.tuple h2
  obtain ⟨⟨cls, dd, data, sl⟩, ho, hc, n, hd⟩ := id ht
  obtain ⟨⟨cls2, dd2, data2, sl2⟩, ho2, hc2, n2, hd2⟩ := id hb
  simp only at hc hd hc2 hd2
  subst hc hd hc2 hd2
  have e : its = [] := by cases r1; rfl
  refine concat_meets ⟨_, ho, rfl⟩ ⟨_, ho2, rfl⟩ noFill_tuple_add seq_tuple_add PySem.F.slot_tuple_add PySem.F.entry_tuple_add (PySem.F.args_tuple_add_2 _ _)
      (tuple_addW0 a b its.toArray jts.toArray n n2 dd dd2 sl sl2 (by rw [e]; rfl)) ⟨ho, ho2, ?_⟩
  exact ⟨.ref b, H, I, rfl, q⟩
theorem tuple_mulW1 (l : Addr) (items : Array Value) (n : Nat) (dd : Option Addr) (sl : Array (Option Value)) (u : Tok) :
    Meets (Builtin.«tuple.__mul__» ⟨[.ref l, .int 1 u], []⟩) (fun _ R s => s.heap.get? l = some { cls := .type "tuple", dict := dd, data := .seq items n, slots := sl } ∧ R (.ok (.ret (Value.ref l))) { s with heap := s.heap, toks := s.toks }) :=
  .of_wp fun prog w A R s h => by
    obtain ⟨hp, g, d, tk, os⟩ := s
    obtain ⟨hl, h⟩ := h
    have f1 := AutoSeq1.idx_int
    wp_walk using wpAny_loadPart' hl
    repeat (first
      | (refine wpAny_ite_false (by decide) ?_; wp_walk using wpAny_loadPart' hl)
      | (refine wpAny_ite_true (by simp) ?_; wp_walk using wpAny_loadPart' hl))
    exact ⟨_, rfl, h⟩
def rRepT1 (K : PySem.W.Frag) : R2 := fun x y H Q => ∃ l xs, x = .ref l ∧ y = .int 1 ∧ SqT K H l xs ∧ Q (.ref l) H
theorem op_repT1 : OpR X (binaryOp .Mult) (rRepT1 X.K) := by
  intro pins s σ H x y v u Q I rx ry h
  obtain ⟨l, xs, rfl, rfl, hT, q⟩ := h
  cases rx
  obtain ⟨t, rfl⟩ := ry
  obtain ⟨its, r, ⟨⟨cls, dd, data, sl⟩, ho, hc, n, hd⟩, hs⟩ := I.tuple hT
  simp only at hc hd
  subst hc hd
  refine wpAny_binaryOp_repeat_ref (T := "tuple") (U := "int") (by decide) ⟨_, ho, rfl⟩ (fun s' => typeIs_int s' 1 t) noFill_tuple_mul F.fills_int_mul F.slot_int_rmul repeat_tuple F.slot_int_index.lookup
    (call_meets F.slot_int_rmul (typeIs_int s 1 t) F.entry_int_rmul (F.args_int_rmul_2 _ _) (int_rmul_tuple 1 t l its.toArray n dd sl)
      ⟨ho, rfl, ⟨_, ho, rfl⟩, call_meets F.slot_tuple_mul ⟨_, ho, rfl⟩ F.entry_tuple_mul (F.args_tuple_mul_2 _ _) (tuple_mulW1 l its.toArray n dd sl t) ⟨ho, ?_⟩⟩)
  exact ⟨.ref l, H, I, rfl, q⟩
end
/-! ### one rule for a sign, whatever stands on its sides -/
theorem ar_or {r r' : R2} {w w' : WR} {wu : WR} (h : AbsR r w) (h' : AbsR r' w') (hu : ∀ d f Φ, wu d f Φ → w d f Φ ∨ w' d f Φ) : AbsR (fun x y H Q => r x y H Q ∨ r' x y H Q) wu := by
  intro δ M H fr x y d f rx ry Φ Q hw k
  rcases hu d f Φ hw with z | z
  · exact .inl (h δ M H fr x y d f rx ry Φ Q z k)
  · exact .inr (h' δ M H fr x y d f rx ry Φ Q z k)
def wCat : WR := fun d f Φ => match d, f with
  | .lst xs, .lst ys => xs.length + ys.length ≤ 100000 ∧ Φ (.lst (xs ++ ys))
  | _, _ => False
theorem ar_cat : AbsR rCat wCat := by
  intro δ M H fr x y d f rx ry Φ Q h k
  cases rx <;> cases ry <;> first | exact False.elim h | skip
  rename_i n s r b us ys m t q
  exact ⟨_, _, _, _, rfl, rfl, s, t, by rw [r.length, q.length]; exact sz_of h.1, fun p hp => k _ _ _ (Ext.new hp) (.lst (fr p hp) upd_same ((r.app q).keep (Kept.new hp))) h.2⟩
def wCatT : WR := fun d f Φ => match d, f with
  | .tup xs, .tup ys => xs.length + ys.length ≤ 100000 ∧ Φ (.tup (xs ++ ys))
  | _, _ => False
theorem ar_catT {K : PySem.W.Frag} : AbsR (fun x y H Q => rCatT K x y H Q ∨ rCatT0 K x y H Q) wCatT := by
  intro δ M H fr x y d f rx ry Φ Q h k
  cases rx <;> cases ry <;> first | exact False.elim h | skip
  rename_i a us xs n s r b vs ys m t q
  by_cases hu : us = []
  · subst hu
    cases r
    exact .inr ⟨_, _, _, rfl, rfl, SqT.of s, SqT.of t, k _ H _ (Ext.refl H) (.tup m t q) h.2⟩
  · refine .inl ⟨_, _, _, _, rfl, rfl, SqT.of s, SqT.of t, hu, by rw [r.length, q.length]; exact sz_of h.1, fun hv => ?_, fun hv p hp => k _ _ _ (Ext.new hp) (.tup (fr p hp) upd_same ((r.app q).keep (Kept.new hp))) h.2⟩
    subst hv
    cases q
    have h2 := h.2
    rw [List.append_nil] at h2
    exact k _ H _ (Ext.refl H) (.tup n s r) h2
/-- + -/
def rAddU (K : PySem.W.Frag) : R2 := fun x y H Q => (rI0 fun i j => .int (i + j)) x y H Q ∨ (rCat x y H Q ∨ (rCatT K x y H Q ∨ rCatT0 K x y H Q))
def wAdd : WR := fun d f Φ => match d, f with
  | .int i, .int j => Φ (.int (i + j))
  | .lst xs, .lst ys => xs.length + ys.length ≤ 100000 ∧ Φ (.lst (xs ++ ys))
  | .tup xs, .tup ys => xs.length + ys.length ≤ 100000 ∧ Φ (.tup (xs ++ ys))
  | _, _ => False
theorem op_addU {X : Cx} : OpR X (binaryOp .Add) (rAddU X.K) := op_add.or (op_cat.or (op_catT.or op_catT0))
theorem ar_addU {K : PySem.W.Frag} : AbsR (rAddU K) wAdd := ar_or ar_add (ar_or ar_cat ar_catT (wu := fun d f Φ => match d, f with
  | .lst xs, .lst ys => xs.length + ys.length ≤ 100000 ∧ Φ (.lst (xs ++ ys))
  | .tup xs, .tup ys => xs.length + ys.length ≤ 100000 ∧ Φ (.tup (xs ++ ys))
  | _, _ => False) fun d f Φ h => by cases d <;> cases f <;> first | exact False.elim h | exact .inl h | exact .inr h) fun d f Φ h => by cases d <;> cases f <;> first | exact False.elim h | exact .inl h | exact .inr h
/-- * -/
def wRep : WR := fun d f Φ => match d, f with
  | .lst xs, .int k => (-(2 ^ 63) ≤ k ∧ k < 2 ^ 63 ∧ xs.length * k.toNat ≤ 100000) ∧ Φ (.lst (List.replicate k.toNat xs).flatten)
  | _, _ => False
theorem ar_rep : AbsR rRep wRep := by
  intro δ M H fr x y d f rx ry Φ Q h k
  cases rx <;> cases ry <;> first | exact False.elim h | skip
  rename_i n s r j
  exact ⟨_, _, _, rfl, rfl, s, h.1.1, h.1.2.1, by rw [r.length]; exact sz_of h.1.2.2, fun p hp => k _ _ _ (Ext.new hp) (.lst (fr p hp) upd_same ((r.rep _).keep (Kept.new hp))) h.2⟩
def wRepT : WR := fun d f Φ => match d, f with
  | .tup xs, .int k => (xs ≠ [] ∧ 1 ≤ k ∧ k ≤ 1000 ∧ xs.length ≤ 1000) ∧ Φ (.tup (List.replicate k.toNat xs).flatten)
  | _, _ => False
theorem ar_repT {K : PySem.W.Frag} : AbsR (fun x y H Q => rRepT K x y H Q ∨ rRepT1 K x y H Q) wRepT := by
  intro δ M H fr x y d f rx ry Φ Q h k
  cases rx <;> cases ry <;> first | exact False.elim h | skip
  rename_i a us xs n s r j
  obtain ⟨⟨h1, h2, h3, h4⟩, h5⟩ := h
  by_cases hj : j = 1
  · subst hj
    refine .inr ⟨_, _, rfl, rfl, SqT.of s, k _ H _ (Ext.refl H) (.tup n s r) ?_⟩
    have e : (List.replicate (1 : Int).toNat xs).flatten = xs := by
      show (List.replicate 1 xs).flatten = xs
      simp
    rw [e] at h5
    exact h5
  · refine .inl ⟨_, _, _, rfl, rfl, SqT.of s, fun z => ?_, by omega, h3, by rw [r.length]; exact h4, fun p hp => k _ _ _ (Ext.new hp) (.tup (fr p hp) upd_same ((r.rep _).keep (Kept.new hp))) h5⟩
    subst z
    cases r
    exact h1 rfl
def rMulU (K : PySem.W.Frag) : R2 := fun x y H Q => (rI CMul fun i j => .int (i * j)) x y H Q ∨ (rRep x y H Q ∨ (rRepT K x y H Q ∨ rRepT1 K x y H Q))
def wMul : WR := fun d f Φ => match d, f with
  | .int i, .int j => CMul i j ∧ Φ (.int (i * j))
  | .lst xs, .int k => (-(2 ^ 63) ≤ k ∧ k < 2 ^ 63 ∧ xs.length * k.toNat ≤ 100000) ∧ Φ (.lst (List.replicate k.toNat xs).flatten)
  | .tup xs, .int k => (xs ≠ [] ∧ 1 ≤ k ∧ k ≤ 1000 ∧ xs.length ≤ 1000) ∧ Φ (.tup (List.replicate k.toNat xs).flatten)
  | _, _ => False
theorem op_mulU {X : Cx} : OpR X (binaryOp .Mult) (rMulU X.K) := op_mul.or (op_rep.or (op_repT.or op_repT1))
theorem ar_mulU {K : PySem.W.Frag} : AbsR (rMulU K) wMul := ar_or ar_mul (ar_or ar_rep ar_repT (wu := fun d f Φ => match d, f with
  | .lst xs, .int k => (-(2 ^ 63) ≤ k ∧ k < 2 ^ 63 ∧ xs.length * k.toNat ≤ 100000) ∧ Φ (.lst (List.replicate k.toNat xs).flatten)
  | .tup xs, .int k => (xs ≠ [] ∧ 1 ≤ k ∧ k ≤ 1000 ∧ xs.length ≤ 1000) ∧ Φ (.tup (List.replicate k.toNat xs).flatten)
  | _, _ => False) fun d f Φ h => by cases d <;> cases f <;> first | exact False.elim h | exact .inl h | exact .inr h) fun d f Φ h => by cases d <;> cases f <;> first | exact False.elim h | exact .inl h | exact .inr h

/-! ### == of data -/
mutual
def D.py : D → PyData
  | .non => .none
  | .bl b => .bool b
  | .int i => .int i
  | .str x => .str x
  | .lst xs => .list (D.pys xs)
  | .tup xs => .tuple (D.pys xs)
  | .obj .. => .none
  | .raw _ => .none
def D.pys : List D → List PyData
  | [] => []
  | x :: xs => D.py x :: D.pys xs
end
mutual
def D.plain : D → Bool
  | .non => true
  | .bl b => true
  | .int i => true
  | .str x => true
  | .lst xs => D.plains xs
  | .tup xs => D.plains xs
  | .obj .. => false
  | .raw _ => false
def D.plains : List D → Bool
  | [] => true
  | x :: xs => D.plain x && D.plains xs
end
section
variable {K : PySem.W.Frag} {B : Addr → Prop} {H : Hp}
mutual
theorem Rep.dp : ∀ {v : V} {d : D}, Rep B H v d → d.plain = true → Dp K H v d.py
  | _, _, .non, _ => by unfold D.py; exact .non
  | _, _, .bl b, _ => by unfold D.py; exact .bl b
  | _, _, .int i, _ => by unfold D.py; exact .int i
  | _, _, .str x, _ => by unfold D.py; exact .str x
  | _, _, .lst n s r, h => by unfold D.plain at h; unfold D.py; exact .lst (SqL.of s) (RepL.dp r h)
  | _, _, .tup n s r, h => by unfold D.plain at h; unfold D.py; exact .tup (SqT.of s) (RepL.dp r h)
  | _, _, .obj n s l r, h => by unfold D.plain at h; cases h
  | _, _, .raw v, h => by unfold D.plain at h; cases h
theorem RepL.dp : ∀ {vs : List V} {ds : List D}, RepL B H vs ds → D.plains ds = true → DpAll K H vs (D.pys ds)
  | _, _, .nil, _ => by unfold D.pys; exact .nil
  | _, _, .cons r t, h => by
    unfold D.plains at h
    obtain ⟨h1, h2⟩ := Bool.and_eq_true_iff.mp h
    unfold D.pys
    exact .cons (Rep.dp r h1) (RepL.dp t h2)
end
end
/-- == : flat things at once; else at any depth -/
def wEqU : WR := fun d f Φ => match eqS d f with
  | some b => Φ (.bl b)
  | none => (d.plain = true ∧ f.plain = true ∧ SeqAt.shaped d.py = true ∧ SeqAt.shaped f.py = true) ∧ Φ (.bl (PyData.eqv d.py f.py))
def wNeU : WR := fun d f Φ => match eqS d f with
  | some b => Φ (.bl (!b))
  | none => (d.plain = true ∧ f.plain = true ∧ SeqAt.shaped d.py = true ∧ SeqAt.shaped f.py = true) ∧ Φ (.bl (!PyData.eqv d.py f.py))
theorem ar_eqU {K : PySem.W.Frag} : AbsR (fun x y H Q => rEq x y H Q ∨ rEqD K x y H Q) wEqU := by
  intro δ M H fr x y d f rx ry Φ Q h k
  unfold wEqU at h
  split at h
  · rename_i b e
    obtain ⟨h1, h2⟩ := eqS_is rx ry e
    exact .inl ⟨h1, k _ H _ (Ext.refl H) (by rw [h2]; exact .bl b) h⟩
  · obtain ⟨⟨h1, h2, h3, h4⟩, h⟩ := h
    exact .inr ⟨_, _, rx.dp h1, ry.dp h2, h3, h4, k _ H _ (Ext.refl H) (.bl _) h⟩
theorem ar_neU {K : PySem.W.Frag} : AbsR (fun x y H Q => rNe x y H Q ∨ rNeD K x y H Q) wNeU := by
  intro δ M H fr x y d f rx ry Φ Q h k
  unfold wNeU at h
  split at h
  · rename_i b e
    obtain ⟨h1, h2⟩ := eqS_is rx ry e
    exact .inl ⟨h1, k _ H _ (Ext.refl H) (by rw [h2]; exact .bl _) h⟩
  · obtain ⟨⟨h1, h2, h3, h4⟩, h⟩ := h
    exact .inr ⟨_, _, rx.dp h1, ry.dp h2, h3, h4, k _ H _ (Ext.refl H) (.bl _) h⟩
theorem op_eqU {X : Cx} (hu : X.A.units + 64 < cLine) : OpR X (compareOp .Eq) (fun x y H Q => rEq x y H Q ∨ rEqD X.K x y H Q) := op_eq.or (op_eqD hu)
theorem op_neU {X : Cx} (hu : X.A.units + 64 < cLine) : OpR X (compareOp .NotEq) (fun x y H Q => rNe x y H Q ∨ rNeD X.K x y H Q) := op_ne.or (op_neD hu)

/-! ### x in xs, flat things -/
def flatD : D → Bool
  | .non | .bl _ | .int _ | .str _ => true
  | _ => false
def eqF : D → D → Bool
  | .non, .non => true
  | .bl a, .bl b => a == b
  | .bl a, .int j => (if a then 1 else 0) == j
  | .int i, .bl b => i == (if b then 1 else 0)
  | .int i, .int j => i == j
  | .str x, .str y => x == y
  | _, _ => false
def wIn (neg : Bool) : WR := fun d f Φ => match f with
  | .lst xs => (flatD d = true ∧ xs.all flatD = true) ∧ Φ (.bl (if neg then !(xs.any fun y => eqF y d) else xs.any fun y => eqF y d))
  | .tup xs => (flatD d = true ∧ xs.all flatD = true) ∧ Φ (.bl (if neg then !(xs.any fun y => eqF y d) else xs.any fun y => eqF y d))
  | _ => False

theorem flat_rep {B : Addr → Prop} {H : Hp} {v : V} {d : D} (r : Rep B H v d) (h : flatD d = true) : flatV v = true := by
  cases r <;> first | rfl | cases h
theorem flat_reps {B : Addr → Prop} {H : Hp} : ∀ {vs : List V} {ds : List D}, RepL B H vs ds → ds.all flatD = true → vs.all flatV = true
  | _, _, .nil, _ => rfl
  | _, _, .cons r t, h => by
    rw [List.all_cons, Bool.and_eq_true_iff] at h ⊢
    exact ⟨flat_rep r h.1, flat_reps t h.2⟩
theorem eqF_is {B : Addr → Prop} {H : Hp} {v u : V} {d f : D} (r : Rep B H v d) (q : Rep B H u f) (h : flatD d = true) (h' : flatD f = true) : eqV v u = eqF d f := by
  cases r <;> cases q <;> first | rfl | (cases h; done) | (cases h'; done)
theorem any_is {B : Addr → Prop} {H : Hp} {u : V} {f : D} (q : Rep B H u f) (hf : flatD f = true) : ∀ {vs : List V} {ds : List D}, RepL B H vs ds → ds.all flatD = true → inV u vs = ds.any fun y => eqF y f
  | _, _, .nil, _ => rfl
  | _, _, .cons r t, h => by
    rw [List.all_cons, Bool.and_eq_true_iff] at h
    have ih := any_is q hf t h.2
    unfold inV at ih ⊢
    rw [List.any_cons, List.any_cons, eqF_is r q h.1 hf, ih]
theorem ar_in {K : PySem.W.Frag} {neg : Bool} : AbsR (rIn K neg) (wIn neg) := by
  intro δ M H fr x y d f rx ry Φ Q h k
  cases ry <;> first | exact False.elim h | skip
  · rename_i n s r
    obtain ⟨⟨h1, h2⟩, h⟩ := h
    refine ⟨_, _, rfl, .inl (SqL.of s), flat_rep rx h1, flat_reps r h2, k _ H _ (Ext.refl H) ?_ h⟩
    rw [any_is rx h1 r h2]
    exact .bl _
  · rename_i n s r
    obtain ⟨⟨h1, h2⟩, h⟩ := h
    refine ⟨_, _, rfl, .inr (SqT.of s), flat_rep rx h1, flat_reps r h2, k _ H _ (Ext.refl H) ?_ h⟩
    rw [any_is rx h1 r h2]
    exact .bl _
def wIsN : WR := fun d f Φ => match f with
  | .non => (match d with
    | .non => Φ (.bl true)
    | .raw _ => False
    | _ => Φ (.bl false))
  | _ => False
theorem ar_isN : AbsR (fun x y H Q => y = .non ∧ Q (.bl (decide (x = .non))) H) wIsN := by
  intro δ M H fr x y d f rx ry Φ Q h k
  cases ry <;> first | exact False.elim h | skip
  cases rx <;> first | exact False.elim h | exact ⟨rfl, k _ H _ (Ext.refl H) (.bl _) h⟩
section
variable {X : Cx} {E : XK} {e e2 : Expr} {te te2 : TE} {w w2 : WE} {pos : Pos} {x : Str}
/-! ### slices of lists and tuples -/
variable {lo hi : Option Expr} {wl wh : WO} {to tu : TO}
def wSl (w : WE) (wl wh : WO) : WE := fun ρ Φ => w ρ fun d => wl ρ fun l => wh ρ fun h => match d with
  | .lst xs => Φ (.lst (cutG xs l h))
  | .tup xs => ¬ (HT.sIx xs.length 0 l = 0 ∧ HT.sIx xs.length xs.length h = xs.length) ∧ Φ (.tup (cutG xs l h))
  | _ => False
theorem de_sl {p2 : Pos} (he : DE X E e te w) (hl : DO X E lo to wl) (hu : DO X E hi tu wh) : DE X E (.Subscript e (.Slice lo hi none p2) pos) (tSl (fun x l h H Q => rSlL X.K x l h H Q ∨ rSlT X.K x l h H Q) te to tu) (wSl w wl wh) := by
  obtain ⟨p, ae⟩ := he
  obtain ⟨pl, al⟩ := hl
  obtain ⟨ph, ah⟩ := hu
  refine ⟨pe_slice (sl_list.or sl_tup) p pl ph, fun δ M σ H ρ R Φ Q h k => ?_⟩
  refine ae δ M σ H ρ R _ _ h fun v H1 d e1 r1 h1 => ?_
  refine al δ M σ H1 ρ (R.ext e1) _ _ h1 fun l H2 e2 h2 => ?_
  refine ah δ M σ H2 ρ ((R.ext e1).ext e2) _ _ h2 fun u H3 e3 h3 => ?_
  have r3 := r1.keep (e2.trans e3).kept
  have e := (e1.trans e2).trans e3
  cases r3 <;> first | exact False.elim h3 | skip
  · rename_i n s rl
    exact .inl ⟨_, _, rfl, SqL.of s, fun q hq => k _ _ _ (e.trans (Ext.new hq)) (.lst ((R.ext e).fresh hq) upd_same ((rl.cut l u).keep (Kept.new hq))) h3⟩
  · rename_i n s rl
    exact .inr ⟨_, _, rfl, SqT.of s, by rw [rl.length]; exact h3.1, fun q hq => k _ _ _ (e.trans (Ext.new hq)) (.tup ((R.ext e).fresh hq) upd_same ((rl.cut l u).keep (Kept.new hq))) h3.2⟩
/-! ### constants of the module, a sign ahead -/
theorem de_glob {v : V} {u : Value} {d : D} (hg : Gl X x) (hm : X.mg x = some u) (r : RelV v u) (rd : ∀ B H, Rep B H v d) (hd : (x == ("__debug__" : Str)) = false := by decide) : DE X E (.Name x pos) (tC v) (wC d) :=
  ⟨pe_glob hg hm r hd, fun δ M σ H ρ R Φ Q h k => k v H d (Ext.refl H) (rd _ _) h⟩
theorem de_globI {i : Int} {t : Tok} (hg : Gl X x) (hm : X.mg x = some (.int i t)) (hd : (x == ("__debug__" : Str)) = false := by decide) : DE X E (.Name x pos) (tC (.int i)) (wC (.int i)) := de_glob hg hm ⟨_, rfl⟩ (fun _ _ => .int i) hd
def wNeg (w : WE) : WE := fun ρ Φ => w ρ fun d => match d with
  | .int i => Φ (.int (-i))
  | _ => False
theorem de_neg (he : DE X E e te w) : DE X E (.UnaryOp .USub e pos) (tUn (rU fun i => .int (-i)) te) (wNeg w) := by
  refine ⟨pe_un un_neg he.p, fun δ M σ H ρ R Φ Q h k => ?_⟩
  refine he.a δ M σ H ρ R _ _ h fun v H1 d e1 r1 h1 => ?_
  cases r1 <;> first | exact False.elim h1 | exact ⟨_, rfl, k _ H1 _ e1 (.int _) h1⟩
/-! ### what is walked: a list or a tuple -/
def iSeq (K : PySem.W.Frag) (tl : TE) : TI := fun σ H R => tl σ H fun x H1 => ∃ a, x = .ref a ∧ (((∃ xs, SqL K H1 a xs) ∧ R (Itl K a) H1) ∨ ((∃ xs, SqT K H1 a xs) ∧ R (Itt K a) H1))
theorem pi_seq {tg l : Expr} {tl : TE} (hl : PE X l tl) : PI X tg l (iSeq X.K tl) := by
  refine ⟨fun pins s σ H R I h => ?_⟩
  refine thn (hl.run pins s σ H _ I h) fun v s1 ⟨x, H1, I1, r1, q1⟩ => ?_
  obtain ⟨a, e, q1⟩ := q1
  subst e
  cases r1
  rcases q1 with ⟨⟨xs, hq⟩, q⟩ | ⟨⟨xs, hq⟩, q⟩
  · obtain ⟨its, rv, p, hz⟩ := I1.list hq
    refine wpAny_pyIter_list p.isList ?_
    refine ⟨s1.heap.objs.size, [s1.heap.objs.size], _, _, H1, rfl, I1.kept (t' := s1.toks) fun b o e => Heap.get?_push_of_some _ e, turn_list a _, ⟨_, Heap.get?_push_size _ rfl, rfl, rfl⟩, fun b hb => ?_, q⟩
    have e : b = s1.heap.objs.size := by simpa using hb
    subst e
    exact I1.fpOk (Nat.le_refl _) (I1.hok.fresh (Nat.le_refl _))
  · obtain ⟨its, rv, p, hz⟩ := I1.tuple hq
    refine wpAny_pyIter_tuple (show s1.heap.IsTuple a its.toArray from p) ?_
    refine ⟨s1.heap.objs.size, [s1.heap.objs.size], _, _, H1, rfl, I1.kept (t' := s1.toks) fun b o e => Heap.get?_push_of_some _ e, turn_tuple a _, ⟨_, Heap.get?_push_size _ rfl, rfl, rfl⟩, fun b hb => ?_, q⟩
    have e : b = s1.heap.objs.size := by simpa using hb
    subst e
    exact I1.fpOk (Nat.le_refl _) (I1.hok.fresh (Nat.le_refl _))
def wiS (w : WE) : WI := fun ρ Φ => w ρ fun d => match d with
  | .lst xs => Φ xs
  | .tup xs => Φ xs
  | _ => False
theorem it_lst {B : Addr → Prop} {K : PySem.W.Frag} {H1 : Hp} {a : Addr} {vs : List V} {ds : List D} (n : ¬ B a) (s : H1 a = some (.lst vs)) (rl : RepL B H1 vs ds) : ItOk B (Itl K a) H1 ds := by
  have nb : ∀ B' : Addr → Prop, (∀ b, B' b → B b ∨ H1 b = none) → ¬ B' a := fun B' hB z => (hB a z).elim n (rd_there s)
  refine ⟨fun B' hB H2 i kp hi => ?_, fun B' hB H2 i kp hi => ?_, fun B' hB H2 i x v H3 kp hN hx y => ?_⟩
  · obtain ⟨u, hu, _⟩ := rl.at (List.getElem?_eq_getElem hi)
    exact ⟨vs, u, sl_same s (nb B' hB) kp, hu⟩
  · exact ⟨vs, sl_same s (nb B' hB) kp, by rw [rl.length]; exact hi⟩
  · obtain ⟨e, y⟩ := y
    subst e
    obtain ⟨u, hu, ru⟩ := rl.at hx
    have hv := y vs (sl_same s (nb B' hB) kp)
    rw [hu] at hv
    cases hv
    exact ⟨Kept.refl _ _, (ru.less hB).keep kp⟩
theorem it_tup {B : Addr → Prop} {K : PySem.W.Frag} {H1 : Hp} {a : Addr} {vs : List V} {ds : List D} (n : ¬ B a) (s : H1 a = some (.tup vs)) (rl : RepL B H1 vs ds) : ItOk B (Itt K a) H1 ds := by
  have nb : ∀ B' : Addr → Prop, (∀ b, B' b → B b ∨ H1 b = none) → ¬ B' a := fun B' hB z => (hB a z).elim n (rd_there s)
  refine ⟨fun B' hB H2 i kp hi => ?_, fun B' hB H2 i kp hi => ?_, fun B' hB H2 i x v H3 kp hN hx y => ?_⟩
  · obtain ⟨u, hu, _⟩ := rl.at (List.getElem?_eq_getElem hi)
    exact ⟨vs, u, st_same s (nb B' hB) kp, hu⟩
  · exact ⟨vs, st_same s (nb B' hB) kp, by rw [rl.length]; exact hi⟩
  · obtain ⟨e, y⟩ := y
    subst e
    obtain ⟨u, hu, ru⟩ := rl.at hx
    have hv := y vs (st_same s (nb B' hB) kp)
    rw [hu] at hv
    cases hv
    exact ⟨Kept.refl _ _, (ru.less hB).keep kp⟩
theorem di_seq {tg : Expr} (he : DE X E e te w) : DI X E tg e (iSeq X.K te) (wiS w) := by
  refine ⟨pi_seq he.p, fun δ M σ H ρ R Φ Q h k => ?_⟩
  refine he.a δ M σ H ρ R _ _ h fun v H1 d e1 r1 h1 => ?_
  cases r1 <;> first | exact False.elim h1 | skip
  · rename_i a vs ds n s rl
    exact ⟨a, rfl, .inl ⟨⟨vs, SqL.of s⟩, k _ H1 ds e1 (it_lst n s rl) h1⟩⟩
  · rename_i a vs ds n s rl
    exact ⟨a, rfl, .inr ⟨⟨vs, SqT.of s⟩, k _ H1 ds e1 (it_tup n s rl) h1⟩⟩
end
end Dl

namespace Dl
open PySem L2 PyProof.Rows
open AutoSeq1 (wpAny_loadPart')
/-! ### enumerate over a tuple -/
theorem meets_enumerate_newT (l : Addr) (items : Array Value) (n : Nat) (dct : Option Addr) (sl : Array (Option Value)) :
    Meets (Builtin.«enumerate.__new__» ⟨[.type "enumerate", .ref l], []⟩) (fun _ R s => s.heap.get? l = some { cls := .type "tuple", dict := dct, data := .seq items n, slots := sl } ∧
      R (.ok (.ret (.ref (s.heap.push { cls := .type "tuple_iterator", data := .fields #[.ref l, .int 0 0] }).objs.size)))
        { s with heap := (s.heap.push { cls := .type "tuple_iterator", data := .fields #[.ref l, .int 0 0] }).push { cls := .type "enumerate", data := .fields #[.none, .bool false, .ref s.heap.objs.size, rawInt 0, .none, .none] } }) :=
  .of_wp fun prog w A R s h => by
    obtain ⟨hp, g, d, tk, os⟩ := s; obtain ⟨hl, h⟩ := h
    have hsub := sub_enumerate
    have hL : Heap.IsTuple (Shared.heap ⟨hp, g, d, tk, os⟩) l items := ⟨_, hl, rfl, n, rfl⟩
    wp_walk using wpAny_loadPart' hl
    refine wpAny_stack_any fun st => wpAny_pure ?_
    split
    · rename_i c _ _ _ _ _
      cases (c == Value.type "enumerate")
      · wp_walk using wpAny_loadPart' hl, wpAny_pyIter_tuple hL
        exact ⟨_, rfl, h⟩
      · wp_walk using wpAny_loadPart' hl, wpAny_pyIter_tuple hL
        exact ⟨_, rfl, h⟩
    · wp_walk using wpAny_loadPart' hl, wpAny_pyIter_tuple hL
      exact ⟨_, rfl, h⟩
section
variable {prog : Program} {w : World} {A : Around} {E : Value → Shared → Prop} {s : Shared}
theorem call_enumerate_tuple {l : Addr} {items : Array Value} {Q : Value → Shared → Prop} (hL : s.heap.IsTuple l items)
    (h : ∀ h', IsEnum h' (s.heap.objs.size + 1) s.heap.objs.size 0 .none → h'.IsTupleIter s.heap.objs.size l 0 → h'.objs.size = s.heap.objs.size + 2 →
      (∀ b o, s.heap.get? b = some o → h'.get? b = some o) → Q (.ref (s.heap.objs.size + 1)) { s with heap := h' }) :
    wpAny (model prog w) A (call (.type "enumerate") [.ref l]) Q E s := by
  obtain ⟨⟨c, dct, dt, sl⟩, hl, hc, n, hd⟩ := hL
  replace hc : c = .type "tuple" := hc
  replace hd : dt = .seq items n := hd
  subst hc hd
  refine callType_new F.called_enumerate (by decide) (F.typeCall_enumerate_1 _) (F.newCall_enumerate_1 _) (fun obj => F.args_object_init_2 obj _) F.entry_enumerate_new
    (meets_enumerate_newT l items n dct sl) ⟨hl, ?_⟩
  have hz : (s.heap.push { cls := .type "tuple_iterator", data := .fields #[.ref l, .int 0 0] }).objs.size = s.heap.objs.size + 1 := Heap.size_push ..
  show _ ∧ _
  rw [hz]
  have he : IsEnum ((s.heap.push { cls := .type "tuple_iterator", data := .fields #[.ref l, .int 0 0] }).push
      { cls := .type "enumerate", data := .fields #[.none, .bool false, .ref s.heap.objs.size, rawInt 0, .none, .none] }) (s.heap.objs.size + 1) s.heap.objs.size 0 .none := by
    have := Heap.get?_push_size (s.heap.push { cls := .type "tuple_iterator", data := .fields #[.ref l, .int 0 0] })
      (o := { cls := .type "enumerate", data := .fields #[.none, .bool false, .ref s.heap.objs.size, rawInt 0, .none, .none] }) rfl
    rw [hz] at this; exact this
  refine ⟨⟨_, he, rfl⟩, h _ he ⟨_, Heap.get?_push_of_some _ (Heap.get?_push_size _ rfl), rfl, rfl⟩ (by rw [Heap.size_push, hz]) fun b o x => Heap.get?_push_of_some _ (Heap.get?_push_of_some _ x)⟩
end
/-- the tuple at a as it stands at each turn, the items in new pairs -/
def IteT (K : PySem.W.Frag) (a : Addr) : It :=
  ⟨fun i H => ∃ (xs : List V) (x : V), SqT K H a xs ∧ xs[i]? = some x, fun i H v H' => ∃ T x, v = .ref T ∧ H T = none ∧ H' = upd H T (.tup [.int (i : Nat), x]) ∧ ∀ xs, SqT K H a xs → xs[i]? = some x, fun i H => ∃ xs : List V, SqT K H a xs ∧ xs.length ≤ i⟩
theorem turn_enumT {P : Program} {w : World} {K : PySem.W.Frag} {elts : List Expr} {kk : Nat} {tpos : Pos} (a e it : Addr) :
    Turn P w K (.Tuple elts kk tpos) (IteT K a) [e, it] e (fun i h => (∃ old, IsEnum h e it ((i : Nat) : Int) old) ∧ h.IsTupleIter it a i ∧ e ≠ it) where
  mem := by simp
  obj := fun i h st b hb => by
    obtain ⟨⟨old, he⟩, ⟨o, ho, hc, hd⟩, _⟩ := st
    have e' : b = e ∨ b = it := by simpa using hb
    rcases e' with z | z
    · rw [z]; exact ⟨_, he, fun v q => nomatch q⟩
    · rw [z]; exact ⟨o, ho, fun v q => by rw [hd] at q; cases q⟩
  keep := fun i h h' st k => let ⟨⟨old, he⟩, hi, hne⟩ := st; ⟨⟨old, k e (by simp) _ he⟩, hi.at fun o q => k it (by simp) o q, hne⟩
  item := by
    intro X hP hw hK hc i pins s σ H E I hf st hg
    subst hP hw hK
    obtain ⟨⟨old, he⟩, hit, hne⟩ := st
    obtain ⟨xs, x, hq, hx⟩ := hg
    obtain ⟨its, rv, p, hz⟩ := I.tuple hq
    obtain ⟨u, hu, ru⟩ := rv.get hx
    have hel : e < s.heap.objs.size := Heap.lt_size he
    have hil : it < s.heap.objs.size := by obtain ⟨_, q, _⟩ := hit; exact Heap.lt_size q
    have pt : s.heap.IsTuple a its.toArray := p
    have hai : a ≠ it := fun z => by
      obtain ⟨o1, q1, c1, _⟩ := pt
      obtain ⟨o2, q2, c2, _⟩ := hit
      rw [z, q2] at q1
      cases q1
      rw [c2] at c1
      exact absurd c1 (by decide)
    have hae : a ≠ e := fun z => by
      obtain ⟨o1, q1, c1, _⟩ := pt
      rw [z, he] at q1
      cases q1
      exact absurd (show Value.type "enumerate" = Value.type "tuple" from c1) (by decide)
    have hlt : i < its.toArray.size := by
      have := (List.getElem?_eq_some_iff.mp hu).1
      simpa using this
    have D := Draws.tuple (prog := X.prog) (w := X.w) (A := X.A.in1) (show X.A.in1.handled = none from I.ok.hd hc) it a hai its.toArray
    refine wpAny_pyNext_enum_itemD D he ⟨hit, pt⟩ hlt hne (by simp; exact ⟨hne, Ne.symm hae⟩) fun z h' tk hPz ho hit' hT hsz hk => ?_
    have ez : z = u := by
      have e1 : its.toArray[i]? = some u := by simpa using hu
      rw [e1] at hPz
      exact (Option.some.inj hPz).symm
    subst ez
    refine ⟨_, rfl, wpAny_letOwnedTupleGo_enum (s := { s with heap := h', toks := tk + 1 }) ho fun h'' he' sb => ?_⟩
    have hT2 : h''.get? s.heap.objs.size = some { cls := .type "tuple", data := .seq #[.int i tk, z] } := (sb.2 _ (Nat.ne_of_gt hel)).trans hT
    have new : ObjOk X.prog X.w (upd H s.heap.objs.size (.tup [.int (i : Nat), x])) h'' s.heap.objs.size (.tup [.int (i : Nat), x]) :=
      ⟨by show 2 ≤ sizeLine; decide, [.int i tk, z], .cons ⟨_, rfl⟩ (.cons ru .nil), ⟨_, hT2, rfl, _, rfl⟩⟩
    have I1 : Inv X pins σ (upd H s.heap.objs.size (.tup [.int (i : Nat), x])) { s with heap := h'', toks := tk + 1 } :=
      I.turnedNew (ch := [e, it]) (fun b ob hb q => (sb.2 b (fun z => hb (by simp [z]))).trans (hk b ob (fun z => hb (by simp [z])) (fun z => hb (by simp [z])) q)) hf (Nat.le_refl _) new
    refine ⟨.ref s.heap.objs.size, _, I1, rfl, ⟨_, x, rfl, I.hok.fresh (Nat.le_refl _), rfl, fun ys hy => by rw [I.tuple_inj hy hq]; exact hx⟩, ⟨⟨z, ?_⟩, hit'.1.at fun o q => (sb.2 it (Ne.symm hne)).trans q, hne⟩, fun b hb => ?_⟩
    · have e1 : ((i + 1 : Nat) : Int) = (i : Int) + 1 := by omega
      rw [e1]; exact he'
    · have hb' : b < s.heap.objs.size := by
        have e' : b = e ∨ b = it := by simpa using hb
        rcases e' with z | z
        · rw [z]; exact hel
        · rw [z]; exact hil
      rw [upd_ne (Nat.ne_of_lt hb')]
      exact (hf b hb).1
  done := by
    intro X hP hw hK hc i pins s σ H E I hf st hg
    subst hP hw hK
    obtain ⟨⟨old, he⟩, hit, hne⟩ := st
    obtain ⟨xs, hq, hx⟩ := hg
    obtain ⟨its, rv, p, hz⟩ := I.tuple hq
    obtain ⟨f0, f1, f2, f3, f4, f5⟩ := hf it (by simp)
    have hl := rv.length
    have hh : X.A.handled = none := I.ok.hd hc
    have hT : s.TypeIs (.ref e) "enumerate" := ⟨_, he, rfl⟩
    have pt : s.heap.IsTuple a its.toArray := p
    unfold pyNext
    refine wpAny_bind (wpAny_attempt (wpAny_callSpecial?_slot (name := Str.ofString "__next__") hT F.slot_enumerate_next
      (wpAny_call_entry F.slot_enumerate_next hT F.entry_enumerate_next ?_ (F.args_enumerate_next_1 _))))
    show wpAny _ _ (field (.ref e) 2 >>= _) _ _ _
    refine wpAny_bind (wpAny_field he rfl (x := .ref it) rfl ?_)
    refine wpAny_bind (RZ.nextOf_tuple_end (show X.A.in1.handled = none from hh) hit pt (by simp; omega) fun h' x he' hx' => ?_)
    obtain ⟨o, ho, hc⟩ := hx'
    refine wpAny_bind (wpAny_isInstance (T := "StopIteration") (b := true) ⟨o, ho, hc⟩ isSubtype_stop ?_)
    exact wpAny_pure ⟨rfl, I.turned (t' := s.toks) (fun b o hb q => he' b o hb q) f0 f1 f3 f4 f5⟩
  self := fun A i s Q E st h => let ⟨⟨_, he⟩, _⟩ := st; wpAny_pyIter_enum he h

section
variable {X : Cx} {EE : XK}
/-- enumerate(list), enumerate(tuple) -/
def iEnumS (K : PySem.W.Frag) (ta : TA) : TI := fun σ H R => ta σ H fun vs H1 => ∃ a, vs = [.ref a] ∧ (((∃ xs, SqL K H1 a xs) ∧ R (Ite K a) H1) ∨ ((∃ xs, SqT K H1 a xs) ∧ R (IteT K a) H1))
theorem pi_enumS {e : Expr} {ta : TA} {p pos tpos : Pos} {elts : List Expr} {kk : Nat} (hg : Gl X "enumerate") (hm : X.mg "enumerate" = none) (ha : PA X [e] ta) (hs : starEach [e] X.env = [(false, eval e X.env)] := by rfl) :
    PI X (.Tuple elts kk tpos) (.Call (.Name "enumerate" p) [e] [] pos) (iEnumS X.K ta) := by
  refine ⟨fun pins s σ H R I h => ?_⟩
  refine Call_ (ld_blt I hg hm boot_enumerate (PyProof.Rows.callWith_type1 (thn (ha.run pos pins s σ H _ I h) fun us s1 ⟨vs, H1, I1, r1, q1⟩ => ?_) hs rfl))
  obtain ⟨a, ex, q1⟩ := q1
  subst ex
  cases r1 with
  | cons r rr =>
    cases rr
    cases r
    rcases q1 with ⟨⟨xs, hq⟩, q⟩ | ⟨⟨xs, hq⟩, q⟩
    · obtain ⟨its, rv, p', hz⟩ := I1.list hq
      refine call_enumerate_list p'.isList fun h' he hit hsz hk => wpAny_pyIter_enum he ?_
      have I2 : Inv X pins σ H1 { s1 with heap := h' } := I1.kept (t' := s1.toks) hk
      refine ⟨s1.heap.objs.size + 1, [s1.heap.objs.size + 1, s1.heap.objs.size], _, _, H1, rfl, I2, turn_enum a (s1.heap.objs.size + 1) s1.heap.objs.size, ⟨⟨.none, he⟩, hit, Nat.succ_ne_self _⟩, fun b hb => ?_, q⟩
      have e' : b = s1.heap.objs.size + 1 ∨ b = s1.heap.objs.size := by simpa using hb
      have hle : s1.heap.objs.size ≤ b := by
        rcases e' with z | z
        · rw [z]; exact Nat.le_add_right _ _
        · rw [z]; exact Nat.le_refl _
      exact I1.fpOk hle (I1.hok.fresh hle)
    · obtain ⟨its, rv, p', hz⟩ := I1.tuple hq
      refine call_enumerate_tuple (show s1.heap.IsTuple a its.toArray from p') fun h' he hit hsz hk => wpAny_pyIter_enum he ?_
      have I2 : Inv X pins σ H1 { s1 with heap := h' } := I1.kept (t' := s1.toks) hk
      refine ⟨s1.heap.objs.size + 1, [s1.heap.objs.size + 1, s1.heap.objs.size], _, _, H1, rfl, I2, turn_enumT a (s1.heap.objs.size + 1) s1.heap.objs.size, ⟨⟨.none, he⟩, hit, Nat.succ_ne_self _⟩, fun b hb => ?_, q⟩
      have e' : b = s1.heap.objs.size + 1 ∨ b = s1.heap.objs.size := by simpa using hb
      have hle : s1.heap.objs.size ≤ b := by
        rcases e' with z | z
        · rw [z]; exact Nat.le_add_right _ _
        · rw [z]; exact Nat.le_refl _
      exact I1.fpOk hle (I1.hok.fresh hle)
def wiEn (ws : WA) : WI := fun ρ Φ => ws ρ fun ss => match ss with
  | [.d (.lst xs)] => Φ (enumD xs)
  | [.d (.tup xs)] => Φ (enumD xs)
  | _ => False
theorem di_enumS {e : Expr} {tl : TA} {ws : WA} {p pos tpos : Pos} {elts : List Expr} {kk : Nat} (hg : Gl X "enumerate") (hm : X.mg "enumerate" = none) (ha : DA X EE [e] tl ws) (hs : starEach [e] X.env = [(false, eval e X.env)] := by rfl) :
    DI X EE (.Tuple elts kk tpos) (.Call (.Name "enumerate" p) [e] [] pos) (iEnumS X.K tl) (wiEn ws) := by
  refine ⟨pi_enumS hg hm ha.p hs, fun δ M σ H ρ R Φ Q h k => ?_⟩
  refine ha.a δ M σ H ρ R _ _ h fun vs H1 ss e1 r1 _ _ h1 => ?_
  split at h1
  · obtain ⟨v, rfl, rr⟩ := paired1 r1
    cases rr with
    | d rd => cases rd with
      | lst n s rl =>
        rename_i a us
        have nb : ∀ B' : Addr → Prop, (∀ b, B' b → Bn δ M b ∨ H1 b = none) → ¬ B' a := fun B' hB z => (hB a z).elim n (rd_there s)
        refine ⟨a, rfl, .inl ⟨⟨us, SqL.of s⟩, k _ H1 _ e1 ⟨fun B' hB H2 i kp hi => ?_, fun B' hB H2 i kp hi => ?_, fun B' hB H2 i x v H3 kp hN hx y => ?_⟩ h1⟩⟩
        · rw [enumD_len] at hi
          obtain ⟨u, hu, _⟩ := rl.at (List.getElem?_eq_getElem hi)
          exact ⟨us, u, sl_same s (nb B' hB) kp, hu⟩
        · rw [enumD_len] at hi
          exact ⟨us, sl_same s (nb B' hB) kp, by rw [rl.length]; exact hi⟩
        · obtain ⟨T, z, rfl, hT, rfl, y⟩ := y
          obtain ⟨q, hq, rfl⟩ := enumD_at hx
          obtain ⟨u, hu, ru⟩ := rl.at hq
          have hv := y us (sl_same s (nb B' hB) kp)
          rw [hu] at hv
          cases hv
          exact ⟨Kept.new hT, .tup (fun z => hN T z hT) upd_same (.cons (.int _) (.cons (((ru.less hB).keep kp).keep (Kept.new hT)) .nil))⟩
  · obtain ⟨v, rfl, rr⟩ := paired1 r1
    cases rr with
    | d rd => cases rd with
      | tup n s rl =>
        rename_i a us
        have nb : ∀ B' : Addr → Prop, (∀ b, B' b → Bn δ M b ∨ H1 b = none) → ¬ B' a := fun B' hB z => (hB a z).elim n (rd_there s)
        refine ⟨a, rfl, .inr ⟨⟨us, SqT.of s⟩, k _ H1 _ e1 ⟨fun B' hB H2 i kp hi => ?_, fun B' hB H2 i kp hi => ?_, fun B' hB H2 i x v H3 kp hN hx y => ?_⟩ h1⟩⟩
        · rw [enumD_len] at hi
          obtain ⟨u, hu, _⟩ := rl.at (List.getElem?_eq_getElem hi)
          exact ⟨us, u, st_same s (nb B' hB) kp, hu⟩
        · rw [enumD_len] at hi
          exact ⟨us, st_same s (nb B' hB) kp, by rw [rl.length]; exact hi⟩
        · obtain ⟨T, z, rfl, hT, rfl, y⟩ := y
          obtain ⟨q, hq, rfl⟩ := enumD_at hx
          obtain ⟨u, hu, ru⟩ := rl.at hq
          have hv := y us (st_same s (nb B' hB) kp)
          rw [hu] at hv
          cases hv
          exact ⟨Kept.new hT, .tup (fun z => hN T z hT) upd_same (.cons (.int _) (.cons (((ru.less hB).keep kp).keep (Kept.new hT)) .nil))⟩
  · exact h1.elim
end
end Dl

namespace Dl
open PySem L2 PyProof.Rows
/-- a def of the module that keeps a promise -/
structure Gd (Pr : Program) (w : World) (K : PySem.W.Frag) (mg : Str → Option Value) (base : Heap) (CX : CXT) (k : Nat) (x : Str) (ps : List Str) (sp : L2.Sp) (f : Addr) (fd : FuncData) : Prop where
  ok : FnOk Pr w K mg base CX k f fd ps sp
  m : mg x = some (.ref f)
  kp : PySem.W.keepIn K (.ref f) = true
  b : Binds K fd ps []
/-- a method -/
structure Md (Pr : Program) (w : World) (K : PySem.W.Frag) (mg : Str → Option Value) (base : Heap) (CX : CXT) (k : Nat) (C : Addr) (x : Str) (ps : List Str) (sp : L2.Sp) (f : Addr) (fd : FuncData) : Prop where
  ok : FnOk Pr w K mg base CX k f fd ps sp
  me : Meth K C x f
  b : Binds K fd ps []
section
variable {X : Cx} {E : XK}
/-! ### tuple(range(n)) -/
def wTR (w : WE) : WE := fun ρ Φ => w ρ fun d => match d with
  | .int j => (0 ≤ j ∧ j < 100000) ∧ Φ (.tup (rangeD 0 j.toNat))
  | _ => False
theorem repL_range {B : Addr → Prop} {H : Hp} (a : Int) : ∀ n : Nat, RepL B H ((List.range n).map fun (i : Nat) => V.int (a + (i : Nat))) (rangeD a n) := by
  intro n
  unfold rangeD
  induction n with
  | zero => exact .nil
  | succ n ih =>
    rw [List.range_succ, List.map_append, List.map_append]
    exact ih.app (.cons (.int _) .nil)
theorem de_tupRange1 {e : Expr} {te : TE} {w : WE} {p p2 pos pos2 : Pos} (hc : X.calm = true) (hg : Gl X "tuple") (hm : X.mg "tuple" = none) (hg2 : Gl X "range") (hm2 : X.mg "range" = none) (he : DE X E e te w)
    (na : starEach [e] X.env = (false, eval e X.env) :: starEach [] X.env := by rfl) (na2 : starEach [.Call (.Name "range" p2) [e] [] pos2] X.env = (false, eval (.Call (.Name "range" p2) [e] [] pos2) X.env) :: starEach [] X.env := by rfl) :
    DE X E (.Call (.Name "tuple" p) [.Call (.Name "range" p2) [e] [] pos2] [] pos) (tTupRg (tRg1 te)) (wTR w) := by
  refine ⟨pe_tupRg hc hg hm (prg_1 hg2 hm2 he.p na) na2, fun δ M σ H ρ R Φ Q h k => ?_⟩
  refine he.a δ M σ H ρ R _ _ h fun v H1 d e1 r1 h1 => ?_
  cases r1 <;> first | exact False.elim h1 | skip
  rename_i j
  obtain ⟨⟨h2, h3⟩, h1⟩ := h1
  refine ⟨j, rfl, RgOk.of_le (by omega) (by omega) (by omega) (by omega), fun q hq => k _ _ _ (e1.trans (Ext.new hq)) (.tup ((R.ext e1).fresh hq) upd_same ?_) h1⟩
  have ej : (j - 0).toNat = j.toNat := by rw [Int.sub_zero]
  unfold rgV
  rw [ej]
  exact repL_range 0 _
end
section
variable {X : Cx} {E : XK} {e e2 : Expr} {te te2 : TE} {w w2 : WE} {pos p : Pos} {x : Str}
/-! ### a list of one's own, read -/
def wLenN (i : Nat) : WE := fun ρ Φ => match look ρ.sl i with
  | some (.own _ xs) => Φ (.int xs.length)
  | _ => False
theorem de_lenOwn (i : Nat) {p2 : Pos} (hg : Gl X "len") (hm : X.mg "len" = none) (hN : X.N[i]? = some x := by rfl) (hv : Vis X.env.scope x := by first | exact Or.inl rfl | exact Or.inr (Or.inl rfl) | exact Or.inr (Or.inr rfl)) (hd : (x == ("__debug__" : Str)) = false := by decide)
    (hcd : (x == ("__classdict__" : Str)) = false := by decide) (hst : starEach [.Name x p2] X.env = (false, eval (.Name x p2) X.env) :: starEach [] X.env := by rfl) :
    DE X E (.Call (.Name "len" p) [.Name x p2] [] pos) (tCB (fun xs H Q => ∃ p ys, xs = [.ref p] ∧ (SqL X.K H p ys ∨ SqT X.K H p ys) ∧ Q (.int ys.length) H) (tCons (tVar i) tNil)) (wLenN i) := by
  refine ⟨pe_callB call_len_seq hg hm PySem.boot_len (pa_cons (pe_var hN hv hd hcd) pa_nil hst) (he := hst), fun δ M σ H ρ R Φ Q h k => ?_⟩
  unfold wLenN at h
  split at h
  · rename_i q ds hl
    obtain ⟨vs, hσ, m, n, hp, rl⟩ := R.own hl
    exact ⟨_, hσ, q, vs, rfl, .inl (SqL.of hp), k _ H _ (Ext.refl H) (by rw [rl.length]; exact .int _) h⟩
  · exact h.elim
def wCatN (i : Nat) (w : WE) : Env → (List D → Prop) → Prop := fun ρ Φ => match look ρ.sl i with
  | some (.own _ xs) => w ρ fun d => match d with
    | .lst ys => xs.length + ys.length ≤ 100000 ∧ Φ (xs ++ ys)
    | _ => False
  | _ => False
theorem df_catOwn (i : Nat) (he : DE X E e te w) (hN : X.N[i]? = some x := by rfl) (hv : Vis X.env.scope x := by first | exact Or.inl rfl | exact Or.inr (Or.inl rfl) | exact Or.inr (Or.inr rfl)) (hd : (x == ("__debug__" : Str)) = false := by decide)
    (hcd : (x == ("__classdict__" : Str)) = false := by decide) : DF X E (.BinOp (.Name x p) .Add e pos) (tOp rCat (tVar i) te) (wCatN i w) := by
  refine ⟨pe_op op_cat (pe_var hN hv hd hcd) he.p, fun δ M σ H ρ R Φ Q h k => ?_⟩
  unfold wCatN at h
  split at h
  · rename_i q ds hl
    obtain ⟨vs, hσ, m, n, hp, rl⟩ := R.own hl
    refine ⟨_, hσ, he.a δ M σ H ρ R _ _ h fun v H1 d e1 r1 h1 => ?_⟩
    cases r1 <;> first | exact False.elim h1 | skip
    rename_i b us ys nb s ry
    refine ⟨q, b, vs, us, rfl, rfl, e1.1 _ _ hp n, s, by rw [rl.length, ry.length]; exact sz_of h1.1, fun z hz => ?_⟩
    exact k z _ _ _ (e1.free R.okd hz) (e1.trans (Ext.new hz)) upd_same ((((rl.keep e1.kept).app ry).less (bn_cons hz)).keep (Kept.new hz)) h1.2
  · exact h.elim
/-! ### what is never reached -/
theorem ds_never {st : Stmt} : DS X E st tNever (fun _ _ _ => False) := ⟨ps_never, fun _ _ _ _ _ _ _ _ _ _ _ h => h.elim⟩
/-! ### all([..]) -/
def wAll : WCl := fun ss Φ => match ss with
  | [.d (.lst xs)] => ∃ bs : List Bool, xs = bs.map .bl ∧ Φ (.bl (bs.all id))
  | _ => False
theorem repL_bl {B : Addr → Prop} {H : Hp} : ∀ {vs : List V} {bs : List Bool}, RepL B H vs (bs.map D.bl) → vs = bs.map V.bl
  | [], [], _ => rfl
  | [], _ :: _, h => by cases h
  | _ :: _, [], h => by cases h
  | v :: vs, b :: bs, h => by
    have h' : RepL B H (v :: vs) (.bl b :: bs.map D.bl) := h
    cases h' with
    | cons r t =>
      cases r
      rw [repL_bl t]
      rfl
theorem ac_all {K : PySem.W.Frag} : AbsC (rAll K) wAll := by
  intro δ M H fr vs ss r Φ Q h k
  unfold wAll at h
  split at h
  · obtain ⟨v, rfl, rr⟩ := paired1 r
    cases rr with
    | d rd =>
      obtain ⟨bs, rfl, h⟩ := h
      cases rd with
      | lst n s rl =>
        have e := repL_bl rl
        subst e
        exact ⟨_, bs, rfl, SqL.of s, k _ H _ (Ext.refl H) (.bl _) h⟩
  · exact h.elim
end
/-! ### reading -/
theorem iteD {p : Prop} [Decidable p] {A B : Prop} (h1 : p → A) (h2 : ¬ p → B) : if decide p = true then A else B := by
  by_cases h : p
  · rw [if_pos (decide_eq_true h)]; exact h1 h
  · rw [if_neg (by rw [decide_eq_false h]; exact Bool.false_ne_true)]; exact h2 h
theorem iteN {p : Prop} [Decidable p] {A B : Prop} (h1 : ¬ p → A) (h2 : p → B) : if (!decide p) = true then A else B := by
  by_cases h : p
  · rw [if_neg (by rw [decide_eq_true h]; exact Bool.false_ne_true)]; exact h2 h
  · rw [if_pos (by rw [decide_eq_false h]; rfl)]; exact h1 h
theorem iteDT {p : Prop} [Decidable p] {A B : Prop} (h : p) (a : A) : if decide p = true then A else B := by rw [if_pos (decide_eq_true h)]; exact a
theorem iteDF {p : Prop} [Decidable p] {A B : Prop} (h : ¬ p) (b : B) : if decide p = true then A else B := by rw [if_neg (by rw [decide_eq_false h]; exact Bool.false_ne_true)]; exact b
theorem iteC {b : Bool} {p : Prop} [Decidable p] {A B : Prop} (e : b = decide p) (h1 : p → A) (h2 : ¬ p → B) : if b = true then A else B := by rw [e]; exact iteD h1 h2
theorem atI_i {α : Type} {xs : List α} {i : Int} {x : α} (h0 : 0 ≤ i) (h : xs[i.toNat]? = some x) : atI xs i = some x := by
  have : i = ((i.toNat : Nat) : Int) := by omega
  rw [this]
  exact atI_nat h
end Dl

/-! The rules whose readings name the written part, with that part as a parameter (within a comprehension's block the context is another one, the written part the same). -/
namespace Dl
open PySem L2 PyProof.Rows
section
variable {X : Cx} {E : XK} {a b e : Expr} {ta tb te : TE} {wa wb w : WE} {pos p : Pos} {x : Str} {es : List Expr} {tl : TA} {ws : WA}
theorem opk_add (K : PySem.W.Frag) (hK : X.K = K := by rfl) : OpR X (binaryOp .Add) (rAddU K) := by subst hK; exact op_addU
theorem opk_mul (K : PySem.W.Frag) (hK : X.K = K := by rfl) : OpR X (binaryOp .Mult) (rMulU K) := by subst hK; exact op_mulU
theorem opk_eq (K : PySem.W.Frag) (hu : X.A.units + 64 < cLine) (hK : X.K = K := by rfl) : OpR X (compareOp .Eq) (fun x y H Q => rEq x y H Q ∨ rEqD K x y H Q) := by subst hK; exact op_eqU hu
theorem opk_ne (K : PySem.W.Frag) (hu : X.A.units + 64 < cLine) (hK : X.K = K := by rfl) : OpR X (compareOp .NotEq) (fun x y H Q => rNe x y H Q ∨ rNeD K x y H Q) := by subst hK; exact op_neU hu
theorem opk_in (K : PySem.W.Frag) (hK : X.K = K := by rfl) : OpR X (compareOp .In) (rIn K false) := by subst hK; exact op_in_seq
theorem opk_notin (K : PySem.W.Frag) (hK : X.K = K := by rfl) : OpR X (compareOp .NotIn) (rIn K true) := by subst hK; exact op_notIn_seq
theorem cr_len (K : PySem.W.Frag) (hK : X.K = K := by rfl) : CallR X (.builtin "len") (fun xs H Q => ∃ p ys, xs = [.ref p] ∧ (SqL K H p ys ∨ SqT K H p ys) ∧ Q (.int ys.length) H) := by subst hK; exact call_len_seq
theorem cr_tuple (K : PySem.W.Frag) (hK : X.K = K := by rfl) : CallR X (.type "tuple") (fun xs H Q => ∃ p ys, xs = [.ref p] ∧ ((SqL K H p ys ∧ ∀ l, H l = none → Q (.ref l) (upd H l (.tup ys))) ∨ (SqT K H p ys ∧ Q (.ref p) H))) := by subst hK; exact call_tuple_of
theorem crk_all (K : PySem.W.Frag) (hc : X.calm = true) (hK : X.K = K := by rfl) : CallR X (.builtin "all") (rAll K) := by subst hK; exact cr_all hc
theorem dk_ix (K : PySem.W.Frag) (ha : DE X E a ta wa) (hb : DE X E b tb wb) (hs : PlainIx b := by exact fun _ _ => rfl) (hK : X.K = K := by rfl) : DE X E (.Subscript a b pos) (tOp (rIxLT K) ta tb) (wOp wIx wa wb) := by subst hK; exact de_ix ha hb hs
theorem dk_ixOwn (K : PySem.W.Frag) (i : Nat) (hb : DE X E b tb wb) (hs : PlainIx b := by exact fun _ _ => rfl) (hN : X.N[i]? = some x := by rfl) (hv : Vis X.env.scope x := by first | exact Or.inl rfl | exact Or.inr (Or.inl rfl) | exact Or.inr (Or.inr rfl)) (hd : (x == ("__debug__" : Str)) = false := by decide)
    (hcd : (x == ("__classdict__" : Str)) = false := by decide) (hK : X.K = K := by rfl) : DE X E (.Subscript (.Name x p) b pos) (tOp (rIxL K) (tVar i) tb) (wIxN i wb) := by subst hK; exact de_ixOwn i hb hs hN hv hd hcd
theorem dk_sl {lo hi : Option Expr} {wl wh : WO} {to tu : TO} {p2 : Pos} (K : PySem.W.Frag) (he : DE X E e te w) (hl : DO X E lo to wl) (hu : DO X E hi tu wh) (hK : X.K = K := by rfl) :
    DE X E (.Subscript e (.Slice lo hi none p2) pos) (tSl (fun x l h H Q => rSlL K x l h H Q ∨ rSlT K x l h H Q) te to tu) (wSl w wl wh) := by subst hK; exact de_sl he hl hu
theorem dk_fld (K : PySem.W.Frag) {C : Addr} {f : Str} (c : Cls K C) (nA : NoAttr K C f) (he : DE X E e te w) (hb : attributeBase e f X.env (eval e X.env) = eval e X.env := by rfl) (hK : X.K = K := by rfl) : DE X E (.Attribute e f pos) (tFld K te f) (wFld C f w) := by subst hK; exact de_fld c nA he hb
theorem dk_listOf (K : PySem.W.Frag) (hg : Gl X x) (hm : X.mg x = none) (hv : bootBuiltins x = some (.type "list")) (ha : DA X E (e :: es) tl ws) (hn : x ≠ "__name__" := by decide) (hdb : (x == ("__debug__" : Str)) = false := by decide)
    (he : starEach (e :: es) X.env = (false, eval e X.env) :: starEach es X.env := by rfl) (hpl : (backTo pos (starEach es X.env)).any (·.1) = false := by rfl) (hK : X.K = K := by rfl) :
    DF X E (.Call (.Name x p) (e :: es) [] pos) (tCB (fun xs H Q => ∃ p ys, xs = [.ref p] ∧ (SqL K H p ys ∨ SqT K H p ys) ∧ ∀ l, H l = none → Q (.ref l) (upd H l (.lst ys))) tl) (wListOf ws) := by subst hK; exact df_listOf hg hm hv ha hn hdb he hpl
theorem dk_tup {ix : List Nat} {es : List Expr} {k : Nat} {gs : TGs} {ws : WGs} {n : Nat} (K : PySem.W.Frag) (hc : X.calm = true) (h : DGs X ix es gs ws) (hn : (assignEach es X.env).length = n := by rfl) (hst : (assignEach es X.env).findIdx? (·.1) = none := by rfl) (hK : X.K = K := by rfl) :
    DG X ix (.Tuple es k pos) (gTup K n gs) (wgTup n ws) := by subst hK; exact dg_tup hc h hn hst
theorem dk_seq {tg : Expr} (K : PySem.W.Frag) (he : DE X E e te w) (hK : X.K = K := by rfl) : DI X E tg e (iSeq K te) (wiS w) := by subst hK; exact di_seq he
theorem dk_enum {e : Expr} {tl : TA} {ws : WA} {p pos tpos : Pos} {elts : List Expr} {kk : Nat} (K : PySem.W.Frag) (hg : Gl X "enumerate") (hm : X.mg "enumerate" = none) (ha : DA X E [e] tl ws) (hs : starEach [e] X.env = [(false, eval e X.env)] := by rfl) (hK : X.K = K := by rfl) :
    DI X E (.Tuple elts kk tpos) (.Call (.Name "enumerate" p) [e] [] pos) (iEnumS K tl) (wiEn ws) := by subst hK; exact di_enumS hg hm ha hs
end
end Dl
namespace Dl
open PySem L2 PyProof.Rows
section
variable {X : Cx} {E : XK} {o e : Expr} {to te : TE} {wo w : WE}
/-- xs.index(y), of data at any depth -/
def wIndex (wo w : WE) : WE := fun ρ Φ => wo ρ fun d => match d with
  | .lst xs => w ρ fun y => (D.plains xs = true ∧ y.plain = true ∧ SeqAt.shaped (D.lst xs).py = true ∧ SeqAt.shaped y.py = true) ∧ ∃ (j : Nat) (z : D), xs[j]? = some z ∧ PyData.eqv z.py y.py = true ∧ (∀ (m : Nat) (z' : D), m < j → xs[m]? = some z' → PyData.eqv z'.py y.py = false) ∧ Φ (.int j)
  | _ => False
theorem Room.u65 {k : Nat} {A : Around} (r : Room k A) : A.units + 65 < cLine := by have := r.un; omega
theorem pys_get : ∀ {xs : List D} {j : Nat}, (D.pys xs)[j]? = (xs[j]?).map D.py
  | [], _ => by simp [D.pys]
  | x :: r, 0 => by simp [D.pys]
  | x :: r, j + 1 => by simp [D.pys, pys_get (xs := r) (j := j)]
theorem dk_index {apos cpos : Pos} (K : PySem.W.Frag) (hu : X.A.units + 65 < cLine) (ho : DE X E o to wo) (he : DE X E e te w)
    (hst : starEach (e :: []) X.env = (false, eval e X.env) :: starEach [] X.env := by rfl) (hbase : attributeBase o "index" X.env (eval o X.env) = eval o X.env := by rfl)
    (hfew : ((backTo cpos (starEach (e :: []) X.env)).all (fun x => !x.1) && (backToKw cpos (keywordEach [] X.env)).all (fun x => x.1.isSome)
      && decide ((e :: []).length + ([] : List Keyword).length + (if ([] : List Keyword).isEmpty then 0 else 1) < 30)) = true := by rfl)
    (hline : (apos.endLine == cpos.line) = true := by rfl) (hplain : (backTo cpos (starEach [] X.env)).any (·.1) = false := by rfl) (hK : X.K = K := by rfl) :
    DE X E (.Call (.Attribute o "index" apos) [e] [] cpos) (tBM K "list" (rIndexD K) to (tCons te tNil)) (wIndex wo w) := by
  subst hK
  refine ⟨pe_bm PySem.F.plainAttrs_list PySem.F.slot_list_index PySem.F.type_list_index (mt_indexD hu) ho.p (pa_cons he.p pa_nil hst) hbase hfew hline hst hplain, fun δ M σ H ρ R Φ Q h k => ?_⟩
  refine ho.a δ M σ H ρ R _ _ h fun v H1 d e1 r1 h1 => ?_
  cases r1 <;> first | exact False.elim h1 | skip
  rename_i a vs xs n s rl
  refine ⟨.inl ⟨rfl, _, SqL.of s⟩, ?_⟩
  refine he.a δ M σ H1 ρ (R.ext e1) _ _ h1 fun u H2 y e2 r2 h2 => ?_
  obtain ⟨⟨h3, h4, h5, h6⟩, j, z, h7, h8, h9, h2⟩ := h2
  have rl2 : Rep (Bn δ M) H2 (.ref a) (.lst xs) := (Rep.lst n s rl).keep e2.kept
  refine ⟨a, u, y.py, D.pys xs, j, z.py, rfl, rfl, ?_, r2.dp h4, ?_, h6, ?_, h8, fun m z' hm hz => ?_, k _ H2 _ (e1.trans e2) (.int _) h2⟩
  · have q := rl2.dp (K := X.K) (by unfold D.plain; exact h3)
    unfold D.py at q
    exact q
  · have q := h5
    unfold D.py at q
    exact q
  · rw [pys_get, h7]; rfl
  · rw [pys_get] at hz
    cases q : xs[m]? with
    | none => rw [q] at hz; cases hz
    | some w' =>
      rw [q] at hz
      cases hz
      exact h9 m w' hm q
/-! ### a < b < c < d -/
def tChain3 (r r' r2 : R2) (ta tb tc td : TE) : TE := fun σ H Q => ta σ H fun x H1 => tb σ H1 fun y H2 => r x y H2 fun z H3 => ∃ k, z = .bl k ∧
  (if k = true then tc σ H3 fun u H4 => r' y u H4 fun z2 H5 => ∃ k2, z2 = .bl k2 ∧ (if k2 = true then td σ H5 fun v H6 => r2 u v H6 Q else Q (.bl false) H5) else Q (.bl false) H3)
variable {a b c d2 : Expr} {ta tb tc td : TE} {wa wb wc wd : WE} {r r' r2 : R2} {wr wr' wr2 : WR}
theorem pe_chain3 {op op' op2 : CmpOp} (ho : OpR X (compareOp op) r) (ho' : OpR X (compareOp op') r') (ho2 : OpR X (compareOp op2) r2) (ha : PE X a ta) (hb : PE X b tb) (hc : PE X c tc) (hd : PE X d2 td)
    (hm : lastMarks [op, op', op2] [b, c, d2] = false := by with_unfolding_all rfl) {pos : Pos} : PE X (.Compare a [op, op', op2] [b, c, d2] pos) (tChain3 r r' r2 ta tb tc td) := by
  refine ⟨fun pins s σ H Q I h => ?_⟩
  refine Compare_chain (thn (ha.run pins s σ H _ I h) fun v s1 ⟨x, H1, I1, r1, q1⟩ => chain_link (thn (hb.run pins s1 σ H1 _ I1 q1) fun u s2 ⟨y, H2, I2, ry, q2⟩ =>
    thn (ho pins s2 σ H2 x y v u _ I2 r1 ry q2) fun d s3 ⟨z, H3, I3, r3, k, e, q3⟩ => ?_)) hm
  subst e
  cases r3
  refine wpAny_truthy_bool ?_
  cases k with
  | false => exact ite_ff ⟨.bl false, H3, I3, rfl, q3⟩
  | true =>
    refine ite_tt (chain_link (thn (hc.run pins s3 σ H3 _ I3 q3) fun w' s4 ⟨z', H4, I4, r4, q4⟩ => thn (ho' pins s4 σ H4 y z' u w' _ I4 ry r4 q4) fun d s5 ⟨z5, H5, I5, r5, k2, e2, q5⟩ => ?_))
    subst e2
    cases r5
    refine wpAny_truthy_bool ?_
    cases k2 with
    | false => exact ite_ff ⟨.bl false, H5, I5, rfl, q5⟩
    | true => exact ite_tt (chain_last (thn (hd.run pins s5 σ H5 _ I5 q5) fun w6 s6 ⟨z6, H6, I6, r6, q6⟩ => ho2 pins s6 σ H6 z' z6 w' w6 Q I6 r4 r6 q6))
def wChain3 (wr wr' wr2 : WR) (wa wb wc wd : WE) : WE := fun ρ Φ => wa ρ fun d => wb ρ fun f => wr d f fun z => match z with
  | .bl k => if k = true then wc ρ fun g => wr' f g fun z2 => (match z2 with
    | .bl k2 => if k2 = true then wd ρ fun h => wr2 g h Φ else Φ (.bl false)
    | _ => False) else Φ (.bl false)
  | _ => False
theorem abs_chain3 (hr : AbsR r wr) (hr' : AbsR r' wr') (hr2 : AbsR r2 wr2) (ha : AbsE E ta wa) (hb : AbsE E tb wb) (hc : AbsE E tc wc) (hd : AbsE E td wd) : AbsE E (tChain3 r r' r2 ta tb tc td) (wChain3 wr wr' wr2 wa wb wc wd) := fun δ M σ H ρ R Φ Q h k =>
  ha δ M σ H ρ R _ _ h fun v H1 d e1 r1 h1 => hb δ M σ H1 ρ (R.ext e1) _ _ h1 fun u H2 f e2 rf h2 =>
    hr δ M H2 ((R.ext e1).ext e2).fr v u d f (r1.keep e2.kept) rf _ _ h2 fun v' H3 g e3 r3 h3 => by
      cases r3 <;> first | exact False.elim h3 | skip
      rename_i b
      refine ⟨b, rfl, ?_⟩
      cases b with
      | false => exact k _ H3 _ ((e1.trans e2).trans e3) (.bl false) h3
      | true =>
        have R3 := (((R.ext e1).ext e2).ext e3)
        refine hc δ M σ H3 ρ R3 _ _ h3 fun u' H4 g' e4 r4 h4 => ?_
        refine hr' δ M H4 (R3.ext e4).fr u u' f g' (rf.keep (e3.trans e4).kept) r4 _ _ h4 fun w' H5 g5 e5 r5 h5 => ?_
        cases r5 <;> first | exact False.elim h5 | skip
        rename_i b2
        refine ⟨b2, rfl, ?_⟩
        have e15 := (((e1.trans e2).trans e3).trans e4).trans e5
        cases b2 with
        | false => exact k _ H5 _ e15 (.bl false) h5
        | true =>
          have R5 := (R3.ext e4).ext e5
          refine hd δ M σ H5 ρ R5 _ _ h5 fun u6 H6 g6 e6 r6 h6 => ?_
          exact hr2 δ M H6 (R5.ext e6).fr u' u6 g' g6 (r4.keep (e5.trans e6).kept) r6 Φ Q h6 fun w7 H7 g7 e7 r7 h7 => k w7 H7 g7 ((e15.trans e6).trans e7) r7 h7
theorem de_chain3 {op op' op2 : CmpOp} {pos : Pos} (ho : OpR X (compareOp op) r) (hr : AbsR r wr) (ho' : OpR X (compareOp op') r') (hr' : AbsR r' wr') (ho2 : OpR X (compareOp op2) r2) (hr2 : AbsR r2 wr2) (ha : DE X E a ta wa) (hb : DE X E b tb wb) (hc : DE X E c tc wc) (hd : DE X E d2 td wd)
    (hm : lastMarks [op, op', op2] [b, c, d2] = false := by with_unfolding_all rfl) : DE X E (.Compare a [op, op', op2] [b, c, d2] pos) (tChain3 r r' r2 ta tb tc td) (wChain3 wr wr' wr2 wa wb wc wd) :=
  ⟨pe_chain3 ho ho' ho2 ha.p hb.p hc.p hd.p hm, abs_chain3 hr hr' hr2 ha.a hb.a hc.a hd.a⟩
theorem pt_chain3 {op op' op2 : CmpOp} (ho : OpR X (compareOp op) r) (ho' : OpR X (compareOp op') r') (ho2 : OpR X (compareOp op2) r2) (ha : PE X a ta) (hb : PE X b tb) (hc : PE X c tc) (hd : PE X d2 td)
    (hm : lastMarks [op, op', op2] [b, c, d2] = false := by with_unfolding_all rfl) {pos : Pos} : PT X (.Compare a [op, op', op2] [b, c, d2] pos) (tTest (tChain3 r r' r2 ta tb tc td)) := by
  refine ⟨fun pins s σ H Q I h => ?_⟩
  refine isTrue_chain (thn (ha.run pins s σ H _ I h) fun v s1 ⟨x, H1, I1, r1, q1⟩ => test_link (thn (hb.run pins s1 σ H1 _ I1 q1) fun u s2 ⟨y, H2, I2, ry, q2⟩ =>
    thn (ho pins s2 σ H2 x y v u _ I2 r1 ry q2) fun d s3 ⟨z, H3, I3, r3, k, e, q3⟩ => ?_)) hm
  subst e
  cases r3
  refine wpAny_truthy_bool ?_
  cases k with
  | false =>
    obtain ⟨k', e', q'⟩ := q3
    cases e'
    exact ite_ff ⟨H3, I3, q'⟩
  | true =>
    refine ite_tt (test_link (thn (hc.run pins s3 σ H3 _ I3 q3) fun w' s4 ⟨z', H4, I4, r4, q4⟩ => thn (ho' pins s4 σ H4 y z' u w' _ I4 ry r4 q4) fun d' s5 ⟨z2, H5, I5, r5, k2, e2, q5⟩ => ?_))
    subst e2
    cases r5
    refine wpAny_truthy_bool ?_
    cases k2 with
    | false =>
      obtain ⟨k', e', q'⟩ := q5
      cases e'
      exact ite_ff ⟨H5, I5, q'⟩
    | true =>
      refine ite_tt (test_last (thn (hd.run pins s5 σ H5 _ I5 q5) fun w6 s6 ⟨z6, H6, I6, r6, q6⟩ => thn (ho2 pins s6 σ H6 z' z6 w' w6 _ I6 r4 r6 q6) fun d6 s7 ⟨z7, H7, I7, r7, k3, e3, q7⟩ => ?_))
      subst e3
      cases r7
      exact wpAny_truthy_bool ⟨H7, I7, q7⟩
theorem dt_chain3 {op op' op2 : CmpOp} {pos : Pos} (ho : OpR X (compareOp op) r) (hr : AbsR r wr) (ho' : OpR X (compareOp op') r') (hr' : AbsR r' wr') (ho2 : OpR X (compareOp op2) r2) (hr2 : AbsR r2 wr2) (ha : DE X E a ta wa) (hb : DE X E b tb wb) (hc : DE X E c tc wc) (hd : DE X E d2 td wd)
    (hm : lastMarks [op, op', op2] [b, c, d2] = false := by with_unfolding_all rfl) : DT X E (.Compare a [op, op', op2] [b, c, d2] pos) (tTest (tChain3 r r' r2 ta tb tc td)) (wTest (wChain3 wr wr' wr2 wa wb wc wd)) := by
  refine ⟨pt_chain3 ho ho' ho2 ha.p hb.p hc.p hd.p hm, fun δ M σ H ρ R Φ Q h k => ?_⟩
  refine abs_chain3 hr hr' hr2 ha.a hb.a hc.a hd.a δ M σ H ρ R _ _ h fun v H' d e r h' => ?_
  cases r <;> first | exact False.elim h' | exact ⟨_, rfl, k _ H' e h'⟩
end
end Dl

namespace Gh
open PySem L2 Dl
/-- a step of a program -/
inductive Stp where
  | put (b n : Int) | go (b : Int) (ns : List Int) (a : Int) | inn
  deriving DecidableEq
def dStp : Stp → D
  | .put b n => .tup [.str "put", .int b, .int n]
  | .go b ns a => .tup [.str "go", .int b, .tup (ns.map .int), .int a]
  | .inn => .tup [.str "in"]
abbrev Box := Int × Int
abbrev Hand := Int × List Stp
structure Gt where
  bs : List Box
  hs : List Hand
def dBox (b : Box) : D := .tup [.int b.1, .int b.2]
def dBoxes (bs : List Box) : D := .lst (bs.map dBox)
def dHand (h : Hand) : D := .tup [.int h.1, .lst (h.2.map dStp)]
def dGate (g : Gt) : D := .tup [dBoxes g.bs, .lst (g.hs.map dHand)]
/-- a rising list of numbers from 0 to most -/
def Rising (ns : List Int) : Prop := ns.Pairwise (· < ·)
def OkStp (bs : List Box) (many : Int) : Stp → Prop
  | .put b n => ∃ x, 0 ≤ b ∧ bs[b.toNat]? = some x ∧ 0 ≤ n ∧ n ≤ x.2
  | .go b ns a => ∃ x, 0 ≤ b ∧ bs[b.toNat]? = some x ∧ Rising ns ∧ (∀ n ∈ ns, 0 ≤ n ∧ n ≤ x.2) ∧ 1 ≤ a ∧ a < many
  | .inn => True
def OkBox (b : Box) : Prop := 0 ≤ b.1 ∧ b.1 ≤ b.2 ∧ b.2 ≤ 9
def OkBoxes (bs : List Box) : Prop := 1 ≤ bs.length ∧ bs.length ≤ 10 ∧ ∀ b ∈ bs, OkBox b
/-! ### the promises of the law's draws -/
def P_off (ss : List S) (Φ : D → Prop) : Prop := ∃ m : Int, ss = [.dice, .d (.int m)] ∧ 0 < m ∧ m < 1000000 ∧ ∀ r : Int, 0 ≤ r → r < m → Φ (.int r)
def P_step (ss : List S) (Φ : D → Prop) : Prop := ∃ bs many, ss = [.dice, .d (dBoxes bs), .d (.int many)] ∧ bs ≠ [] ∧ bs.length ≤ 12 ∧ (∀ b ∈ bs, 0 ≤ b.2 ∧ b.2 ≤ 9) ∧ 2 ≤ many ∧ many ≤ 100 ∧
  ∀ s, OkStp bs many s → s ≠ .inn → Φ (dStp s)
end Gh
namespace Gh
open PySem L2 Dl
structure OkHand (bs : List Box) (h : Hand) : Prop where
  len2 : 2 ≤ h.2.length
  len24 : h.2.length ≤ 23
  ok : ∀ s ∈ h.2, OkStp bs h.2.length s
  inn : ∃ i : Nat, 0 < i ∧ h.2[i]? = some .inn ∧ (∀ j, h.2[j]? = some .inn → j = i) ∧ 1 ≤ h.1 ∧ h.1 ≤ i
structure OkGate (g : Gt) : Prop where
  bs : OkBoxes g.bs
  h1 : 1 ≤ g.hs.length
  h4 : g.hs.length ≤ 4
  hs : ∀ h ∈ g.hs, OkHand g.bs h
def okStpB (bs : List Box) (many : Int) : Stp → Bool
  | .put b n => match bs[b.toNat]? with
    | some x => decide (0 ≤ b ∧ 0 ≤ n ∧ n ≤ x.2)
    | none => false
  | .go b ns a => match bs[b.toNat]? with
    | some x => decide (0 ≤ b ∧ ns.Pairwise (· < ·) ∧ (∀ n ∈ ns, 0 ≤ n ∧ n ≤ x.2) ∧ 1 ≤ a ∧ a < many)
    | none => false
  | .inn => true
theorem okStpB_ok {bs : List Box} {many : Int} {s : Stp} (h : okStpB bs many s = true) : OkStp bs many s := by
  cases s with
  | put b n =>
    cases e : bs[b.toNat]? with
    | none => simp [okStpB, e] at h
    | some x =>
      simp only [okStpB, e, decide_eq_true_eq] at h
      exact ⟨x, h.1, e, h.2⟩
  | go b ns a =>
    cases e : bs[b.toNat]? with
    | none => simp [okStpB, e] at h
    | some x =>
      simp only [okStpB, e, decide_eq_true_eq] at h
      exact ⟨x, h.1, e, h.2⟩
  | inn => trivial
/-- where the hand is within, by its place -/
def okHandB (bs : List Box) (h : Hand) (i : Nat) : Bool := decide (2 ≤ h.2.length) && decide (h.2.length ≤ 23) && h.2.all (okStpB bs h.2.length) && decide (0 < i) && decide (h.2[i]? = some .inn) && (List.range h.2.length).all (fun j => decide (h.2[j]? = some .inn → j = i)) && decide (1 ≤ h.1) && decide (h.1 ≤ i)
theorem okHandB_ok {bs : List Box} {h : Hand} {i : Nat} (e : okHandB bs h i = true) : OkHand bs h := by
  unfold okHandB at e
  simp only [Bool.and_eq_true, decide_eq_true_eq, List.all_eq_true, List.mem_range] at e
  obtain ⟨⟨⟨⟨⟨⟨⟨h1, h2⟩, h3⟩, h4⟩, h5⟩, h6⟩, h7⟩, h8⟩ := e
  refine ⟨h1, h2, fun s hs => okStpB_ok (h3 s hs), i, h4, h5, fun j hj => h6 j (List.getElem?_eq_some_iff.mp hj).1 hj, h7, h8⟩
/-! ### gates that are written out -/
def pairH (side : Int) : Hand := (2, [.put side 1, .put 2 (1 - side), .go (1 - side) [0] 4, .go 2 [1 - side] 2, .inn, .put side 0])
def bitsA (h : Nat) : Nat → List Stp
  | 0 => [.put h 1]
  | i + 1 => bitsA h i ++ [.go i [0] ((bitsA h i).length + 5), .put h 0, .go i [1] ((bitsA h i).length + 2)] ++ [.put h 1, .go h [0, 1] 1]
def bitsB (l : List Stp) (o : Nat) : Nat → List Stp
  | 0 => l
  | k + 1 => bitsB l o k ++ [.go ((o + k : Nat) : Int) [1] (bitsB l o k).length]
def bitsH (h m : Nat) : Hand := (1, bitsB (bitsA h h) (h + 1) (m - (h + 1)) ++ [.inn, .put h 0])
def cntA : Nat → List Stp
  | 0 => [.go 0 [] 1]
  | i + 1 => cntA i ++ [.go i [1] ((cntA i).length + 3), .put i 1, .go i [0, 1] 1, .put i 0]
def counterG (m : Nat) : Gt := ⟨List.replicate m (0, 1), [(1, cntA m ++ [.inn])]⟩
def P_program (ss : List S) (Φ : D → Prop) : Prop := ∃ bs most, ss = [.dice, .d (dBoxes bs), .d (.int most)] ∧ OkBoxes bs ∧ 2 ≤ most ∧ most ≤ 23 ∧ ∀ h, OkHand bs h → (h.2.length : Int) ≤ most → Φ (dHand h)
def P_pair (ss : List S) (Φ : D → Prop) : Prop := ∃ side : Int, ss = [.d (.int side)] ∧ Φ (dHand (pairH side))
def P_bits (ss : List S) (Φ : D → Prop) : Prop := ∃ h m : Nat, ss = [.d (.int h), .d (.int m)] ∧ h < m ∧ m ≤ 4 ∧ Φ (dHand (bitsH h m))
def P_counter (ss : List S) (Φ : D → Prop) : Prop := ∃ m : Nat, ss = [.d (.int m)] ∧ m ≤ 5 ∧ Φ (dGate (counterG m))
def P_gate (ss : List S) (Φ : D → Prop) : Prop := ss = [.dice] ∧ ∀ g, OkGate g → Φ (dGate g)
theorem pair_ok (side : Int) (h : side = 0 ∨ side = 1) : OkHand [(0, 1), (0, 1), (0, 1)] (pairH side) := by
  rcases h with rfl | rfl
  · exact okHandB_ok (i := 4) (by decide +kernel)
  · exact okHandB_ok (i := 4) (by decide +kernel)
theorem bits_ok : ∀ m, 2 ≤ m → m ≤ 4 → ∀ h, h < m → OkHand (List.replicate m (0, 1)) (bitsH h m) := by
  intro m h2 h4 h hm
  have : ∃ i, okHandB (List.replicate m (0, 1)) (bitsH h m) i = true := by
    have cs : (m = 2 ∨ m = 3 ∨ m = 4) := by omega
    rcases cs with rfl | rfl | rfl
    · have ch : h = 0 ∨ h = 1 := by omega
      rcases ch with rfl | rfl
      · exact ⟨2, by decide +kernel⟩
      · exact ⟨6, by decide +kernel⟩
    · have ch : h = 0 ∨ h = 1 ∨ h = 2 := by omega
      rcases ch with rfl | rfl | rfl
      · exact ⟨3, by decide +kernel⟩
      · exact ⟨7, by decide +kernel⟩
      · exact ⟨11, by decide +kernel⟩
    · have ch : h = 0 ∨ h = 1 ∨ h = 2 ∨ h = 3 := by omega
      rcases ch with rfl | rfl | rfl | rfl
      · exact ⟨4, by decide +kernel⟩
      · exact ⟨8, by decide +kernel⟩
      · exact ⟨12, by decide +kernel⟩
      · exact ⟨16, by decide +kernel⟩
  obtain ⟨i, hi⟩ := this
  exact okHandB_ok hi
theorem box01_ok {m : Nat} (h1 : 1 ≤ m) (h2 : m ≤ 10) : OkBoxes (List.replicate m (0, 1)) := by
  refine ⟨by rw [List.length_replicate]; exact h1, by rw [List.length_replicate]; exact h2, fun b hb => ?_⟩
  rw [List.eq_of_mem_replicate hb]
  exact ⟨by decide, by decide, by decide⟩
theorem counter_ok : ∀ m, 1 ≤ m → m ≤ 5 → OkGate (counterG m) := by
  intro m h1 h5
  refine ⟨box01_ok h1 (by omega), by simp [counterG], by simp [counterG], fun h hh => ?_⟩
  rw [List.mem_singleton.mp hh]
  have cs : m = 1 ∨ m = 2 ∨ m = 3 ∨ m = 4 ∨ m = 5 := by omega
  rcases cs with rfl | rfl | rfl | rfl | rfl
  · exact okHandB_ok (i := 5) (by decide +kernel)
  · exact okHandB_ok (i := 9) (by decide +kernel)
  · exact okHandB_ok (i := 13) (by decide +kernel)
  · exact okHandB_ok (i := 17) (by decide +kernel)
  · exact okHandB_ok (i := 21) (by decide +kernel)
end Gh
namespace Gh
open PySem L2 Dl
theorem ints_plain : ∀ ns : List Int, D.plains (ns.map .int) = true
  | [] => by simp [D.plains]
  | _ :: r => by simp [D.plains, D.plain, ints_plain r]
theorem ints_lay : ∀ ns : List Int, PyData.canLayAll0 (D.pys (ns.map .int)) = true
  | [] => by simp [D.pys, PyData.canLayAll0]
  | _ :: r => by simp [D.pys, D.py, PyData.canLayAll0, PyData.canLay0, ints_lay r]
theorem ints_depth : ∀ ns : List Int, PyData.depthAll (D.pys (ns.map .int)) = 0
  | [] => by simp [D.pys, PyData.depthAll]
  | _ :: r => by simp [D.pys, D.py, PyData.depthAll, PyData.depth, ints_depth r]
theorem dStp_plain (s : Stp) : (dStp s).plain = true := by
  cases s <;> simp [dStp, D.plain, D.plains, ints_plain]
theorem lay_put : PyData.strOk ("put" : Str) = true := by decide +kernel
theorem lay_go : PyData.strOk ("go" : Str) = true := by decide +kernel
theorem lay_in : PyData.strOk ("in" : Str) = true := by decide +kernel
theorem dStp_shaped (s : Stp) : SeqAt.shaped (dStp s).py = true := by
  cases s <;> simp [SeqAt.shaped, dStp, D.py, D.pys, PyData.canLay0, PyData.canLayAll0, PyData.depth, PyData.depthAll, ints_lay, ints_depth, lay_put, lay_go, lay_in]
theorem put_in : (("put" : Str) == ("in" : Str)) = false := by decide +kernel
theorem go_in : (("go" : Str) == ("in" : Str)) = false := by decide +kernel
theorem eqv_in (s : Stp) : PyData.eqv (dStp s).py (D.tup [.str "in"]).py = decide (s = .inn) := by
  cases s <;> simp [dStp, D.py, D.pys, PyData.eqv, PyData.eqvAll, put_in, go_in]
/-- x == ("in",), x != ("in",) of a step -/
theorem eq_in {s : Stp} {Φ : D → Prop} (h : Φ (.bl (decide (s = .inn)))) : wEqU (dStp s) (.tup [.str "in"]) Φ := by
  have e : eqS (dStp s) (.tup [.str "in"]) = none := by cases s <;> rfl
  unfold wEqU
  rw [e]
  refine ⟨⟨dStp_plain s, by simp [D.plain, D.plains], dStp_shaped s, dStp_shaped .inn⟩, ?_⟩
  rw [eqv_in]
  exact h
theorem ne_in {s : Stp} {Φ : D → Prop} (h : Φ (.bl (!decide (s = .inn)))) : wNeU (dStp s) (.tup [.str "in"]) Φ := by
  have e : eqS (dStp s) (.tup [.str "in"]) = none := by cases s <;> rfl
  unfold wNeU
  rw [e]
  refine ⟨⟨dStp_plain s, by simp [D.plain, D.plains], dStp_shaped s, dStp_shaped .inn⟩, ?_⟩
  rw [eqv_in]
  exact h
/-- a hand with one step another one -/
theorem ok_changed {bs : List Box} {h : Hand} {a : Nat} {s t : Stp} (ok : OkHand bs h) (ha : h.2[a]? = some t) (ht : t ≠ .inn) (hs : OkStp bs h.2.length s) (hn : s ≠ .inn) : OkHand bs (h.1, h.2.set a s) := by
  obtain ⟨l2, l24, ho, i, i0, hi, hu, k1, k2⟩ := ok
  have hne : a ≠ i := fun e => by
    rw [e, hi] at ha
    exact ht (Option.some.inj ha).symm
  refine ⟨by simpa using l2, by simpa using l24, fun z hz => ?_, i, i0, ?_, fun j hj => ?_, k1, k2⟩
  · show OkStp bs ((h.2.set a s).length : Nat) z
    rw [List.length_set]
    rcases List.mem_or_eq_of_mem_set hz with q | q
    · exact ho z q
    · rw [q]; exact hs
  · show (h.2.set a s)[i]? = _
    rw [List.getElem?_set_ne hne]
    exact hi
  · have hj' : (h.2.set a s)[j]? = some .inn := hj
    by_cases hc : a = j
    · subst hc
      rw [List.getElem?_set_self (List.getElem?_eq_some_iff.mp ha).1] at hj'
      exact absurd (Option.some.inj hj') hn
    · rw [List.getElem?_set_ne hc] at hj'
      exact hu j hj'
theorem cut_to {α : Type} {xs : List α} {a : Int} (h0 : 0 ≤ a) (hn : a.toNat ≤ xs.length) : cutG xs none (some a) = xs.take a.toNat := by
  show (xs.drop 0).take ((if a < 0 then (a + (xs.length : Int)).toNat else min a.toNat xs.length) - 0) = _
  rw [if_neg (by omega), Nat.min_eq_left hn, Nat.sub_zero, List.drop_zero]
theorem cut_from {α : Type} {xs : List α} {a : Int} (h0 : 0 ≤ a) (hn : a.toNat ≤ xs.length) : cutG xs (some a) none = xs.drop a.toNat := by
  show (xs.drop (if a < 0 then (a + (xs.length : Int)).toNat else min a.toNat xs.length)).take (xs.length - (if a < 0 then (a + (xs.length : Int)).toNat else min a.toNat xs.length)) = _
  rw [if_neg (by omega), Nat.min_eq_left hn, List.take_of_length_le (by rw [List.length_drop]; exact Nat.le_refl _)]
theorem take_set {α : Type} : ∀ {xs : List α} {k : Nat} {y : α}, k < xs.length → xs.take k ++ [y] ++ xs.drop (k + 1) = xs.set k y
  | [], _, _, h => absurd h (Nat.not_lt_zero _)
  | x :: xs, 0, y, _ => rfl
  | x :: xs, k + 1, y, h => by
    show x :: (xs.take k ++ [y] ++ xs.drop (k + 1)) = x :: xs.set k y
    rw [take_set (Nat.lt_of_succ_lt_succ h)]
theorem cut_set {α : Type} {xs : List α} {a : Int} (h0 : 0 ≤ a) (hn : a.toNat < xs.length) (y : α) : cutG xs none (some a) ++ [y] ++ cutG xs (some (a + 1)) none = xs.set a.toNat y := by
  have e : (a + 1).toNat = a.toNat + 1 := by omega
  rw [cut_to h0 (Nat.le_of_lt hn), cut_from (by omega) (by omega), e, take_set hn]
theorem cut_len1 {α : Type} {xs : List α} (lo hi : Option Int) : (cutG xs lo hi).length ≤ xs.length := by
  unfold cutG
  rw [List.length_take, List.length_drop]
  omega
end Gh
namespace Gh
open PySem L2 Dl
/-! ### states -/
structure Stt where
  b : List Int
  p : List Int
  deriving DecidableEq
def dInts (l : List Int) : D := .tup (l.map .int)
def dStt (s : Stt) : D := .tup [dInts s.b, dInts s.p]
structure OkStt (g : Gt) (s : Stt) : Prop where
  lb : s.b.length = g.bs.length
  lp : s.p.length = g.hs.length
  bx : ∀ (i : Nat) (x : Int) (b : Box), s.b[i]? = some x → g.bs[i]? = some b → 0 ≤ x ∧ x ≤ b.2
  pl : ∀ (i : Nat) (x : Int) (h : Hand), s.p[i]? = some x → g.hs[i]? = some h → 0 ≤ x ∧ x < h.2.length
/-- where a hand is within -/
def inAt (h : Hand) : Nat := h.2.idxOf .inn
theorem inAt_ok {bs : List Box} {h : Hand} (ok : OkHand bs h) : h.2[inAt h]? = some .inn ∧ 0 < inAt h ∧ (∀ j, h.2[j]? = some .inn → j = inAt h) ∧ 1 ≤ h.1 ∧ h.1 ≤ inAt h := by
  obtain ⟨i, i0, hi, hu, k1, k2⟩ := ok.inn
  have hm : Stp.inn ∈ h.2 := List.mem_of_getElem? hi
  have hl := List.idxOf_lt_length_of_mem hm
  have hg : h.2[inAt h]? = some .inn := by
    unfold inAt
    rw [List.getElem?_eq_getElem hl, List.getElem_idxOf]
  have e := hu _ hg
  refine ⟨hg, by rw [e]; exact i0, fun j hj => by rw [hu j hj, e], k1, by rw [e]; exact k2⟩
def nextAt (h : Hand) (x : Int) : Int := (x + 1) % h.2.length
/-- the state behind a hand's step -/
def stepM (s : Stt) (i : Nat) (h : Hand) (x : Int) : Stp → Stt
  | .put b n => ⟨s.b.set b.toNat n, s.p.set i (nextAt h x)⟩
  | .go b ns a => ⟨s.b, s.p.set i (if s.b.getD b.toNat 0 ∈ ns then a else nextAt h x)⟩
  | .inn => ⟨s.b, s.p.set i (nextAt h x)⟩
def doneM (g : Gt) (s : Stt) (i : Nat) : Stt := match g.hs[i]?, s.p[i]? with
  | some h, some x => (match h.2[x.toNat]? with
    | some st => stepM s i h x st
    | none => s)
  | _, _ => s
theorem doneM_eq {g : Gt} {s : Stt} {i : Nat} {h : Hand} {x : Int} {st : Stp} (h1 : g.hs[i]? = some h) (h2 : s.p[i]? = some x) (h3 : h.2[x.toNat]? = some st) : doneM g s i = stepM s i h x st := by
  unfold doneM
  rw [h1, h2]
  simp only [h3]
theorem nextAt_ok {bs : List Box} {h : Hand} {x : Int} (ok : OkHand bs h) (h0 : 0 ≤ x) : 0 ≤ nextAt h x ∧ nextAt h x < h.2.length := by
  have := ok.len2
  unfold nextAt
  exact ⟨Int.emod_nonneg _ (by omega), Int.emod_lt_of_pos _ (by omega)⟩
theorem doneM_ok {g : Gt} {s : Stt} {i : Nat} (og : OkGate g) (os : OkStt g s) : OkStt g (doneM g s i) := by
  unfold doneM
  split
  · rename_i h x eh ex
    split
    · rename_i st est
      have hh := og.hs h (List.mem_of_getElem? eh)
      have hx := os.pl i x h ex eh
      have nx := nextAt_ok hh hx.1
      have hst := hh.ok st (List.mem_of_getElem? est)
      have setp : ∀ y, 0 ≤ y ∧ y < (h.2.length : Int) → ∀ (k : Nat) (z : Int) (h' : Hand), (s.p.set i y)[k]? = some z → g.hs[k]? = some h' → 0 ≤ z ∧ z < h'.2.length := fun y hy k z h' e1 e2 => by
        by_cases hk : i = k
        · subst hk
          rw [List.getElem?_set_self (List.getElem?_eq_some_iff.mp ex).1] at e1
          rw [eh] at e2
          cases e1
          cases e2
          exact hy
        · rw [List.getElem?_set_ne hk] at e1
          exact os.pl k z h' e1 e2
      cases st with
      | put b n =>
        obtain ⟨y, b0, hb, n0, n1⟩ := hst
        refine ⟨by simp [stepM, os.lb], by simp [stepM, os.lp], fun k z bx e1 e2 => ?_, setp _ nx⟩
        have e1' : (s.b.set b.toNat n)[k]? = some z := e1
        by_cases hk : b.toNat = k
        · subst hk
          rw [hb] at e2
          cases e2
          rw [List.getElem?_set_self (by rw [os.lb]; exact (List.getElem?_eq_some_iff.mp hb).1)] at e1'
          cases e1'
          exact ⟨n0, n1⟩
        · rw [List.getElem?_set_ne hk] at e1'
          exact os.bx k z bx e1' e2
      | go b ns a =>
        obtain ⟨y, b0, hb, _, _, a1, a2⟩ := hst
        refine ⟨os.lb, by simp [stepM, os.lp], os.bx, setp _ ?_⟩
        split
        · exact ⟨by omega, a2⟩
        · exact nx
      | inn => exact ⟨os.lb, by simp [stepM, os.lp], os.bx, setp _ nx⟩
    · exact os
  · exact os
/-! ### promises -/
def P_wide_gate (ss : List S) (Φ : D → Prop) : Prop := ss = [.dice] ∧ ∀ g, OkGate g → Φ (dGate g)
def P_begin (ss : List S) (Φ : D → Prop) : Prop := ∃ g, ss = [.d (dGate g)] ∧ OkGate g ∧ Φ (dStt ⟨g.bs.map (·.1), g.hs.map fun _ => 0⟩)
def P_behind (ss : List S) (Φ : D → Prop) : Prop := ∃ g s, ∃ i : Nat, ss = [.d (dGate g), .d (dStt s), .d (.int i)] ∧ OkGate g ∧ OkStt g s ∧ i < g.hs.length ∧ Φ (dStt (doneM g s i))
def P_inner (ss : List S) (Φ : D → Prop) : Prop := ∃ g, ∃ i : Nat, ∃ h, ss = [.d (dGate g), .d (.int i)] ∧ OkGate g ∧ g.hs[i]? = some h ∧ Φ (.int (inAt h))
def P_state (ss : List S) (Φ : D → Prop) : Prop := ∃ g, ss = [.dice, .d (dGate g)] ∧ OkGate g ∧ ∀ s, OkStt g s → Φ (dStt s)
end Gh
namespace Gh
open PySem L2 Dl
theorem take_map {α β : Type} {xs : List α} {f : α → β} {i : Nat} {x : α} (h : xs[i]? = some x) : (xs.take (i + 1)).map f = (xs.take i).map f ++ [f x] := by
  rw [List.take_add_one, h, List.map_append]
  rfl
theorem map_at {α β : Type} {xs : List α} {f : α → β} {i : Nat} {y : β} (h : (xs.map f)[i]? = some y) : ∃ x, xs[i]? = some x ∧ y = f x := by
  rw [List.getElem?_map] at h
  cases q : xs[i]? with
  | none => rw [q] at h; cases h
  | some x => rw [q] at h; exact ⟨x, rfl, (Option.some.inj h).symm⟩
theorem atI_map {α : Type} {xs : List α} {f : α → D} {i : Nat} {x : α} (h : xs[i]? = some x) : L2.atI (xs.map f) (i : Int) = some (f x) := atI_nat (by rw [List.getElem?_map, h]; rfl)
theorem atI_mapI {α : Type} {xs : List α} {f : α → D} {i : Int} {x : α} (h0 : 0 ≤ i) (h : xs[i.toNat]? = some x) : L2.atI (xs.map f) i = some (f x) := atI_i h0 (by rw [List.getElem?_map, h]; rfl)
theorem steps_plain : ∀ l : List Stp, D.plains (l.map dStp) = true
  | [] => by simp [D.plains]
  | s :: r => by simp [D.plains, dStp_plain s, steps_plain r]
theorem dStp_lay (s : Stp) : PyData.canLay0 (dStp s).py = true := (Bool.and_eq_true_iff.mp (dStp_shaped s)).1
theorem dStp_depth (s : Stp) : PyData.depth (dStp s).py ≤ 2 := by
  cases s <;> simp [dStp, D.py, D.pys, PyData.depth, PyData.depthAll, ints_depth]
theorem steps_lay : ∀ l : List Stp, PyData.canLayAll0 (D.pys (l.map dStp)) = true
  | [] => by simp [D.pys, PyData.canLayAll0]
  | s :: r => by simp [D.pys, PyData.canLayAll0, dStp_lay s, steps_lay r]
theorem steps_depth : ∀ l : List Stp, PyData.depthAll (D.pys (l.map dStp)) ≤ 2
  | [] => by simp [D.pys, PyData.depthAll]
  | s :: r => by
    have h1 := dStp_depth s
    have h2 := steps_depth r
    simp only [List.map_cons, D.pys, PyData.depthAll]
    omega
theorem steps_shaped (l : List Stp) : SeqAt.shaped (D.lst (l.map dStp)).py = true := by
  have h := steps_depth l
  simp only [SeqAt.shaped, D.py, PyData.canLay0, PyData.depth, steps_lay, Bool.true_and]
  exact decide_eq_true (by omega)
theorem set_ints {l : List Int} {i : Nat} {x : Int} : (l.map D.int).set i (.int x) = (l.set i x).map .int := by
  rw [List.map_set]
theorem ints_flat (l : List Int) : (l.map D.int).all flatD = true := by
  rw [List.all_map]
  exact List.all_eq_true.mpr fun _ _ => rfl
theorem ints_in (l : List Int) (x : Int) : ((l.map D.int).any fun y => eqF y (.int x)) = decide (x ∈ l) := by
  rw [List.any_map]
  induction l with
  | nil => simp
  | cons y r ih =>
    rw [List.any_cons, ih]
    by_cases h : x = y
    · subst h
      simp [eqF]
    · have h' : ¬ y = x := fun z => h z.symm
      have e : ((fun y => eqF y (D.int x)) ∘ D.int) y = false := by
        show (y == x) = false
        exact beq_eq_false_iff_ne.mpr h'
      rw [e, Bool.false_or]
      simp [h]
end Gh
namespace Gh
open PySem L2 Dl
/-! ### hands by what they are at -/
def atB (q : Hand → Int → Bool) (g : Gt) (s : Stt) (i : Nat) : Bool := match g.hs[i]?, s.p[i]? with
  | some h, some x => q h x
  | _, _ => false
def isIn (h : Hand) (x : Int) : Bool := decide (x = inAt h)
def isWait (h : Hand) (x : Int) : Bool := decide (h.1 ≤ x) && decide (x < inAt h)
def isOut (_ : Hand) (x : Int) : Bool := decide (x = 0)
def handsD (q : Hand → Int → Bool) (g : Gt) (s : Stt) (n : Nat) : List D := ((List.range n).filter (atB q g s)).map fun (k : Nat) => D.int (k : Int)
theorem handsD_succ {q : Hand → Int → Bool} {g : Gt} {s : Stt} {i : Nat} {h : Hand} {x : Int} (e1 : g.hs[i]? = some h) (e2 : s.p[i]? = some x) : handsD q g s (i + 1) = if q h x = true then handsD q g s i ++ [.int (i : Int)] else handsD q g s i := by
  have e : atB q g s i = q h x := by unfold atB; rw [e1, e2]
  unfold handsD
  rw [List.range_succ, List.filter_append, List.map_append]
  by_cases hq : q h x = true
  · rw [if_pos hq]
    have : [i].filter (atB q g s) = [i] := by simp [e, hq]
    rw [this]
    rfl
  · rw [if_neg hq]
    have : [i].filter (atB q g s) = [] := by simp [e, hq]
    rw [this]
    simp
theorem handsD_yes {q : Hand → Int → Bool} {g : Gt} {s : Stt} {i : Nat} {h : Hand} {x : Int} (e1 : g.hs[i]? = some h) (e2 : s.p[i]? = some x) (e : q h x = true) : handsD q g s i ++ [.int (i : Int)] = handsD q g s (i + 1) := by rw [handsD_succ e1 e2, if_pos e]
theorem handsD_no {q : Hand → Int → Bool} {g : Gt} {s : Stt} {i : Nat} {h : Hand} {x : Int} (e1 : g.hs[i]? = some h) (e2 : s.p[i]? = some x) (e : ¬ q h x = true) : handsD q g s i = handsD q g s (i + 1) := by rw [handsD_succ e1 e2, if_neg e]
theorem handsD_len {q : Hand → Int → Bool} {g : Gt} {s : Stt} {n : Nat} : (handsD q g s n).length ≤ n := by
  unfold handsD
  rw [List.length_map]
  exact Nat.le_trans (List.length_filter_le _ _) (by rw [List.length_range]; exact Nat.le_refl _)
def P_waits (ss : List S) (Φ : D → Prop) : Prop := ∃ g s, ∃ i : Nat, ∃ h x, ss = [.d (dGate g), .d (dStt s), .d (.int i)] ∧ OkGate g ∧ g.hs[i]? = some h ∧ s.p[i]? = some x ∧ Φ (.bl (isWait h x))
def P_within (ss : List S) (Φ : D → Prop) : Prop := ∃ g s, ss = [.d (dGate g), .d (dStt s)] ∧ OkGate g ∧ OkStt g s ∧ Φ (.lst (handsD isIn g s g.hs.length))
def P_waiting (ss : List S) (Φ : D → Prop) : Prop := ∃ g s, ss = [.d (dGate g), .d (dStt s)] ∧ OkGate g ∧ OkStt g s ∧ Φ (.lst (handsD isWait g s g.hs.length))
/-! ### the program's own -/
def dProgs (g : Gt) : D := .tup (g.hs.map fun h => .tup (h.2.map dStp))
def dObj (C : Addr) (g : Gt) : D := .obj C ["pairs", "programs", "knocks", "insides"] [.tup (g.bs.map dBox), dProgs g, .tup (g.hs.map fun h => .int h.1), .tup (g.hs.map fun h => .int (inAt h))]
def PP_replaced (ss : List S) (Φ : D → Prop) : Prop := ∃ l : List Int, ∃ i v : Int, ss = [.d (dInts l), .d (.int i), .d (.int v)] ∧ 0 ≤ i ∧ i.toNat < l.length ∧ l.length ≤ 100 ∧ Φ (dInts (l.set i.toNat v))
def PP_Gate_many (C : Addr) (ss : List S) (Φ : D → Prop) : Prop := ∃ g, ss = [.d (dObj C g)] ∧ Φ (.int g.hs.length)
def PP_begin (C : Addr) (ss : List S) (Φ : D → Prop) : Prop := ∃ g, ss = [.d (dObj C g)] ∧ OkGate g ∧ Φ (dStt ⟨g.bs.map (·.1), g.hs.map fun _ => 0⟩)
def PP_within (C : Addr) (ss : List S) (Φ : D → Prop) : Prop := ∃ g s, ss = [.d (dObj C g), .d (dStt s)] ∧ OkGate g ∧ OkStt g s ∧ Φ (.lst (handsD isIn g s g.hs.length))
def PP_waiting (C : Addr) (ss : List S) (Φ : D → Prop) : Prop := ∃ g s, ss = [.d (dObj C g), .d (dStt s)] ∧ OkGate g ∧ OkStt g s ∧ Φ (.lst (handsD isWait g s g.hs.length))
def PP_outside (C : Addr) (ss : List S) (Φ : D → Prop) : Prop := ∃ g s, ss = [.d (dObj C g), .d (dStt s)] ∧ OkGate g ∧ OkStt g s ∧ Φ (.lst (handsD isOut g s g.hs.length))
end Gh
namespace Gh
open PySem L2 Dl
/-! ### what a gate is asked -/
def rdB (bs : List Box) (b : Int) (ns : List Int) : Bool := match bs[b.toNat]? with
  | some x => decide (0 ≤ b ∧ ns.Pairwise (· < ·) ∧ ∀ n ∈ ns, 0 ≤ n ∧ n ≤ x.2)
  | none => false
theorem okStpB_go (bs : List Box) (many b a : Int) (ns : List Int) : okStpB bs many (.go b ns a) = (rdB bs b ns && decide (1 ≤ a ∧ a < many)) := by
  cases e : bs[b.toNat]? with
  | none => simp [okStpB, rdB, e]
  | some x =>
    simp only [okStpB, rdB, e]
    by_cases h : 0 ≤ b ∧ ns.Pairwise (· < ·) ∧ ∀ n ∈ ns, 0 ≤ n ∧ n ≤ x.2
    · rw [decide_eq_true h, Bool.true_and]
      by_cases h2 : 1 ≤ a ∧ a < many
      · rw [decide_eq_true h2, decide_eq_true ⟨h.1, h.2.1, h.2.2, h2.1, h2.2⟩]
      · rw [decide_eq_false h2, decide_eq_false fun z => h2 z.2.2.2]
    · rw [decide_eq_false h, Bool.false_and, decide_eq_false fun z => h ⟨z.1, z.2.1, z.2.2.1⟩]
theorem okStpB_of {bs : List Box} {many : Int} {s : Stp} (h : OkStp bs many s) : okStpB bs many s = true := by
  cases s with
  | put b n =>
    obtain ⟨x, h1, h2, h3, h4⟩ := h
    simp only [okStpB, h2]
    exact decide_eq_true ⟨h1, h3, h4⟩
  | go b ns a =>
    obtain ⟨x, h1, h2, h3, h4, h5, h6⟩ := h
    simp only [okStpB, h2]
    exact decide_eq_true ⟨h1, h3, h4, h5, h6⟩
  | inn => rfl
def inB (l : List Stp) (i : Nat) : Bool := decide (l[i]? = some .inn)
def insD (l : List Stp) (n : Nat) : List D := ((List.range n).filter (inB l)).map fun (k : Nat) => D.int (k : Int)
theorem insD_yes {l : List Stp} {i : Nat} (e : l[i]? = some .inn) : insD l i ++ [.int (i : Int)] = insD l (i + 1) := by
  have h : inB l i = true := decide_eq_true e
  unfold insD
  rw [List.range_succ, List.filter_append, List.map_append]
  simp [h]
theorem insD_no {l : List Stp} {i : Nat} (e : l[i]? ≠ some .inn) : insD l i = insD l (i + 1) := by
  have h : inB l i = false := decide_eq_false e
  unfold insD
  rw [List.range_succ, List.filter_append, List.map_append]
  simp [h]
theorem insD_one {l : List Stp} {i : Nat} (h1 : l[i]? = some .inn) (h2 : ∀ j, l[j]? = some .inn → j = i) : ∀ n, insD l n = if i < n then [D.int (i : Int)] else [] := by
  intro n
  induction n with
  | zero => rfl
  | succ n ih =>
    by_cases hn : n = i
    · subst hn
      rw [← insD_yes h1, ih, if_neg (Nat.lt_irrefl _), if_pos (Nat.lt_succ_self _)]
      rfl
    · rw [← insD_no (fun z => hn (h2 n z)), ih]
      by_cases hl : i < n
      · rw [if_pos hl, if_pos (Nat.lt_succ_of_lt hl)]
      · rw [if_neg hl, if_neg (by omega)]
def PP_can_be_put (ss : List S) (Φ : D → Prop) : Prop := ∃ bs b n, ss = [.d (dBoxes bs), .d (.int b), .d (.int n)] ∧ bs.length ≤ 20 ∧ Φ (.bl (okStpB bs 0 (.put b n)))
def PP_can_be_read (ss : List S) (Φ : D → Prop) : Prop := ∃ bs b ns, ss = [.d (dBoxes bs), .d (.int b), .d (dInts ns)] ∧ bs.length ≤ 20 ∧ Φ (.bl (rdB bs b ns))
def PP_can_be_step (ss : List S) (Φ : D → Prop) : Prop := ∃ bs many s, ss = [.d (dBoxes bs), .d (.int many), .d (dStp s)] ∧ bs.length ≤ 20 ∧ Φ (.bl (okStpB bs many s))
def PP_places_of_in (ss : List S) (Φ : D → Prop) : Prop := ∃ l : List Stp, ss = [.d (.lst (l.map dStp))] ∧ l.length ≤ 100 ∧ Φ (.lst (insD l l.length))
def PP_check_boxes (ss : List S) (Φ : D → Prop) : Prop := ∃ bs, ss = [.d (dBoxes bs)] ∧ OkBoxes bs ∧ Φ .non
def PP_check_program (ss : List S) (Φ : D → Prop) : Prop := ∃ bs h, ∃ i : Int, ss = [.d (dBoxes bs), .d (.int i), .d (.lst (h.2.map dStp))] ∧ OkBoxes bs ∧ OkHand bs h ∧ Φ .non
def PP_check_knock (ss : List S) (Φ : D → Prop) : Prop := ∃ bs h, ∃ i : Int, ss = [.d (.int i), .d (.int h.1), .d (.lst (h.2.map dStp))] ∧ OkHand bs h ∧ Φ .non
def PP_check_hands (ss : List S) (Φ : D → Prop) : Prop := ∃ g, ss = [.d (dBoxes g.bs), .d (.lst (g.hs.map dHand))] ∧ OkGate g ∧ Φ .non
end Gh

/-! isinstance of plain data, one built-in type. -/
namespace Dl
open PySem L2 PyProof.Rows
inductive Ki where
  | bool | int | str | dict | tuple | list
def Ki.nm : Ki → String
  | .bool => "bool" | .int => "int" | .str => "str" | .dict => "dict" | .tuple => "tuple" | .list => "list"
def Ki.sn : Ki → Str
  | .bool => "bool" | .int => "int" | .str => "str" | .dict => "dict" | .tuple => "tuple" | .list => "list"
/-- is it of that type? -/
def isKi : Ki → D → Option Bool
  | .bool, .bl _ => some true | .int, .bl _ => some true
  | .int, .int _ => some true | .str, .str _ => some true
  | .tuple, .tup _ => some true | .list, .lst _ => some true
  | _, .obj _ _ _ => none | _, .raw _ => none
  | _, _ => some false
def tyD : D → String
  | .non => "NoneType" | .bl _ => "bool" | .int _ => "int" | .str _ => "str" | .lst _ => "list" | .tup _ => "tuple" | _ => ""
theorem kit_isKi {k : Ki} {d : D} {b : Bool} (h : isKi k d = some b) : kitB (tyD d) k.nm = some b := by
  cases d <;> cases k <;> cases h <;> (simp only [tyD, Ki.nm]; decide +kernel)
theorem Rep.ty {K : PySem.W.Frag} {B : Addr → Prop} {H : Hp} {k : Ki} {v : V} {d : D} {b : Bool} (r : Rep B H v d) (h : isKi k d = some b) : TyX K H v (.type (tyD d)) := by
  cases r with
  | non => exact .base .non
  | bl b => exact .base (.bl b)
  | int i => exact .base (.int i)
  | str x => exact .base (.str x)
  | lst n s _ => exact .base (.lst s)
  | tup n s _ => exact .base (.tup s)
  | obj => cases k <;> cases h
  | raw => cases k <;> cases h
theorem Ki.boot : ∀ k : Ki, bootBuiltins k.sn = some (.type k.nm) := by
  intro k; cases k <;> decide +kernel
section
variable {X : Cx} {E : XK} {e : Expr} {te : TE} {w : WE} {pos p p2 : Pos}
def wIsi (k : Ki) (w : WE) : WE := fun ρ Φ => w ρ fun d => match isKi k d with
  | some b => Φ (.bl b)
  | none => False
theorem dk_isi (K : PySem.W.Frag) (k : Ki) {x : Str} (he : DE X E e te w) (hg : Gl X "isinstance") (hm : X.mg "isinstance" = none) (hg2 : Gl X x) (hm2 : X.mg x = none) (hx : x = k.sn := by rfl) (hK : X.K = K := by rfl)
    (hn : x ≠ "__name__" := by decide) (hdb : (x == ("__debug__" : Str)) = false := by decide)
    (na : starEach [e, .Name x p2] X.env = (false, eval e X.env) :: starEach [.Name x p2] X.env := by rfl) (na2 : starEach [.Name x p2] X.env = (false, eval (.Name x p2) X.env) :: starEach [] X.env := by rfl)
    (hpl : (backTo pos (starEach [.Name x p2] X.env)).any (·.1) = false := by rfl) :
    DE X E (.Call (.Name "isinstance" p) [e, .Name x p2] [] pos) (tCB (rIsi K) (tCons te (tCons (tC (.ty k.nm)) tNil))) (wIsi k w) := by
  subst hK
  refine ⟨pe_callB call_isi hg hm (by decide +kernel) (pa_cons he.p (pa_cons (pe_bltn (v := .ty k.nm) hg2 hm2 (by rw [hx]; exact k.boot) rfl hn hdb) pa_nil na2) na) (he := na) (hpl := hpl), fun δ M σ H ρ R Φ Q h q => ?_⟩
  refine he.a δ M σ H ρ R _ _ h fun v H1 d e1 r1 h1 => ?_
  have h2 : (match isKi k d with | some b => Φ (.bl b) | none => False) := h1
  split at h2
  · rename_i b hb
    exact ⟨v, .ty k.nm, .type (tyD d), .type k.nm, b, rfl, .ty _, r1.ty hb, kit_ty (kit_isKi hb), q _ H1 _ e1 (.bl b) h2⟩
  · exact h2.elim
end
/-! ### the laws' alike, of what is alike -/
def Lv : Nat → D → Prop
  | 0, _ => False
  | n + 1, d => match d with
    | .obj _ _ _ => False
    | .raw _ => False
    | .lst xs => xs.length < 100000 ∧ ∀ x ∈ xs, Lv n x
    | .tup xs => xs.length < 100000 ∧ ∀ x ∈ xs, Lv n x
    | _ => True
def P_alike (n : Nat) (ss : List S) (Φ : D → Prop) : Prop := ∃ a : D, ss = [.d a, .d a] ∧ Lv n a ∧ Φ (.bl true)
theorem Lv.mono : ∀ {n : Nat} {d : D}, Lv n d → Lv (n + 1) d
  | 0, _, h => h.elim
  | n + 1, .non, _ => trivial
  | n + 1, .bl _, _ => trivial
  | n + 1, .int _, _ => trivial
  | n + 1, .str _, _ => trivial
  | n + 1, .lst _, ⟨h1, h2⟩ => ⟨h1, fun x hx => (h2 x hx).mono⟩
  | n + 1, .tup _, ⟨h1, h2⟩ => ⟨h1, fun x hx => (h2 x hx).mono⟩
end Dl

/-! A comprehension over a list while an exception is handled. -/
namespace Dl
open PySem PySem.Spec PyProof.Rows L2 HotX L2H
section
variable {prog : Program} {w : World} {A : Around} {E : Value → Shared → Prop} {s : Shared}
/-- a list iterator at its end, an exception handled -/
theorem list_end_hot {it l x1 : Addr} {i : Nat} {items : Array Value} {Q : Option Value → Shared → Prop} (hot : HotAt A x1 s.heap) (hne : x1 ≠ it) (hit : s.heap.IsListIter it l i) (hl : s.heap.IsList l items) (hx : items[i]? = none)
    (hQ : ∀ h', (∀ b o, b ≠ it → s.heap.get? b = some o → h'.get? b = some o) → Q none { s with heap := h' }) : wpAny (model prog w) A (pyNext (.ref it)) Q E s := by
  obtain ⟨hh, o1, vs1, h1, d1, c1⟩ := hot
  obtain ⟨o, ho, hc, hd⟩ := id hit
  obtain ⟨ol, hol, _, nl, hdl⟩ := hl
  unfold pyNext
  refine wpAny_bind (wpAny_attempt (wpAny_callSpecial?_slot (name := Str.ofString "__next__") hit.typeIs slot_listiter_next
    (wpAny_call_entry slot_listiter_next hit.typeIs entry_listiter_next ?_ (args_listiter_next _))))
  show wpAny _ _ (field (.ref it) 0 >>= _) _ _ s
  refine wpAny_bind (wpAny_field ho hd (x := .ref l) rfl ?_)
  show wpAny _ _ (if (Value.ref l == Value.none) = true then _ else _) _ _ s
  rw [if_neg (show ¬ ((Value.ref l == Value.none) = true) from Bool.false_ne_true)]
  show wpAny _ _ (field (.ref it) 1 >>= _) _ _ s
  refine wpAny_bind (wpAny_field ho hd (x := .int i 0) rfl ?_)
  show wpAny _ _ (seqItems? (.ref l) >>= _) _ _ s
  refine wpAny_bind (PySem.wpAny_seqItems hol hdl ?_)
  simp only [Int.toNat_natCast, hx]
  refine wpAny_bind (wpAny_rule (wpAny_bind (wpAny_setField ho hd (by simp) ?_)))
  show wpAny _ _ (newExc (.type "StopIteration") [] >>= _) _ _ _
  refine wpAny_bind ?_
  simp only [newExc, newTuple]
  refine wpAny_bind (wpAny_newObj_type ?_ (by size_fits))
  refine wpAny_bind (m := firstArgMember _ _) (wpAny_of_eq (a := Value.none) (by first | rfl | (simp only [firstArgMember]; rfl)) ?_)
  refine wpAny_newObj_type ?_ (by size_fits)
  have g1 : ∀ b ob, b ≠ it → s.heap.get? b = some ob → (s.heap.update it (Obj.mapFields (·.setIfInBounds 0 Value.none))).get? b = some ob := fun b ob hb e => by rw [Heap.get?_update_other _ _ hb.symm]; exact e
  refine raiseNew_hot ⟨hh, o1, vs1, Heap.get?_push_of_some _ (Heap.get?_push_of_some _ (g1 _ _ hne h1)), d1, c1⟩ (Nat.ne_of_lt (Heap.lt_size (Heap.get?_push_of_some _ (g1 _ _ hne h1)))) (Heap.get?_push_size _ rfl) rfl (by first | (simp; done) | (simp; omega)) ?_
  refine wpAny_bind (wpAny_isInstance (T := "StopIteration") (b := true) ⟨_, Heap.get?_update_self _ (Heap.get?_push_size _ rfl) rfl, rfl⟩ isSubtype_stop ?_)
  refine wpAny_pure (hQ _ fun b ob hb e => ?_)
  rw [Heap.get?_update_other _ _ (Nat.ne_of_gt (Heap.lt_size (Heap.get?_push_of_some _ (g1 _ _ hb e))))]
  exact Heap.get?_push_of_some _ (Heap.get?_push_of_some _ (g1 _ _ hb e))
end
section
variable {X : Cx}
/-- [elt for tg in iter], iter a tracked list that stays as it is -/
def tLcH (ti : TE) (g : TG) (te : TE) (vs : List Nat) : TE := fun σ H Q => ti σ H fun x H1 => ∃ a xs, x = .ref a ∧ H1 a = some (.lst xs) ∧ ∀ D, H1 D = none → ∃ W : Nat → Hp → Prop, W 0 (upd H1 D (.lst [])) ∧
  ∀ i H, W i H → H a = some (.lst xs) ∧ (xs.length ≤ i → Q (.ref D) H) ∧ ∀ x, xs[i]? = some x → g x (wipe σ vs) H fun σ2 H2 => wipe σ2 vs = wipe σ vs ∧ te σ2 H2 fun y H4 => ∃ acc, H4 D = some (.lst acc) ∧ acc.length < sizeLine ∧ W (i + 1) (upd H4 D (.lst (acc ++ [y])))
theorem pe_lcH {elt tg iter : Expr} {scope : Scope} {own : List (Str × Nat)} {pos : Pos} {ti : TE} {g : TG} {te : TE} (hc : HotC X) (hN : X.N.Nodup) (hi : PE X iter ti) (ok : BlkOk X.N X.env.scope scope own)
    (hg : ∀ (s : Shared) (H : Hp) (C : Addr) (cl : List (Str × Addr)) (fp : List Addr), PG (X.blk s H scope (compEnvC scope cl C X.env) fp) tg g)
    (he : ∀ (s : Shared) (H : Hp) (C : Addr) (cl : List (Str × Addr)) (fp : List Addr), PE (X.blk s H scope (compEnvC scope cl C X.env) fp) elt te) (hs : ∀ x, foldedSetIterable iter X.env x = pure x := by intro _; rfl) :
    PE X (.ListComp elt [⟨tg, iter, [], 0⟩] scope pos) (tLcH ti g te (own.map (·.2))) := by
  refine ⟨fun pins s σ H Q I h => ?_⟩
  rw [eval_ListComp]
  obtain ⟨p, ⟨hh, v1, e1, c1⟩, hp⟩ := hc
  have hfree : ∀ y ∈ scope.names, y.2 = .free → ∃ c, X.env.cells.lookup y.1 = some c := fun y hy e => (ok.free y hy e).elim (fun k => I.ok.has _ (.inl k)) (fun k => I.ok.has _ (.inr k))
  refine wpAny_comprehension_free (use := none) rfl hs (closure_ok hfree) ok.kind (fun y hy e => by rw [ok.uniq y hy, e]) (thn (hi.run pins s σ H _ I h) fun xv s1 ⟨x, H1, I1, rx, a, xs, ex, ha, q⟩ => ?_)
  subst ex
  have exv : xv = .ref a := rx
  subst exv
  obtain ⟨its1, rv1, pl1, hz1⟩ := I1.list (SqL.of ha)
  refine wpAny_pyIter_list pl1.isList ?_
  have I2 : Inv X pins σ H1 { s1 with heap := s1.heap.push { cls := .type "list_iterator", data := .fields #[.ref a, .int 0 0] } } := I1.kept (t' := s1.toks) fun b o e => Heap.get?_push_of_some _ e
  have fit := I1.fpOk (Nat.le_refl _) (I1.hok.fresh (Nat.le_refl _))
  generalize hs2 : ({ s1 with heap := s1.heap.push { cls := .type "list_iterator", data := .fields #[.ref a, .int 0 0] } } : Shared) = s2 at I2 ⊢
  have st2 : s2.heap.IsListIter s1.heap.objs.size a 0 := by rw [← hs2]; exact ⟨_, Heap.get?_push_size _ rfl, rfl, rfl⟩
  generalize s1.heap.objs.size = it at fit st2 ⊢
  refine wpAny_newObj_type (newEnv_comp ?_) (by show 0 ≤ sizeLine; decide)
  generalize hD : s2.heap.objs.size = D
  have hDn : H1 D = none := I2.hok.fresh (Nat.le_of_eq hD)
  have nDit : it ≠ D := by rw [← hD]; exact Nat.ne_of_lt (Heap.lt_size st2.choose_spec.1)
  obtain ⟨W, w0, turn⟩ := q D hDn
  have I3 : Inv X pins σ (upd H1 D (.lst [])) { s2 with heap := s2.heap.push { cls := .type "list", data := .seq ([] : List Value).toArray } } := by
    refine I2.laid (t' := s2.toks) (fun b o e => Heap.get?_push_of_some _ e) (Nat.le_of_eq hD) ⟨Nat.zero_le _, [], 0, .nil, ?_⟩
    rw [← hD]
    exact Heap.get?_push_size _ rfl
  have st3 : (s2.heap.push { cls := .type "list", data := .seq ([] : List Value).toArray }).IsListIter it a 0 := st2.at fun o e => Heap.get?_push_of_some _ e
  generalize hs3 : ({ s2 with heap := s2.heap.push { cls := .type "list", data := .seq ([] : List Value).toArray } } : Shared) = s3 at I3
  have st3 : s3.heap.IsListIter it a 0 := by rw [← hs3]; exact st3
  have fit3 : FpOk X pins (upd H1 D (.lst [])) it := ⟨by rw [upd_ne nDit]; exact fit.1, fit.2⟩
  have I4 := block_start (fp := [it]) I3 ok hN fun b hb => by
    have e : b = it := by simpa using hb
    subst e
    exact ⟨fit3, Heap.lt_size st3.choose_spec.1⟩
  have pg := hg s3 (upd H1 D (.lst [])) s3.heap.objs.size (cellsFrom (s3.heap.objs.size + 1) scope.names (cloFrom X.env.cells scope.names [])) [it]
  have pe := he s3 (upd H1 D (.lst [])) s3.heap.objs.size (cellsFrom (s3.heap.objs.size + 1) scope.names (cloFrom X.env.cells scope.names [])) [it]
  show codeAny _ _ (.compStart (.ListComp elt [⟨tg, iter, [], 0⟩] scope pos) 0 (.ref it) (.ref D) (compEnvC scope (cellsFrom (s3.heap.objs.size + 1) scope.names (cloFrom X.env.cells scope.names [])) s3.heap.objs.size X.env)) (compPost (model X.prog X.w) X.A X.xe none (EP X pins σ Q) (.ref D) s3.heap.objs.size) { s3 with heap := pushCells (s3.heap.push { cls := .type "dict", data := .dict #[] }) scope.names }
  have cL : (compEnvC scope (cellsFrom (s3.heap.objs.size + 1) scope.names (cloFrom X.env.cells scope.names [])) s3.heap.objs.size X.env).locals = s3.heap.objs.size := rfl
  generalize compEnvC scope (cellsFrom (s3.heap.objs.size + 1) scope.names (cloFrom X.env.cells scope.names [])) s3.heap.objs.size X.env = ce at I4 pg pe cL ⊢
  have st4 : (pushCells (s3.heap.push { cls := .type "dict", data := .dict #[] }) scope.names).IsListIter it a 0 := st3.at fun o e => pushCells_keeps _ _ _ _ (Heap.get?_push_of_some _ e)
  generalize upd H1 D (.lst []) = H3 at I3 I4 pg pe w0 fit3
  generalize hs4 : ({ s3 with heap := pushCells (s3.heap.push { cls := .type "dict", data := .dict #[] }) scope.names } : Shared) = s4 at I4 ⊢
  have st4 : s4.heap.IsListIter it a 0 := by rw [← hs4]; exact st4
  have ob : ∀ {i : Nat} {h : Heap}, h.IsListIter it a i → ∀ b ∈ [it], ∃ o, h.get? b = some o ∧ ∀ v, o.data ≠ .cell v := fun {i h} st b hb => by
    have e : b = it := by simpa using hb
    subst e
    obtain ⟨o, e, c, d⟩ := st
    exact ⟨o, e, fun v z => by rw [d] at z; cases z⟩
  have stat : ∀ {σ' : L2.St} {H' : Hp} {s' : Shared}, Inv (X.blk s3 H3 scope ce [it]) [] σ' H' s' → H' it = none → FpOk (X.blk s3 H3 scope ce [it]) [] H' it := fun {σ' H' s'} I' hn =>
    have hb : it ∈ (X.blk s3 H3 scope ce [it]).ex := List.mem_singleton.mpr rfl
    ⟨hn, (I'.ok.exf it hb).1, I'.ok.exfs it hb, .inl hb, fun x c e => (I'.ok.exf it hb).2 x c e, fun p hp => absurd (show p ∈ ([] : List (Addr × Obj)) ++ [] from hp) (by simp)⟩
  have loop : codeAny (model X.prog X.w) X.A (.compLoop (.ListComp elt [⟨tg, iter, [], 0⟩] scope pos) 0 (.ref it) (.ref D) ce) (compPost (model X.prog X.w) X.A X.xe none (EP X pins σ Q) (.ref D) s3.heap.objs.size) s4 := by
    refine compLoop_any (fun n s' => ∃ i H', n = xs.length - i ∧ Inv (X.blk s3 H3 scope ce [it]) [] (wipe σ (own.map (·.2))) H' s' ∧ s'.heap.IsListIter it a i ∧ H' it = none ∧ W i H') ?_ xs.length ⟨0, H3, rfl, I4, st4, fit3.1, w0⟩
    rintro n s5 ⟨i, H5, hn, I5, st5, n5, w5⟩
    obtain ⟨ha5, hend, hstep⟩ := turn i H5 w5
    obtain ⟨its, rv, pl, hz⟩ := I5.list (SqL.of ha5)
    obtain ⟨f0, f1, f2, f3, f4, f5⟩ := stat I5 n5
    cases ex : xs[i]? with
    | none =>
      have hge : xs.length ≤ i := List.getElem?_eq_none_iff.mp ex
      -- back in the def's context
      have I7 : Inv X pins σ H5 s5 := I3.call' (ch := [it]) I5.os I5.base I5.hok I5.bare fun b hb => by
        have e : b = it := by simpa using hb
        subst e
        exact ⟨fit3.2.2.2.1, fit3.2.1, fit3.2.2.2.2.1, fit3.2.2.2.2.2⟩
      have hp7 := I7.pin p (List.mem_append_left _ hp)
      have hl := rv.length
      refine list_end_hot ⟨hh, p.2, v1, hp7.1, e1, c1⟩ (fit3.2.2.2.2.2 p (List.mem_append_left _ hp)) st5 pl.isList (by simp; omega) fun h' k => ?_
      have I6 : Inv (X.blk s3 H3 scope ce [it]) [] (wipe σ (own.map (·.2))) H5 { s5 with heap := h' } := I5.turned (t' := s5.toks) k f0 f1 f3 f4 f5
      have I8 : Inv X pins σ H5 { s5 with heap := h' } := I7.turned (t' := s5.toks) k n5 fit3.2.1 fit3.2.2.2.1 fit3.2.2.2.2.1 fit3.2.2.2.2.2
      obtain ⟨m, hm, _⟩ := I6.loc
      have hm : h'.Ns ce.locals m := hm
      have nC : H5 ce.locals = none := I6.free
      rw [cL] at hm nC
      refine ⟨m, hm, fun h'' sb => ?_⟩
      obtain ⟨g0, g1, g2, g3, g4, g5⟩ := I3.fpOk (Nat.le_refl _) nC
      exact ⟨.ref D, H5, I8.turned (t' := s5.toks) (fun b o hb e => (sb.2 b hb).trans e) g0 g1 g3 g4 g5, rfl, hend hge⟩
    | some x =>
      obtain ⟨u, hu, ru⟩ := rv.get ex
      have hlt : i < xs.length := (List.getElem?_eq_some_iff.mp ex).1
      refine wpAny_pyNext_list_item st5 pl.isList (x := u) (by simpa using hu) fun h' st' sb => ?_
      have I6 : Inv (X.blk s3 H3 scope ce [it]) [] (wipe σ (own.map (·.2))) H5 { s5 with heap := h' } := I5.turned (t' := s5.toks) (fun b o hb e => (sb.2 b hb).trans e) f0 f1 f3 f4 f5
      obtain ⟨o, e, c, d⟩ := id st'
      refine go_of (s := { s5 with heap := h' }) e c d (by decide) ?_
      have I6' := I6.pinned (fp := [it]) (fun b hb => by
        have e : b = it := by simpa using hb
        subst e
        exact stat I6 n5) (ob st')
      refine thnF (pg.run _ _ _ H5 x u _ I6' ru (hstep x ex)) fun _ s8 ⟨σ8, H8, I8, hw8, q8⟩ => ?_
      refine wpAny_pure ?_
      rw [if_pos rfl]
      refine thnF (pe.run _ s8 σ8 H8 _ I8 q8) fun z s10 ⟨yv, H10, I10, r10, acc, hD10, hz10, nx⟩ => ?_
      refine app_ok (X := X.blk s3 H3 scope ce [it]) I10 hD10 hz10 r10 fun s11 I11 => ⟨xs.length - (i + 1), by omega, i + 1, _, rfl, ?_, ?_, ?_, nx⟩
      · have hl : (wipe σ (own.map (·.2))).length = σ8.length := by rw [← hw8, wipe_length]
        refine (I11.unpinned (pins := [])).weak hl fun j v e => ?_
        rw [← hw8] at e
        exact (wipe_some e).1
      · have z := I11.pin (it, o) (List.mem_append_right _ (List.mem_append_right _ (mem_pinsAt (List.mem_singleton.mpr rfl) e)))
        exact ⟨o, z.1, c, d⟩
      · have z := I11.pin (it, o) (List.mem_append_right _ (List.mem_append_right _ (mem_pinsAt (List.mem_singleton.mpr rfl) e)))
        exact z.2.1
  exact codeAny_compStart_list loop (wpAny_pyIter_listiter st4 loop)
end
end Dl

namespace Dl
open PySem PySem.Spec PyProof.Rows L2 HotX L2H
section
variable {X : Cx} {E : XK} {e elt tg iter : Expr} {te : TE} {w we : WE} {pos : Pos} {ti : TE} {wi : WE} {g : TG} {wg : WG} {scope : Scope} {own : List (Str × Nat)}
def wLcH (wi : WE) (g : WG) (we : WE) (vs : List Nat) : Env → (List D → Prop) → Prop := fun ρ Φ => wi ρ fun d => match d with
  | .lst xs => xs.length ≤ 100000 ∧ ∃ I : Nat → List D → Prop, I 0 [] ∧
    (∀ i x acc, xs[i]? = some x → I i acc → g x (wipeS ρ.sl vs) fun l2 => we ⟨⟨fun _ => False, ρ.c.lk⟩, l2⟩ fun d => I (i + 1) (acc ++ [d])) ∧ ∀ acc, I xs.length acc → Φ acc
  | _ => False
theorem abs_lcH {vs : List Nat} (hi : AbsE E ti wi) (hg : AbsG vs g wg) (he : AbsE E0 te we) : AbsF E (tLcH ti g te vs) (wLcH wi wg we vs) := fun δ M σ H ρ R Φ Q h k => by
  obtain ⟨c, l⟩ := ρ
  refine hi δ M σ H ⟨c, l⟩ R _ _ h fun v H1 d e1 r1 h1 => ?_
  cases r1 <;> first | exact False.elim h1 | skip
  rename_i a vxs xs na sa rxs
  obtain ⟨hz, I, I0, Is, Ie⟩ := h1
  refine ⟨a, vxs, rfl, sa, fun D hD => ?_⟩
  have hDH : H D = none := e1.free R.okd hD
  have ndl : δ ≠ some D := fun z => by
    obtain ⟨ns, q, _⟩ := R.okd D z
    rw [hDH] at q; cases q
  have nDa : a ≠ D := fun z => by rw [z, hD] at sa; cases sa
  have naB : ¬ Bn δ (D :: M) a := fun z => z.elim (fun z => na (.inl z)) fun z => (List.mem_cons.mp z).elim nDa fun z => na (.inr z)
  have rxs' : RepL (Bn δ (D :: M)) H1 vxs xs := rxs.less (bn_cons hD)
  have hlen := rxs.length
  refine ⟨fun i H' => i ≤ xs.length ∧ ∃ acc us, H' D = some (.lst us) ∧ RepL (Bn δ (D :: M)) H' us acc ∧ I i acc ∧ Ext δ H1 H' ∧ Kept (Bn δ (D :: M)) H1 H' ∧ acc.length ≤ i, ⟨Nat.zero_le _, [], [], upd_same, .nil, I0, Ext.new hD, Kept.new hD, Nat.le_refl _⟩, ?_⟩
  rintro i H' ⟨hle, acc, us, hu, rl, hI, ex, kp, hal⟩
  refine ⟨kp _ _ sa naB, fun hge => ?_, fun v hv => ?_⟩
  · have e : i = xs.length := by omega
    subst e
    exact k D us H' acc hDH (e1.trans ex) hu rl (Ie acc hI)
  · have hlt : i < xs.length := by rw [← hlen]; exact (List.getElem?_eq_some_iff.mp hv).1
    have RB : RE δ (D :: M) H' E0 (wipe σ vs) ⟨⟨fun _ => False, c.lk⟩, wipeS l vs⟩ := R.block hDH (e1.trans ex) hu
    obtain ⟨x, hx, r2⟩ := (rxs'.keep kp).atV hv
    refine hg E0 δ (D :: M) (wipe σ vs) H' _ _ v _ RB r2 _ _ (Is i _ acc hx hI) fun σ3 l3 R3 o3 n3 h3 => ?_
    refine ⟨(wipe_off o3).trans (wipe_off (off_wipe (vs := vs) (a := σ))), ?_⟩
    refine he δ (D :: M) σ3 H' _ R3 _ _ h3 fun y H4 d e4 r4 h4 => ?_
    have hu4 := e4.1 _ _ hu ndl
    have kput : Kept (Bn δ (D :: M)) H4 (upd H4 D (.lst (us ++ [y]))) := Kept.put (.inr List.mem_cons_self)
    refine ⟨us, hu4, by rw [rl.length]; exact sz_lt (by omega), hlt, acc ++ [d], us ++ [y], upd_same, ((rl.keep e4.kept).app (.cons r4 .nil)).keep kput, h4, (ex.trans e4).mut hD, (kp.trans e4.kept).trans kput, ?_⟩
    rw [List.length_append]
    exact Nat.succ_le_succ hal
theorem df_lcH (hc : HotC X) (hN : X.N.Nodup) (hi : DE X E iter ti wi) (ok : BlkOk X.N X.env.scope scope own)
    (hg : ∀ (s : Shared) (H : Hp) (C : Addr) (cl : List (Str × Addr)) (fp : List Addr), DG (X.blk s H scope (compEnvC scope cl C X.env) fp) (own.map (·.2)) tg g wg)
    (he : ∀ (s : Shared) (H : Hp) (C : Addr) (cl : List (Str × Addr)) (fp : List Addr), DE (X.blk s H scope (compEnvC scope cl C X.env) fp) E0 elt te we) (hs : ∀ x, foldedSetIterable iter X.env x = pure x := by intro _; rfl) :
    DF X E (.ListComp elt [⟨tg, iter, [], 0⟩] scope pos) (tLcH ti g te (own.map (·.2))) (wLcH wi wg we (own.map (·.2))) :=
  ⟨pe_lcH hc hN hi.p ok (fun s H C cl fp => (hg s H C cl fp).p) (fun s H C cl fp => (he s H C cl fp).p) hs,
    abs_lcH hi.a (hg X.s_0 X.H_0 X.env.locals [] []).a (he X.s_0 X.H_0 X.env.locals [] []).a⟩
end
/-! ### a def called in an except suite, which is told of the handled exception's object -/
structure FnE (P : Program) (w : World) (K : PySem.W.Frag) (mg : Str → Option Value) (base : Heap) (CX : CXT) (k : Nat) (f : Addr) (fd : FuncData) (ps : List Str) (Zp : Addr × Obj → Prop) (sp : Addr → L2.Sp) : Prop where
  len : ∀ a vs H Q E, sp a vs H Q E → vs.length = ps.length
  run : ∀ (A : Around) (outer : List PySem.Env) (s : Shared) (H : Hp) (args : Args) (us : List Value) (vs : List V) (Q : VK) (E : XK) (p : Addr × Obj), RoomH k A → Hot1 A p → Zp p → PinOk outer H s p → Env0 P w K mg base A outer s H → BindsTo s fd args (ps.zip us) → Vals vs us → sp p.1 vs H Q E →
    codeAny (model P w) A (.call (.ref f) args) (CR CX outer P w H s Q E) s
theorem fn_E {CX : CXT} {P : Program} {w : World} {K : PySem.W.Frag} {mg : Str → Option Value} {base : Heap} {k : Nat} {f : Addr} {name qual : Str} {params : Arguments} {body : List Stmt} {scope : Scope} {dV kV doc pm cdv ct oc : Value} {an od : Option Addr}
    {osl : Array (Option Value)} {N ps : List Str} {Zp : Addr × Obj → Prop} {sp : Addr → L2.Sp} (lk : K.lookup f = some ⟨oc, od, .func (PySem.W.fnOf name qual params body scope dV kV doc pm an cdv ct), osl⟩) (hcd : PySem.W.codeIn K cdv qual = true) (S : FnScope N ps scope)
    (len : ∀ a vs H Q E, sp a vs H Q E → vs.length = ps.length)
    (hbody : ∀ (A : Around) (outer : List PySem.Env) (s : Shared) (H : Hp) (vs : List V) (Q : VK) (E : XK) (p : Addr × Obj), Hot1 A p → Zp p → RoomH k (A.deeper (envOfC qual scope s.heap.objs.size f cdv)) → sp p.1 vs H Q E →
      ∃ t, PSs (cxH CX P w K mg base N qual scope f cdv A outer s H E p) body t ∧ t { nx := fun _ H' => Q .non H', rt := Q } (L2.start N vs) H) :
    FnE P w K mg base CX (k + 1) f (PySem.W.fnOf name qual params body scope dV kV doc pm an cdv ct) ps Zp sp := by
  refine ⟨len, fun A outer s H args us vs Q E p hr hot hz hpin e0 hb r hsp => ?_⟩
  have bk : ∀ b o, base.get? b = some o → s.heap.get? b = some o := fun b o e => (e0.bs b o e).1
  have KX : K.In s.heap := e0.mod.kin.keeps bk
  have loc : ∀ y ∈ ps.zip us, scope.names.lookup y.1 = some .local ∨ (scope.names.lookup y.1 = some .cell ∧ ((cellsFrom (s.heap.objs.size + 1) scope.names []).lookup y.1).isSome = true) := by
    rintro ⟨n, v⟩ hy
    exact (S.par n (List.of_mem_zip hy).1).imp id fun q => ⟨q, PySem.W.cellsFrom_some _ _ _ (.inl q)⟩
  refine codeAny_call_function hr.depth (KX _ _ lk) rfl S.co S.gen rfl (PySem.W.codeRec_of KX hcd) (hb _ _ _ _ (wpAny_newFunctionEnv_cells S.kind loc fun env he s1 x => ?_))
  subst he
  obtain ⟨t, ht, hq⟩ := hbody A outer s H vs Q E p hot hz (hr.deeper _) hsp
  have I := inv_startH (CX := CX) (E := E) S hpin e0 (len _ _ _ _ _ hsp) r x
  refine ⟨(e0.mod.nolimit.keeps bk).keeps x.toInCall.keep, codeAny_func (wpAny_mono (ht.run [] s1 (L2.start N vs) H _ I hq) (fun fl s' hs => ?_) fun e s' hs => hs)⟩
  cases fl with
  | ret u =>
    obtain ⟨v, σ', H', J, rv, q⟩ := hs
    exact ⟨v, H', J.os, J.bare, J.base, J.hok, rv, q⟩
  | next =>
    obtain ⟨σ', H', J, q⟩ := hs
    exact ⟨V.non, H', J.os, J.bare, J.base, J.hok, rfl, q⟩
  | brk => obtain ⟨_, _, _, q⟩ := hs; exact q.elim
  | cont => obtain ⟨_, _, _, q⟩ := hs; exact q.elim
section
variable {X : Cx} {CX : CXT} {k : Nat} {f : Addr} {fd : FuncData} {ps : List Str} {Zp : Addr × Obj → Prop} {sp : Addr → L2.Sp} {E : L2.St → XK} {x : Str} {q pos : Pos} {e : Expr} {es : List Expr} {t : TA}
theorem pe_callE {p : Addr × Obj} (F : FnE X.prog X.w X.K X.mg X.base CX k f fd ps Zp sp) (hr : RoomH k X.A) (hot : Hot1 X.A p) (hz : Zp p) (hp : p ∈ X.pn) (hg : Gl X x) (hm : X.mg x = some (.ref f)) (hk : PySem.W.keepIn X.K (.ref f) = true) (hb : Binds X.K fd ps []) (hx : ∀ σ, PassesAt CX X σ (E σ))
    (ha : PA X (e :: es) t) (hdb : (x == ("__debug__" : Str)) = false := by decide) (he : starEach (e :: es) X.env = (false, eval e X.env) :: starEach es X.env := by rfl) (hpl : (backTo pos (starEach es X.env)).any (·.1) = false := by rfl) :
    PE X (.Call (.Name x q) (e :: es) [] pos) (tCallS (sp p.1) E t) := by
  refine ⟨fun pins s σ H Q I h => wpAny_Call_Name_kw (ld_glob I hg hm (PySem.W.callWith_K (h₀ := X.base) I.ok.mod.kin hk (thn (ha.run pos pins s σ H _ I h) fun us s1 ⟨vs, H1, I1, r, q⟩ => ⟨I1.kIn, ?_⟩) he hpl) hdb)⟩
  have b := hb s1 us I1.kIn (by rw [List.append_nil, ← r.length]; exact F.len _ _ _ _ _ q)
  rw [List.append_nil] at b
  have P1 := I1.pin p (List.mem_append_left _ hp)
  refine wpAny_call (codeAny_mono (F.run X.A X.stack s1 H1 ⟨us, []⟩ us vs Q (E σ) p hr hot hz ⟨P1.1, P1.2.1, fun hm => (List.mem_cons.mp (I1.stkSub p.1 hm)).elim P1.2.2.1 P1.2.2.2.1, P1.2.2.2.2⟩ I1.env0 b r q) fun r s' hq => ?_)
  cases r with
  | error e => exact hx σ pins H1 s1 e s' I1 hq
  | ok fl => cases fl with
    | ret u => exact I1.after hq
    | next => exact False.elim hq
    | brk => exact False.elim hq
    | cont => exact False.elim hq
end
/-! ### isinstance of the handled exception -/
theorem call_isP {X : Cx} {p : Addr × Obj} {D : Addr} (hp : p ∈ X.pn) (C : ExcC X.K D) (hz : Zc (.ref D) none p.2) (hf : ∃ vs, p.2.data = .fields vs) : CallR X (.builtin "isinstance") (rIsE X.K D p.1) := by
  intro pins s σ H xs us Q I r h
  obtain ⟨c, cv, b, rfl, hcv, e, q⟩ := h
  obtain ⟨u1, u2, rfl, rx, rt⟩ := vals2 r
  have ex : u1 = .ref p.1 := rx
  subst ex
  have ec := hcv _ rt
  subst ec
  have hget := (I.pin p (List.mem_append_left _ hp)).1
  obtain ⟨vs, hv⟩ := hf
  have J : PySem.W.InstAt s.heap p.1 p.2 D none := by
    obtain ⟨a, oc, od, oda, osl⟩ := p
    obtain ⟨h1, h2⟩ := hz
    dsimp only at h1 h2 hv hget
    subst h1 h2 hv
    exact ⟨hget, rfl, rfl, trivial⟩
  exact PySem.W.kia_one (PySem.W.handS_kitx_exc C.hg C.hk C.hs C.hd C.ha C.hn C.ht C.hm) I.kIn J e (fun z => nomatch z) fun tk => ⟨.bl b, H, I.kept (t' := tk) fun _ _ z => z, rfl, q⟩
end Dl

namespace Dl
open PySem PySem.Spec PyProof.Rows L2 HotX L2H
section
variable {X : Cx} {E : XK} {e : Expr} {te : TE} {w : WE} {pos q q2 : Pos} {x : Str}
def wIsE (a : Addr) (b : Bool) (w : WE) : WE := fun ρ Φ => w ρ fun d => d = .raw (.ref a) ∧ Φ (.bl b)
theorem de_isE {p : Addr × Obj} {D : Addr} {c : V} {cv : Value} {b : Bool} (hp : p ∈ X.pn) (C : ExcC X.K D) (hz : Zc (.ref D) none p.2) (hf : ∃ vs, p.2.data = .fields vs) (hg : Gl X "isinstance") (hm : X.mg "isinstance" = none)
    (he : DE X E e te w) (hx : PE X (.Name x q2) (tC c)) (hc : ∀ u, RelV c u → u = cv) (hk : PySem.W.kitOne X.K (.ref D) cv = some b)
    (na : starEach [e, .Name x q2] X.env = (false, eval e X.env) :: starEach [.Name x q2] X.env := by rfl) (na2 : starEach [.Name x q2] X.env = (false, eval (.Name x q2) X.env) :: starEach [] X.env := by rfl)
    (hpl : (backTo pos (starEach [.Name x q2] X.env)).any (·.1) = false := by rfl) :
    DE X E (.Call (.Name "isinstance" q) [e, .Name x q2] [] pos) (tCB (rIsE X.K D p.1) (tCons te (tCons (tC c) tNil))) (wIsE p.1 b w) := by
  refine ⟨pe_callB (call_isP hp C hz hf) hg hm (by decide +kernel) (pa_cons he.p (pa_cons hx pa_nil na2) na) (he := na) (hpl := hpl), fun δ M σ H ρ R Φ Q h k => ?_⟩
  refine he.a δ M σ H ρ R _ _ h fun v H1 d e1 r1 h1 => ?_
  obtain ⟨ed, h1⟩ := h1
  subst ed
  cases r1
  exact ⟨c, cv, b, rfl, hc, hk, k _ H1 _ e1 (.bl b) h1⟩
end
section
variable {P : Program} {w : World} {K : PySem.W.Frag} {mg : Str → Option Value} {base : Heap} {x qual : Str} {st : Stmt} {f : Addr} {fd : FuncData} {N ps : List Str} {k n : Nat} {Zp : Addr × Obj → Prop}
/-- a def over data, called in an except suite -/
theorem fn_DE {Pd : Addr → List S → (D → Prop) → Prop} (F : Fun K x qual st f fd) (Sc : FnScope N ps (defScope st)) (hn : ps.length = n)
    (hbody : ∀ (cdv : Value) (A : Around) (outer : List PySem.Env) (s : Shared) (H : Hp) (Eo : XK) (p : Addr × Obj), Hot1 A p → Zp p → RoomH k (A.deeper (envOfC qual (defScope st) s.heap.objs.size f cdv)) →
      ∃ t w', DSs ((cxH CX0 P w K mg base N qual (defScope st) f cdv A outer s H Eo p).nox) E0 (defBody st) t w' ∧ ∀ ss Φ, ss.length = n → Pd p.1 ss Φ → w' ⟨fun _ => False, fun _ => False⟩ { nx := fun _ => Φ .non, rt := Φ } (startS N.length ss)) :
    FnE P w K mg base CX0 (k + 1) f fd ps Zp fun a => spD n (Pd a) := by
  obtain ⟨oc, od, kV, doc, pm, an, cdv, ct, osl, rfl, lk, hcd⟩ := F.ex
  refine fn_E lk hcd Sc (fun a vs H Q E h => ?_) fun A outer s H vs Q E p hot hz hr h => ?_
  · obtain ⟨δ, M, ss, Φ, h1, _⟩ := h
    rw [h1, hn]
  · obtain ⟨δ, M, ss, Φ, h1, h2, h3, h4, h5, h6, h7⟩ := h
    obtain ⟨t, w', hs, hw⟩ := hbody cdv A outer s H E p hot hz hr
    exact ⟨t, hs.p.nox, hs.a δ M H ⟨fun _ => False, fun _ => False⟩ { nx := fun _ => Φ .non, rt := Φ } _ ⟨fun σ H' l R h => h7 .non H' .non R.kd.toExt .non h, fun v H' d kd r h => h7 v H' d kd.toExt r h, fun _ _ _ _ h => h.elim, fun _ _ _ _ h => h.elim⟩ _ H _ (rs_start h2 h3 h4 h5 fun _ _ _ _ _ _ z => z.elim) (hw ss Φ (by rw [← h2.length, h1]) h6)⟩
end
/-! ### what the exceptions' classes are -/
/-- ExcC, as a Bool of the written part -/
def excCB (K : PySem.W.Frag) (D : Addr) : Bool :=
  He.eqO (PySem.W.findIn K (.ref D) "__getattribute__") (some (some (.builtin "BaseException.__getattribute__"))) && He.eqO (PySem.W.findIn K (.ref D) "__getattr__") (some none) && decide (PySem.W.subIn K (.ref D) (.type "BaseException") = some true) && PySem.W.hasDictIn K D &&
  He.eqO (PySem.W.findIn K (.ref D) "__class__") (some (some (.builtin "object.__class__"))) && He.eqO (PySem.W.specialIn K (.builtin "object.__class__") "__get__") (some (some (.builtin "getset_descriptor.__get__"))) && decide (PySem.W.takesIn K (.builtin "object.__class__") = some true) && decide (PySem.W.mroIn K D (.type "object") = some true)
theorem excCB_ok {K : PySem.W.Frag} {D : Addr} (h : excCB K D = true) : ExcC K D := by
  unfold excCB at h
  simp only [Bool.and_eq_true] at h
  obtain ⟨⟨⟨⟨⟨⟨⟨h1, h2⟩, h3⟩, h4⟩, h5⟩, h6⟩, h7⟩, h8⟩ := h
  exact ⟨He.eqO_ok h1, He.eqO_ok h2, of_decide_eq_true h3, h4, He.eqO_ok h5, He.eqO_ok h6, of_decide_eq_true h7, of_decide_eq_true h8⟩
end Dl

/-! Defs that raise, the exception's context None. -/
namespace Dl
open PySem PySem.Spec PyProof.Rows L2
section
variable {Pr : Program} {w : World} {K : PySem.W.Frag} {mg : Str → Option Value} {base : Heap} {x qual : Str} {st : Stmt} {f : Addr} {fd : FuncData} {N ps : List Str} {k n : Nat}
theorem fn_N {P : List S → (D → Prop) → (XD → Prop) → Prop} (F : Fun K x qual st f fd) (Sc : FnScope N ps (defScope st)) (hn : ps.length = n)
    (hbody : ∀ (cdv : Value) (A : Around) (outer : List PySem.Env) (s : Shared) (H : Hp) (E : XK), Room k (A.deeper (PyProof.Rows.envOfC qual (defScope st) s.heap.objs.size f cdv)) →
      ∃ t w', DSs (cxOf (L2N.CX Pr w) Pr w K mg base N qual (defScope st) f cdv A outer s H E) E (defBody st) t w' ∧ ∀ ss Φ Ψ, ss.length = n → P ss Φ Ψ → w' ⟨Ψ, fun _ => False⟩ { nx := fun _ => Φ .non, rt := Φ } (startS N.length ss)) : FnOk Pr w K mg base (L2N.CX Pr w) (k + 1) f fd ps (spX n P) := by
  obtain ⟨oc, od, kV, doc, pm, an, cdv, ct, osl, rfl, lk, hcd⟩ := F.ex
  refine fn_of lk hcd Sc (fun vs H Q E h => ?_) (fun A outer s H vs Q E hr h => ?_)
  · obtain ⟨δ, M, ss, Φ, Ψ, h1, _⟩ := h
    rw [h1, hn]
  · obtain ⟨δ, M, ss, Φ, Ψ, h1, h2, h3, h4, h5, h6, h7, h8⟩ := h
    obtain ⟨t, w', hs, hw⟩ := hbody cdv A outer s H E hr
    refine ⟨t, hs.p, hs.a δ M H ⟨Ψ, fun _ => False⟩ { nx := fun _ => Φ .non, rt := Φ } _ ⟨fun σ H' l R h => h7 .non H' .non R.kd.toExt .non h, fun v H' d kd r h => h7 v H' d kd.toExt r h, fun _ _ _ _ h => h.elim, fun _ _ _ _ h => h.elim⟩ _ H _ (rs_start h2 h3 h4 h5 h8) (hw ss Φ Ψ (by rw [← h2.length, h1]) h6)⟩
end
section
variable {X : Cx} {E : XK} {e : Expr} {te : TE} {w : WE} {pos pos' p p2 : Pos} {x m : Str} {C : Addr} {bmB : List Value} {B newId initId : String}
/-- X(e), the new exception's context None -/
theorem pmk_arg {ta : TE} (F : ExcBaseFacts B newId initId bmB) (q : PySem.W.excIn X.K C bmB newId = true) (gC : X.mg x = some (.ref C)) (kC : PySem.W.keepIn X.K (.ref C) = true) (r : Raises X (.ref C)) (hg : Gl X x)
    (he : PE X e ta) (hs : starEach [e] X.env = (false, eval e X.env) :: starEach [] X.env := by rfl) (hdb : (x == ("__debug__" : Str)) = false := by decide) :
    L2N.PMk X (.Call (.Name x p) [e] [] pos) (fun σ H Q => ta σ H fun _ H1 => Q (.ref C) none H1) := by
  intro pins s σ H Q I h
  refine wpAny_Call_Name_kw (ld_glob I hg gC (PySem.W.callWith_K (h₀ := X.base) I.ok.mod.kin kC ?_ hs (by rfl)) hdb)
  rw [hs]
  refine Calls.spliced_cons (thn (he.run pins s σ H _ I h) fun u s1 ⟨v, H1, I1, r1, q1⟩ => Calls.spliced_nil ⟨I1.kIn, ?_⟩)
  obtain ⟨bm, N, nm, qn, bs, hdct, sn, sub, ab, col, dd, k0, k1, k2, k3, k5, mN, hC, hN, hni, T⟩ := exc_obj I1.kIn q
  exact wpAny_call_exc_subT F T hC hN hni (fun h' e hm => L2N.mk_of I1 hm r q1 (I1.hok.gone hm.new)) (by show 1 ≤ sizeLine; rw [sizeLine_eq]; omega)
def wRaise (C : Addr) : WS := fun c _ _ => c.ex ⟨.ref C, none⟩
def wRaise1 (C : Addr) (w : WE) : WS := fun c _ l => w ⟨c, l⟩ fun _ => c.ex ⟨.ref C, none⟩
theorem ds_raise (hc : X.calm = true) (tk : L2N.Takes X (fun cls d _ H => E cls d H)) (h : L2N.PMk X e (fun _ H Q => Q (.ref C) none H)) : DS X E (.Raise (some e) none pos) (fun _ _ H => E (.ref C) none H) (wRaise C) :=
  ⟨L2N.ps_raise hc tk h, fun δ M0 H0 c Φ D ok σ H l R h => let ⟨M, m, n, Re⟩ := R.ex; Re.ex _ none H none (Ext.refl H) rfl h⟩
theorem ds_raise1 (hc : X.calm = true) (tk : L2N.Takes X (fun cls d _ H => E cls d H)) (ha : AbsE E te w) (h : L2N.PMk X e (fun σ H Q => te σ H fun _ H1 => Q (.ref C) none H1)) : DS X E (.Raise (some e) none pos) (fun _ σ H => te σ H fun _ H1 => E (.ref C) none H1) (wRaise1 C w) :=
  ⟨L2N.ps_raise hc tk h, fun δ M0 H0 c Φ D ok σ H l R h => let ⟨M, m, n, Re⟩ := R.ex; ha δ M σ H ⟨c, l⟩ Re _ _ h fun v H1 d e1 r1 h1 => Re.ex _ none H1 none e1 rfl h1⟩
/-! ### f'..' of a constant text and an int -/
def wFmt (w : WE) : WE := fun ρ Φ => w ρ fun d => match d with
  | .int i => i.natAbs.log2 < 1920 ∧ ∀ x, Φ (.str x)
  | _ => False
theorem de_fmt {fp : Pos} (he : DE X E e te w) : DE X E (.FormattedValue e (-1) none fp) (tFmt te) (wFmt w) := by
  refine ⟨pe_fmt he.p, fun δ M σ H ρ R Φ Q h k => ?_⟩
  refine he.a δ M σ H ρ R _ _ h fun v H1 d e1 r1 h1 => ?_
  cases r1 <;> first | exact False.elim h1 | skip
  rename_i i
  obtain ⟨h2, h3⟩ := (h1 : i.natAbs.log2 < 1920 ∧ ∀ x, Φ (.str x))
  exact .inr ⟨i, rfl, h2, k _ H1 _ e1 (.str _) (h3 _)⟩
end
/-- called where it raises nothing -/
theorem _root_.L2.FnOk.calmN {Pr : Program} {w : World} {K : PySem.W.Frag} {mg : Str → Option Value} {base : Heap} {k n : Nat} {f : Addr} {fd : FuncData} {ps : List Str} {P : List S → (D → Prop) → (XD → Prop) → Prop} (F : FnOk Pr w K mg base (L2N.CX Pr w) k f fd ps (spX n P)) :
    FnOk Pr w K mg base CX0 k f fd ps (spD n fun ss Φ => P ss Φ fun _ => False) := by
  have cv : ∀ {vs : List V} {H : Hp} {Q : VK} {E : XK}, spD n (fun ss Φ => P ss Φ fun _ => False) vs H Q E → spX n P vs H Q E0 := fun {vs H Q E} ⟨δ, M, ss, Φ, h1, h2, h3, h4, h5, h6, h7⟩ => ⟨δ, M, ss, Φ, fun _ => False, h1, h2, h3, h4, h5, h6, h7, fun _ _ _ _ _ _ z => z.elim⟩
  refine ⟨fun vs H Q E h => F.len vs H Q E0 (cv h), fun A outer s H args us vs Q E hr he hb hv h => codeAny_mono (F.run A outer s H args us vs Q E0 hr he hb hv (cv h)) fun r s' hq => ?_⟩
  cases r with
  | ok fl => cases fl <;> exact hq
  | error e =>
    have hq' : L2N.CX Pr w outer H s E0 e s' := hq
    unfold L2N.CX at hq'
    obtain ⟨_, _, _, _, _, _, _, _, _, _, _, _, z⟩ := hq'
    exact False.elim z
end Dl

/-! An __init__ over data: calls, then the fields, one behind another. -/
namespace Dl
open PySem PySem.Spec PyProof.Rows L2
theorem putF_new {f : Str} {v : V} : ∀ {fs : List (Str × V)}, f ∉ fs.map (·.1) → putF f v fs = fs ++ [(f, v)]
  | [], _ => rfl
  | (g, y) :: r, h => by
    have h1 : g ≠ f := fun z => h (by rw [z]; exact List.mem_cons_self)
    show (if g = f then _ else _) = _
    rw [if_neg h1, putF_new fun z => h (List.mem_cons_of_mem _ z)]
    rfl
theorem zip_fst {α β : Type} : ∀ {ns : List α} {vs : List β}, ns.length = vs.length → (ns.zip vs).map (·.1) = ns
  | [], [], _ => rfl
  | n :: ns, v :: vs, h => by
    show n :: (ns.zip vs).map (·.1) = n :: ns
    rw [zip_fst (Nat.succ.inj h)]
/-- the new instance, and what has happened since the entry -/
structure IS (δ : Option Addr) (M : List Addr) (E : XK) (x C dx : Addr) (H0 : Hp) (σ : L2.St) (H : Hp) (l : Sl) (c : Ct) (ns : List Str) (ds : List D) : Prop where
  R : RE δ M H E σ ⟨c, l⟩
  xM : x ∈ M
  xd : δ ≠ some x
  s0 : σ[0]? = some (some (.ref x))
  no : ∀ (i : Nat) (p : Addr) (xs : List D), l[i]? ≠ some (some (.own p xs))
  at' : ∃ vs, H x = some (.ins C dx (ns.zip vs)) ∧ ns.length = vs.length ∧ RepL (Bn δ M) H vs ds
  kx : Kept (fun a => δ = some a ∨ a = x) H0 H
  kd : ∀ a, δ = some a → DiceAt H0 a → DiceAt H a
section
variable {δ : Option Addr} {M : List Addr} {E : XK} {x C dx : Addr} {H0 H H' : Hp} {σ : L2.St} {l : Sl} {c : Ct} {ns : List Str} {ds : List D}
theorem IS.ext (e : Ext δ H H') (s : IS δ M E x C dx H0 σ H l c ns ds) : IS δ M E x C dx H0 σ H' l c ns ds :=
  ⟨s.R.ext e, s.xM, s.xd, s.s0, s.no, let ⟨vs, h1, h2, h3⟩ := s.at'; ⟨vs, e.1 _ _ h1 s.xd, h2, h3.keep e.kept⟩, s.kx.trans (e.1.wide fun _ => Or.inl), fun a ha d => e.2 a ha (s.kd a ha d)⟩
theorem IS.calm (s : IS δ M E x C dx H0 σ H l c ns ds) : IS δ M E x C dx H0 σ H l ⟨fun _ => False, c.lk⟩ ns ds :=
  ⟨⟨s.R.len, s.R.rep, s.R.one, s.R.okM, s.R.okd, let ⟨He, Me, a, m, b, _⟩ := s.R.en; ⟨He, Me, a, m, b, fun _ _ _ _ _ _ z => z.elim⟩⟩, s.xM, s.xd, s.s0, s.no, s.at', s.kx, s.kd⟩
theorem IS.poke {f : Str} {v : V} {d : D} (s : IS δ M E x C dx H0 σ H l ⟨fun _ => False, c.lk⟩ ns ds) (r : Rep (Bn δ M) H v d) (hf : f ∉ ns) {vs : List V} (h1 : H x = some (.ins C dx (ns.zip vs))) (h2 : ns.length = vs.length) (h3 : RepL (Bn δ M) H vs ds) :
    IS δ M E x C dx H0 σ (upd H x (.ins C dx (putF f v (ns.zip vs)))) l ⟨fun _ => False, c.lk⟩ (ns ++ [f]) (ds ++ [d]) := by
  have kp : ∀ o : HO, Kept (Bn δ M) H (upd H x o) := fun o => Kept.put (.inr s.xM)
  have ep : putF f v (ns.zip vs) = (ns ++ [f]).zip (vs ++ [v]) := by
    rw [putF_new (by rw [zip_fst h2]; exact hf), List.zip_append h2]
    rfl
  have dk : ∀ (o : HO) (a : Addr), δ = some a → DiceAt H a → DiceAt (upd H x o) a := fun o a ha ⟨ms, q, z⟩ => ⟨ms, by rw [upd_ne (fun y => s.xd (by rw [← y]; exact ha))]; exact q, z⟩
  refine ⟨⟨s.R.len, fun i t q => ?_, s.R.one, fun b hb => ?_, fun a ha => dk _ a ha (s.R.okd a ha), ⟨_, [], Ext.refl _, (fun _ z => nomatch z), (fun i p xs z => absurd z (s.no i p xs)), fun _ _ _ _ _ _ z => False.elim z⟩⟩, s.xM, s.xd, s.s0, s.no, ⟨vs ++ [v], by rw [upd_same, ep], by rw [List.length_append, List.length_append, h2]; rfl, (h3.app (.cons r .nil)).keep (kp _)⟩, s.kx.trans (Kept.put (.inr rfl)), fun a ha q => dk _ a ha (s.kd a ha q)⟩
  · obtain ⟨u, g1, g2⟩ := s.R.rep i t q
    refine ⟨u, g1, ?_⟩
    cases g2 with
    | d r => exact .d (r.keep (kp _))
    | own => exact absurd q (s.no _ _ _)
    | dice ha hd => exact .dice ha (dk _ _ ha hd)
  · by_cases e : b = x
    · exact ⟨_, by rw [e]; exact upd_same⟩
    · obtain ⟨o, q⟩ := s.R.okM b hb
      exact ⟨o, by rw [upd_ne e]; exact q⟩
end
abbrev WIn := Ct → List Str → List D → Sl → (List Str → List D → Prop) → Prop
def AbsIn (C : Addr) (E : XK) (t : TS) (w : WIn) : Prop := ∀ (δ : Option Addr) (M : List Addr) (x dx : Addr) (H0 : Hp) (σ : L2.St) (H : Hp) (l : Sl) (c : Ct) (ns : List Str) (ds : List D) (Φ : List Str → List D → Prop) (D : Ends), IS δ M E x C dx H0 σ H l c ns ds → w c ns ds l Φ →
  (∀ σ' H' c' ns' ds', IS δ M E x C dx H0 σ' H' l c' ns' ds' → Φ ns' ds' → D.nx σ' H') → t D σ H
structure DIn (C : Addr) (X : Cx) (E : XK) (s : List Stmt) (t : TS) (w : WIn) : Prop where
  p : PSs X s t
  a : AbsIn C E t w
section
variable {X : Cx} {E : XK} {C : Addr} {e : Expr} {te : TE} {w : WE} {pos pos' : Pos} {rest : List Stmt} {u : TS} {w2 : WIn} {f x0 : Str} {p0 : Pos}
def wiNil : WIn := fun _ ns ds _ Φ => Φ ns ds
theorem in_nil : DIn C X E [] tNext wiNil := ⟨pss_nil, fun δ M x dx H0 σ H l c ns ds Φ D s h k => k σ H c ns ds s h⟩
def wiExpr (w : WE) (w2 : WIn) : WIn := fun c ns ds l Φ => w ⟨c, l⟩ fun _ => w2 c ns ds l Φ
theorem in_expr (he : DE X E e te w) (hr : DIn C X E rest u w2) (hs : swapsWith e none pos.line X.env = pure false := by rfl) : DIn C X E (.Expr e pos :: rest) (tSeq (tDrop te) u) (wiExpr w w2) :=
  ⟨pss_cons (ps_expr he.p hs) hr.p, fun δ M x dx H0 σ H l c ns ds Φ D s h k => he.a δ M σ H ⟨c, l⟩ s.R _ _ h fun v H1 d e1 r1 h1 => hr.a δ M x dx H0 σ H1 l c ns ds Φ D (s.ext e1) h1 k⟩
def wiFld (f : Str) (w : WE) (w2 : WIn) : WIn := fun c ns ds l Φ => w ⟨⟨fun _ => False, c.lk⟩, l⟩ fun d => (f ∉ ns ∧ ns.length < 1000) ∧ w2 ⟨fun _ => False, c.lk⟩ (ns ++ [f]) (ds ++ [d]) l Φ
theorem in_fld (K : PySem.W.Frag) (cl : Cls K C) (nA : NoAttr K C f) (he : DE X E e te w) (hr : DIn C X E rest u w2) (hN : X.N[0]? = some x0 := by rfl) (hv : Vis X.env.scope x0 := by first | exact Or.inl rfl | exact Or.inr (Or.inl rfl) | exact Or.inr (Or.inr rfl)) (hK : X.K = K := by rfl)
    (hd : (x0 == ("__debug__" : Str)) = false := by decide) (hcd : (x0 == ("__classdict__" : Str)) = false := by decide) (hs : swapsWith e (some (.Attribute (.Name x0 p0) f pos')) pos.line X.env = pure false := by rfl) :
    DIn C X E (.Assign [.Attribute (.Name x0 p0) f pos'] e pos :: rest) (tSeq (sFld K (tVar 0) te f) u) (wiFld f w w2) := by
  subst hK
  refine ⟨pss_cons (ps_fld (pe_var hN hv hd hcd) he.p hs) hr.p, fun δ M x dx H0 σ H l c ns ds Φ D s h k => ?_⟩
  refine he.a δ M σ H ⟨⟨fun _ => False, c.lk⟩, l⟩ s.calm.R _ _ h fun v H1 d e1 r1 h1 => ?_
  have s1 := s.calm.ext e1
  obtain ⟨⟨hf, hn⟩, h2⟩ := h1
  obtain ⟨vs, g1, g2, g3⟩ := s1.at'
  refine ⟨.ref x, s1.s0, x, C, dx, ns.zip vs, rfl, g1, cl, nA, by rw [List.length_zip]; omega, ?_⟩
  exact hr.a δ M x dx H0 σ _ l _ _ _ Φ D (s1.poke r1 hf g1 g2 g3) h2 k
end
/-- the promise of an __init__: ss its arguments behind self -/
def spInit (C : Addr) (n : Nat) (P : List S → (List Str → List D → Prop) → (XD → Prop) → Prop) : L2.Sp := fun vs H Q E => ∃ (δ : Option Addr) (M : List Addr) (x dx : Addr) (rest : List V) (ss : List S) (Φ : List Str → List D → Prop) (Ψ : XD → Prop), vs = .ref x :: rest ∧ rest.length = n ∧ H x = some (.ins C dx []) ∧ x ∈ M ∧ δ ≠ some x ∧
  Paired (RepS δ M H) rest ss ∧ noOwn ss = true ∧ (∀ b, b ∈ M → ∃ o, H b = some o) ∧ (∀ a, δ = some a → DiceAt H a) ∧ P ss Φ Ψ ∧
  (∀ H' vs' ns ds, Kept (fun a => δ = some a ∨ a = x) H H' → (∀ a, δ = some a → DiceAt H a → DiceAt H' a) → H' x = some (.ins C dx (ns.zip vs')) → ns.length = vs'.length → RepL (Bn δ M) H' vs' ds → Φ ns ds → Q .non H') ∧
  ∀ cls d H' fs, Ext δ H H' → RepX δ M H' d ⟨cls, fs⟩ → Ψ ⟨cls, fs⟩ → E cls d H'
/-- the slots at an __init__'s entry: self is not looked at -/
def startI (n : Nat) (ss : List S) : Sl := none :: startS (n - 1) ss
theorem RE.cons0 {δ : Option Addr} {M : List Addr} {H : Hp} {E : XK} {σ : L2.St} {c : Ct} {l : Sl} {a : Option V} (R : RE δ M H E σ ⟨c, l⟩) : RE δ M H E (a :: σ) ⟨c, none :: l⟩ := by
  refine ⟨congrArg (· + 1) R.len, fun i s q => ?_, fun i j p xs ys q1 q2 => ?_, R.okM, R.okd, ?_⟩
  · cases i with
    | zero => cases q
    | succ i => exact R.rep i s q
  · cases i with
    | zero => cases q1
    | succ i => cases j with
      | zero => cases q2
      | succ j => exact congrArg (· + 1) (R.one i j p xs ys q1 q2)
  · obtain ⟨He, Me, a, m, b, q⟩ := R.en
    refine ⟨He, Me, a, m, fun i p xs z => ?_, q⟩
    cases i with
    | zero => cases z
    | succ i => exact b i p xs z
section
variable {Pr : Program} {w : World} {K : PySem.W.Frag} {mg : Str → Option Value} {base : Heap} {x0 qual : Str} {st : Stmt} {f C : Addr} {fd : FuncData} {N ps : List Str} {k n : Nat} {CX : CXT}
theorem fn_init {P : List S → (List Str → List D → Prop) → (XD → Prop) → Prop} (F : Fun K x0 qual st f fd) (Sc : FnScope N ps (defScope st)) (hn : ps.length = n + 1) (hN : n + 1 ≤ N.length)
    (hbody : ∀ (cdv : Value) (A : Around) (outer : List PySem.Env) (s : Shared) (H : Hp) (E : XK), Room k (A.deeper (PyProof.Rows.envOfC qual (defScope st) s.heap.objs.size f cdv)) →
      ∃ t w', DIn C (cxOf CX Pr w K mg base N qual (defScope st) f cdv A outer s H E) E (defBody st) t w' ∧ ∀ ss Φ Ψ, ss.length = n → P ss Φ Ψ → w' ⟨Ψ, fun _ => False⟩ [] [] (startI N.length ss) Φ) : FnOk Pr w K mg base CX (k + 1) f fd ps (spInit C n P) := by
  obtain ⟨oc, od, kV, doc, pm, an, cdv, ct, osl, rfl, lk, hcd⟩ := F.ex
  refine fn_of lk hcd Sc (fun vs H Q E h => ?_) (fun A outer s H vs Q E hr h => ?_)
  · obtain ⟨δ, M, x, dx, rest, ss, Φ, Ψ, rfl, hl, _⟩ := h
    rw [hn, ← hl]
    rfl
  · obtain ⟨δ, M, x, dx, rest, ss, Φ, Ψ, rfl, hl, hx, xM, xd, hp, no, okM, okd, hP, hQ, hE⟩ := h
    obtain ⟨t, w', hs, hw⟩ := hbody cdv A outer s H E hr
    have hss : ss.length = n := by rw [← hp.length, hl]
    cases N with
    | nil => exact absurd hN (by simp)
    | cons n0 N' =>
      have st0 : L2.start (n0 :: N') (.ref x :: rest) = some (.ref x) :: L2.start N' rest := by
        unfold L2.start
        show some (V.ref x) :: (rest.map some ++ List.replicate (N'.length + 1 - (rest.length + 1)) none) = _
        rw [Nat.add_sub_add_right]
      obtain ⟨M1, m1, m2, R⟩ := (rs_start (N := N') (E := E) (ex := Ψ) hp no okM okd hE).ex
      have hno : ∀ (i : Nat) (p : Addr) (xs : List D), (startI (n0 :: N').length ss)[i]? ≠ some (some (.own p xs)) := fun i p xs z => by
        cases i with
        | zero => cases z
        | succ i => exact noOwn_at no (start_at z)
      refine ⟨t, hs.p, hs.a δ M1 x dx H _ H (startI (n0 :: N').length ss) ⟨Ψ, fun _ => False⟩ [] [] Φ _ ⟨by rw [st0]; exact R.cons0, m1 x xM, xd, by rw [st0]; rfl, hno, ⟨[], hx, rfl, .nil⟩, Kept.refl _ H, fun _ _ q => q⟩ (hw ss Φ Ψ hss hP) fun σ' H' c' ns' ds' s' hφ => ?_⟩
      obtain ⟨vs', g1, g2, g3⟩ := s'.at'
      exact hQ H' vs' ns' ds' s'.kx s'.kd g1 g2 (g3.less (bn_less m1)) hφ
end
theorem paired_more {δ : Option Addr} {M : List Addr} {H H' : Hp} {x : Addr} (hx : H x = none) (e : Ext δ H H') : ∀ {vs : List V} {ss : List S}, Paired (RepS δ M H) vs ss → noOwn ss = true → Paired (RepS δ (x :: M) H') vs ss
  | _, _, .nil, _ => .nil
  | _, _, .cons (b := .d _) (.d r) t, no => .cons (.d ((r.less (bn_cons hx)).keep e.kept)) (paired_more hx e t no)
  | _, _, .cons (b := .dice) (.dice h1 h2) t, no => .cons (.dice h1 (e.2 _ h1 h2)) (paired_more hx e t no)
  | _, _, .cons (b := .own _ _) _ _, no => by cases no
section
variable {X : Cx} {E : XK} {CX : CXT} {k n : Nat} {f C : Addr} {fd : FuncData} {ps : List Str} {x : Str} {e : Expr} {es : List Expr} {tl : TA} {ws : WA} {p pos : Pos} {P : List S → (List Str → List D → Prop) → (XD → Prop) → Prop}
def wMake (C : Addr) (P : List S → (List Str → List D → Prop) → (XD → Prop) → Prop) (ws : WA) : WE := fun ρ Φ => ws ρ fun ss => P ss (fun ns ds => Φ (.obj C ns ds)) ρ.c.ex
theorem de_make (Mm : Mk X.K C f) (F : FnOk X.prog X.w X.K X.mg X.base CX k f fd ps (spInit C n P)) (hr : Room (k + 1) X.A) (hg : Gl X x) (hm : X.mg x = some (.ref C)) (hb : Binds X.K fd ps []) (hx : Passes CX X E)
    (ha : DA X E (e :: es) tl ws) (hn : (e :: es).length = n := by rfl) (hdb : (x == ("__debug__" : Str)) = false := by decide) (he : starEach (e :: es) X.env = (false, eval e X.env) :: starEach es X.env := by rfl) (hpl : (backTo pos (starEach es X.env)).any (·.1) = false := by rfl) :
    DE X E (.Call (.Name x p) (e :: es) [] pos) (tMake C (spInit C n P) [] E tl) (wMake C P ws) := by
  refine ⟨pe_make Mm F hr hg hm hb .nil hx ha.p hdb he hpl, fun δ M σ H ρ R Φ Q h kq => ?_⟩
  refine ha.a δ M σ H ρ R _ _ h fun vs H1 ss e1 r1 l1 n1 h1 x dx hxn hdn hne => ?_
  have R1 := R.ext e1
  have hx2 : (upd H1 dx (.own x)) x = none := by rw [upd_ne hne.symm]; exact hxn
  have e12 : Ext δ H1 (upd (upd H1 dx (.own x)) x (.ins C dx [])) := (Ext.new hdn).trans (Ext.new hx2)
  have R2 := R1.ext e12
  have xd : δ ≠ some x := fun z => by
    obtain ⟨ms, q, _⟩ := R1.okd x z
    rw [hxn] at q; cases q
  rw [List.append_nil]
  refine ⟨δ, x :: M, x, dx, vs, ss, fun ns ds => Φ (.obj C ns ds), ρ.c.ex, rfl, (Paired.length r1).trans (l1.trans hn), upd_same, List.mem_cons_self, xd, paired_more hxn e12 r1 n1, n1, fun b hb => ?_, R2.okd, h1, fun H' vs' ns ds kx kd hx' hl rl hφ => ⟨rfl, ?_⟩, fun cls d H' fs e3 rx hex => R1.ex cls d H' fs (e12.trans e3) (rx.less bn_tail) hex⟩
  · rcases List.mem_cons.mp hb with z | z
    · exact ⟨_, by rw [z]; exact upd_same⟩
    · exact R2.okM b z
  · refine kq (.ref x) H' (.obj C ns ds) (e1.trans ⟨fun b o q nb => ?_, fun a ha q => kd a ha (e12.2 a ha q)⟩) (.obj (R1.fresh hxn) hx' hl (rl.less bn_tail)) hφ
    exact kx b o (e12.1 b o q nb) fun z => z.elim nb fun z => by rw [z, hxn] at q; cases q
end
end Dl

/-! Defs that hand back a new list that nobody else holds. -/
namespace Dl
open PySem PySem.Spec PyProof.Rows L2
def spF (n : Nat) (P : List S → (List D → Prop) → Prop) : L2.Sp := fun vs H Q _ => ∃ (δ : Option Addr) (M : List Addr) (ss : List S) (Φ : List D → Prop), vs.length = n ∧ Paired (RepS δ M H) vs ss ∧ noOwn ss = true ∧ (∀ b, b ∈ M → ∃ o, H b = some o) ∧ (∀ a, δ = some a → DiceAt H a) ∧
  P ss Φ ∧ ∀ p us H' ds, H p = none → Ext δ H H' → H' p = some (.lst us) → RepL (Bn δ (p :: M)) H' us ds → Φ ds → Q (.ref p) H'
abbrev WF := Ct → (List D → Prop) → Sl → Prop
def AbsSF (E : XK) (t : TS) (w : WF) : Prop := ∀ (δ : Option Addr) (M0 : List Addr) (H0 : Hp) (c : Ct) (Φ : List D → Prop) (D : Ends),
  (∀ p us H' ds, c.lk p ∨ H0 p = none → KD δ c.lk H0 H' → H' p = some (.lst us) → RepL (Bn δ (p :: M0)) H' us ds → Φ ds → D.rt (.ref p) H') → ∀ σ H l, RS δ M0 H0 E c σ H l → w c Φ l → t D σ H
structure DSF (X : Cx) (E : XK) (s : List Stmt) (t : TS) (w : WF) : Prop where
  p : PSs X s t
  a : AbsSF E t w
section
variable {X : Cx} {E : XK} {e : Expr} {es : List Expr} {te : TE} {tl : TA} {ws : WA} {pos : Pos} {st : Stmt} {rest : List Stmt} {t u : TS} {w1 : WS} {w2 : WF}
def wfCons (a : WS) (b : WF) : WF := fun c Φ l => a c { nx := fun l' => b c Φ l', rt := fun _ => False } l
theorem dsf_cons (h1 : DS X E st t w1) (h2 : DSF X E rest u w2) : DSF X E (st :: rest) (tSeq t u) (wfCons w1 w2) :=
  ⟨pss_cons h1.p h2.p, fun δ M0 H0 c Φ D ok σ H l R h => h1.a δ M0 H0 c { nx := fun l' => w2 c Φ l', rt := fun _ => False } { D with nx := u D } ⟨fun σ' H' l' R' h' => h2.a δ M0 H0 c Φ D ok σ' H' l' R' h', fun _ _ _ _ _ z => z.elim, fun _ _ _ _ z => z.elim, fun _ _ _ _ z => z.elim⟩ σ H l R h⟩
def wfRet (i : Nat) : WF := fun _ Φ l => match look l i with
  | some (.own _ xs) => Φ xs
  | _ => False
theorem dsf_ret (i : Nat) {x : Str} {p2 : Pos} (hN : X.N[i]? = some x := by rfl) (hv : Vis X.env.scope x := by first | exact Or.inl rfl | exact Or.inr (Or.inl rfl) | exact Or.inr (Or.inr rfl)) (hd : (x == ("__debug__" : Str)) = false := by decide)
    (hcd : (x == ("__classdict__" : Str)) = false := by decide) : DSF X E [.Return (some (.Name x p2)) pos] (tRet (tVar i)) (wfRet i) := by
  refine ⟨pss_one (ps_ret (pe_var hN hv hd hcd)), fun δ M0 H0 c Φ D ok σ H l R h => ?_⟩
  unfold wfRet at h
  split at h
  · rename_i p xs hl
    have hl' := look_get hl
    have hw := R.wr _ _ _ hl'
    obtain ⟨M, m, n, Re⟩ := R.ex
    obtain ⟨v, e, r⟩ := Re.rep _ _ hl'
    cases r with
    | own hm hn hq rl =>
      exact ⟨_, e, ok p _ H xs hw R.kd hq (rl.less fun b z => by
        rcases z with z | z
        · exact .inl (.inl z)
        · rcases List.mem_cons.mp z with z | z
          · exact .inl (.inr (by rw [z]; exact hm))
          · exact .inl (.inr (m b z))) h⟩
  · exact h.elim
section
variable {CX : CXT} {k f n : Nat} {fd : FuncData} {ps : List Str} {P : List S → (List D → Prop) → Prop} {x : Str} {p : Pos}
def wCallF (P : List S → (List D → Prop) → Prop) (ws : WA) : Env → (List D → Prop) → Prop := fun ρ Φ => ws ρ fun ss => P ss Φ
theorem df_call (F : FnOk X.prog X.w X.K X.mg X.base CX0 k f fd ps (spF n P)) (hr : Room k X.A) (hg : Gl X x) (hm : X.mg x = some (.ref f)) (hk : PySem.W.keepIn X.K (.ref f) = true) (hb : Binds X.K fd ps [])
    (ha : DA X E (e :: es) tl ws) (hn : (e :: es).length = n := by rfl) (hdb : (x == ("__debug__" : Str)) = false := by decide) (he : starEach (e :: es) X.env = (false, eval e X.env) :: starEach es X.env := by rfl) (hpl : (backTo pos (starEach es X.env)).any (·.1) = false := by rfl) :
    DF X E (.Call (.Name x p) (e :: es) [] pos) (tCall (spF n P) [] E0 tl) (wCallF P ws) := by
  refine ⟨pe_call F hr hg hm hk hb .nil pass0 ha.p hdb he hpl, fun δ M σ H ρ R Φ Q h k => ?_⟩
  refine ha.a δ M σ H ρ R _ _ h fun vs H1 ss e1 r1 l1 n1 h1 => ?_
  have R1 := R.ext e1
  show spF n P (vs ++ []) H1 Q E0
  rw [List.append_nil]
  exact ⟨δ, M, ss, Φ, (Paired.length r1).trans (l1.trans hn), r1, n1, R1.okM, R1.okd, h1, fun p us H2 ds hp e2 hq rl h2 => k p us H2 ds (e1.free R.okd hp) (e1.trans e2) hq rl h2⟩
end
/-- [..].clear(), of a new list -/
def wClear (w : Env → (List D → Prop) → Prop) : WS := fun c Φ l => w ⟨c, l⟩ fun _ => Φ.nx l
theorem ds_clear {w : Env → (List D → Prop) → Prop} {apos cpos : Pos} (he : DF X E e te w) (hbase : attributeBase e "clear" X.env (eval e X.env) = eval e X.env := by rfl) (hline : (apos.endLine == cpos.line) = true := by rfl)
    (hs : swapsWith (.Call (.Attribute e "clear" apos) [] [] cpos) none pos.line X.env = pure false := by rfl) :
    DS X E (.Expr (.Call (.Attribute e "clear" apos) [] [] cpos) pos) (tDrop (tBM0 X.K "list" rClear te)) (wClear w) := by
  refine ⟨ps_expr (pe_bm0 PySem.F.plainAttrs_list PySem.F.slot_list_clear PySem.F.type_list_clear mt_clear he.p hbase hline) hs, fun δ M0 H0 c Φ D ok σ H l R h => ?_⟩
  obtain ⟨M, m, n, Re⟩ := R.ex
  refine he.a δ M σ H ⟨c, l⟩ Re _ _ h fun p us H1 ds hp e1 hq rl h1 => ?_
  exact ⟨.inl ⟨rfl, us, Or.inl (Or.inl hq)⟩, p, us, rfl, rfl, hq, ok.nx σ _ l (R.ext (e1.mut hp)) h1⟩
end
section
variable {Pr : Program} {w : World} {K : PySem.W.Frag} {mg : Str → Option Value} {base : Heap} {x qual : Str} {st : Stmt} {f : Addr} {fd : FuncData} {N ps : List Str} {k n : Nat}
theorem fn_F {P : List S → (List D → Prop) → Prop} (F : Fun K x qual st f fd) (Sc : FnScope N ps (defScope st)) (hn : ps.length = n)
    (hbody : ∀ (cdv : Value) (A : Around) (outer : List PySem.Env) (s : Shared) (H : Hp) (Eo : XK), Room k (A.deeper (PyProof.Rows.envOfC qual (defScope st) s.heap.objs.size f cdv)) →
      ∃ t w', DSF ((cxOf CX0 Pr w K mg base N qual (defScope st) f cdv A outer s H Eo).nox) E0 (defBody st) t w' ∧ ∀ ss Φ, ss.length = n → P ss Φ → w' ⟨fun _ => False, fun _ => False⟩ Φ (startS N.length ss)) : FnOk Pr w K mg base CX0 (k + 1) f fd ps (spF n P) := by
  refine F.ok Sc (fun vs H Q E h => ?_) (fun cdv A outer s H vs Q E hr h => ?_)
  · obtain ⟨δ, M, ss, Φ, h1, _⟩ := h
    rw [h1, hn]
  · obtain ⟨δ, M, ss, Φ, h1, h2, h3, h4, h5, h6, h7⟩ := h
    obtain ⟨t, w', hs, hw⟩ := hbody cdv A outer s H E hr
    refine ⟨t, hs.p, hs.a δ M H ⟨fun _ => False, fun _ => False⟩ Φ _ (fun p us H' ds hl kd hq rl h => h7 p us H' ds (hl.resolve_left fun z => z) kd.toExt hq rl h) _ H _ (rs_start h2 h3 h4 h5 fun _ _ _ _ _ _ z => z.elim) (hw ss Φ (by rw [← h2.length, h1]) h6)⟩
end
end Dl

/-! try: f(..) except X as e: return g(e, 'word') -/
namespace Dl
open PySem PySem.Spec PyProof.Rows L2 HotX L2H
theorem RE.calm0 {δ : Option Addr} {M : List Addr} {H : Hp} {E E' : XK} {σ : L2.St} {c : Ct} {l : Sl} (R : RE δ M H E σ ⟨c, l⟩) : RE δ M H E' σ ⟨⟨fun _ => False, c.lk⟩, l⟩ :=
  ⟨R.len, R.rep, R.one, R.okM, R.okd, let ⟨He, Me, a, m, b, _⟩ := R.en; ⟨He, Me, a, m, b, fun _ _ _ _ _ _ z => z.elim⟩⟩
theorem ext_none0 {δ : Option Addr} {H H' : Hp} (h : Ext none H H') : Ext δ H H' := ⟨fun b o e _ => h.1 b o e (fun z => nomatch z), fun a _ ⟨ns, q, l⟩ => ⟨ns, h.1 a _ q (fun z => nomatch z), l⟩⟩
theorem pss_if0 {X : Cx} {st : List Stmt} {t : TS} {c : Prop} (h : c → PSs X st t) : PSs X st (fun D σ H => c ∧ t D σ H) := ⟨fun pins s σ H D I q => (h q.1).run pins s σ H D I q.2⟩
def P_is0 (a : Addr) (word : Str) (ss : List S) (Φ : D → Prop) : Prop := ss = [.d (.raw (.ref a)), .d (.str word)] ∧ Φ (.bl true)
theorem takesN0 {X : Cx} : L2N.Takes X (fun _ _ _ _ => False) := fun u s' x => by
  obtain ⟨_, _, _, _, _, _, _, _, _, _, _, _, _, _, _, _, z⟩ := x
  exact z.elim
def wTryIs (i : Nat) (aN : Addr) (PX : List S → (D → Prop) → (XD → Prop) → Prop) (ws : WA) : WS := fun c Φ l => i < l.length ∧ ws ⟨⟨fun _ => False, c.lk⟩, l⟩ fun ss => PX ss (fun _ => Φ.nx l) fun x => x = ⟨.ref aN, none⟩ ∧ Φ.rt (.bl true)
section
variable {X : Cx} {E : XK} {i j k n : Nat} {aN aGE f fi : Addr} {fd fdi : FuncData} {ps psi : List Str} {PX : List S → (D → Prop) → (XD → Prop) → Prop} {e : Expr} {es : List Expr} {tl : TA} {ws : WA} {x y z nn word : Str} {p p2 p3 p4 p5 p6 p7 np pos pos' : Pos} {jw : Bool}
def tsIs (i : Nat) (aN : Addr) (word : Str) (a : Addr) (cls : Value) (d : Option Addr) : TS := fun D σ H => (cls = .ref aN ∧ d = none) ∧ tRet (tCallS (spD 2 (P_is0 a word)) (fun _ => E0) (tCons (tVar i) (tCons (tC (.str word)) tNil))) D σ H
theorem abs_tryIs {Wout : WX} (kE : PySem.W.exmOne X.K (.ref aN) (.ref aGE) = some true) (hn : (e :: es).length = n) (ha : AbsA E0 (e :: es).length tl ws) :
    AbsS E (fun D σ H => tDrop (tCallS (spX n PX) (fun σ => L2.WE (wAs X.K (.ref aGE) i (tsIs i aN word) Wout D) σ) tl) D σ H) (wTryIs i aN PX ws) := fun δ M0 H0 c Φ D ok σ H l R h => by
  obtain ⟨M, m, nb, Re⟩ := R.ex
  obtain ⟨hi, h⟩ := h
  refine ha δ M σ H ⟨⟨fun _ => False, c.lk⟩, l⟩ Re.calm0 _ _ h fun vs H1 ss e1 r1 l1 n1 h1 => ?_
  have R1 := Re.ext e1
  refine ⟨δ, M, ss, _, _, (Paired.length r1).trans (l1.trans hn), r1, n1, R1.okM, R1.okd, h1, fun v H2 d e2 r2 h2 => ok.nx σ H2 l (R.ext (e1.trans e2)) h2, fun cls d H2 fs e2 rx ⟨ex, hrt⟩ => ?_⟩
  cases ex
  have ed : d = none := rx
  subst ed
  refine ⟨true, kE, fun _ a ha => ⟨⟨rfl, rfl⟩, ?_⟩, fun z => nomatch z⟩
  have hl : i < σ.length := by
    have h1 : l.length = σ.length := Re.len
    omega
  refine ⟨.ref a, List.getElem?_set_self hl, ?_⟩
  refine ⟨none, [], [.d (.raw (.ref a)), .d (.str word)], fun d => d = .bl true, rfl, .cons (.d (.raw _)) (.cons (.d (.str _)) .nil), rfl, (fun b hb => nomatch hb), (fun a z => nomatch z), ⟨rfl, rfl⟩, fun v H3 d e3 r3 ed => ?_⟩
  subst ed
  cases r3
  exact ok.rt _ H3 _ (R.kd.ext ((e1.trans e2).trans (ext_none0 e3))) (.bl true) hrt
end
section
variable {Pr : Program} {w : World} {K : PySem.W.Frag} {mg : Str → Option Value} {base : Heap} {N : List Str} {q : Str} {sc : Scope} {ff : Addr} {cdv : Value} {A : Around} {outer : List PySem.Env} {s : Shared} {H : Hp} {E EC : XK} {i k n : Nat} {aN aGE f fi : Addr} {fd fdi : FuncData} {ps psi : List Str} {PX : List S → (D → Prop) → (XD → Prop) → Prop} {e : Expr} {es : List Expr} {tl : TA} {ws : WA} {x y z nn word : Str} {p p2 p3 p4 p5 p6 p7 p8 np pos pos' : Pos}
theorem ds_tryIs (hN : N.Nodup) (hi : N[i]? = some nn) (hln : ((cxOf CX0 Pr w K mg base N q sc ff cdv A outer s H E).nox).env.kindOf nn = some .local) (hc : Names ((cxOf CX0 Pr w K mg base N q sc ff cdv A outer s H E).nox) x (.ref aGE)) (kE : PySem.W.exmOne K (.ref aN) (.ref aGE) = some true)
    (F : FnOk Pr w K mg base (L2N.CX Pr w) k f fd ps (spX n PX)) (hr : Room k ((cxOf CX0 Pr w K mg base N q sc ff cdv A outer s H E).nox).A) (hr1 : 1 ≤ k) (hg : Gl ((cxOf CX0 Pr w K mg base N q sc ff cdv A outer s H E).nox) y) (hm : mg y = some (.ref f)) (hk : PySem.W.keepIn K (.ref f) = true) (hb : Binds K fd ps [])
    (ha : ∀ (pn : List (Addr × Obj)) (xe : Value → Shared → Prop), DA (((cxOf CX0 Pr w K mg base N q sc ff cdv A outer s H E).nox).tr pn xe) E0 (e :: es) tl ws)
    (FI : FnE Pr w K mg base CX0 1 fi fdi psi (fun p => L2N.Zn (.ref aN) none p.2) fun a => spD 2 (P_is0 a word)) (hgi : Gl ((cxOf CX0 Pr w K mg base N q sc ff cdv A outer s H E).nox) z) (mI : mg z = some (.ref fi)) (kI : PySem.W.keepIn K (.ref fi) = true) (bI : Binds K fdi psi [])
    (hn : (e :: es).length = n := by rfl) (hdb : (y == ("__debug__" : Str)) = false := by decide) (hdz : (z == ("__debug__" : Str)) = false := by decide)
    (he : ∀ (pn : List (Addr × Obj)) (xe : Value → Shared → Prop), starEach (e :: es) (((cxOf CX0 Pr w K mg base N q sc ff cdv A outer s H E).nox).tr pn xe).env = (false, eval e (((cxOf CX0 Pr w K mg base N q sc ff cdv A outer s H E).nox).tr pn xe).env) :: starEach es (((cxOf CX0 Pr w K mg base N q sc ff cdv A outer s H E).nox).tr pn xe).env := by intro _ _; rfl)
    (hpl : ∀ (pn : List (Addr × Obj)) (xe : Value → Shared → Prop), (backTo p2 (starEach es (((cxOf CX0 Pr w K mg base N q sc ff cdv A outer s H E).nox).tr pn xe).env)).any (·.1) = false := by intro _ _; rfl)
    (hsw : ∀ (pn : List (Addr × Obj)) (xe : Value → Shared → Prop), swapsWith (.Call (.Name y p) (e :: es) [] p2) none p3.line (((cxOf CX0 Pr w K mg base N q sc ff cdv A outer s H E).nox).tr pn xe).env = pure false := by intro _ _; rfl)
    (hvis : Vis ((cxOf CX0 Pr w K mg base N q sc ff cdv A outer s H E).nox).env.scope nn := by first | exact Or.inl rfl | exact Or.inr (Or.inl rfl) | exact Or.inr (Or.inr rfl)) (hdn : (nn == ("__debug__" : Str)) = false := by decide) (hdc : (nn == ("__classdict__" : Str)) = false := by decide) :
    DS ((cxOf CX0 Pr w K mg base N q sc ff cdv A outer s H E).nox) EC (.Try [.Expr (.Call (.Name y p) (e :: es) [] p2) p3] [.ExceptHandler (some (.Name x np)) (some nn) [.Return (some (.Call (.Name z p4) [.Name nn p5, .Constant (.str word) 0 p6] [] p7)) p8] pos'] [] [] pos)
      (fun D σ H' => tDrop (tCallS (spX n PX) (fun σ => L2.WE (wAs K (.ref aGE) i (tsIs i aN word) (fun _ _ _ _ => False) D) σ) tl) D σ H') (wTryIs i aN PX ws) := by
  refine ⟨?_, abs_tryIs (X := (cxOf CX0 Pr w K mg base N q sc ff cdv A outer s H E).nox) kE hn (ha [] (fun _ _ => True)).a⟩
  refine L2N.ps_try_as (i := i) (Wout := fun _ _ _ _ => False) (ts := tsIs i aN word) rfl rfl hN hi hln hc takesN0
      (fun W pn xe tk _ => pss_one (ps_expr (pe_callS F hr hg hm hk hb (fun σ => L2N.passAt tk σ) (ha pn xe).p hdb (he pn xe) (hpl pn xe)) (hsw pn xe)))
      (fun a oe cls d pn hz hf => pss_if0 fun hc => ?_)
  obtain ⟨rfl, rfl⟩ := hc
  obtain ⟨vs0, hv⟩ := hf
  refine pss_one (ps_ret ?_)
  have hx : ∀ σ, PassesAt CX0 (Cx.suite (cxOf CX0 Pr w K mg base N q sc ff cdv A outer s H E).nox a ((a, oe) :: pn)) σ E0 := fun σ _ _ _ _ _ _ c => False.elim c
  exact pe_callE (p := (a, oe)) (X := Cx.suite (cxOf CX0 Pr w K mg base N q sc ff cdv A outer s H E).nox a ((a, oe) :: pn)) (sp := fun a => spD 2 (P_is0 a word)) (E := fun _ => E0) FI ⟨(hr.mono hr1).dp, (hr.mono hr1).un⟩ ⟨rfl, vs0, hv, hz.2.2 vs0 hv⟩ hz List.mem_cons_self hgi mI kI bI hx (pa_cons (pe_var hi hvis hdn hdc) (pa_cons pe_str pa_nil)) hdz
end
end Dl

/-! weavings -/
namespace Gh
open PySem L2 Dl
def begM (g : Gt) : Stt := ⟨g.bs.map (·.1), g.hs.map fun _ => 0⟩
def stAt (g : Gt) (ws : List Int) : Nat → Stt
  | 0 => begM g
  | n + 1 => doneM g (stAt g ws n) ((ws[n]?).getD 0).toNat
def statesD (g : Gt) (ws : List Int) (n : Nat) : List D := (List.range (n + 1)).map fun k => dStt (stAt g ws k)
theorem statesD_zero (g : Gt) (ws : List Int) : statesD g ws 0 = [dStt (begM g)] := rfl
theorem statesD_succ (g : Gt) (ws : List Int) (n : Nat) : statesD g ws (n + 1) = statesD g ws n ++ [dStt (stAt g ws (n + 1))] := by
  unfold statesD
  rw [List.range_succ (n := n + 1), List.map_append]
  rfl
theorem statesD_len (g : Gt) (ws : List Int) (n : Nat) : (statesD g ws n).length = n + 1 := by
  unfold statesD
  rw [List.length_map, List.length_range]
theorem statesD_at (g : Gt) (ws : List Int) (n : Nat) : (statesD g ws n)[n]? = some (dStt (stAt g ws n)) := by
  unfold statesD
  rw [List.getElem?_map, List.getElem?_range (Nat.lt_succ_self n)]
  rfl
theorem begM_ok {g : Gt} (og : OkGate g) : OkStt g (begM g) := by
  refine ⟨by simp [begM], by simp [begM], fun i x b e1 e2 => ?_, fun i x h e1 e2 => ?_⟩
  · have e3 : (g.bs.map (·.1))[i]? = some x := e1
    rw [List.getElem?_map, e2] at e3
    have e4 : b.1 = x := Option.some.inj e3
    have := og.bs.2.2 b (List.mem_of_getElem? e2)
    obtain ⟨h1, h2, h3⟩ := this
    rw [← e4]
    exact ⟨h1, h2⟩
  · have e3 : (g.hs.map fun _ => (0 : Int))[i]? = some x := e1
    rw [List.getElem?_map, e2] at e3
    have e4 : (0 : Int) = x := Option.some.inj e3
    have := (og.hs h (List.mem_of_getElem? e2)).len2
    rw [← e4]
    exact ⟨Int.le_refl _, by omega⟩
theorem stAt_ok {g : Gt} {ws : List Int} (og : OkGate g) : ∀ n, OkStt g (stAt g ws n)
  | 0 => begM_ok og
  | n + 1 => doneM_ok og (stAt_ok og n)
theorem stAt_congr {g : Gt} {ws vs : List Int} : ∀ n, (∀ i < n, ws[i]? = vs[i]?) → stAt g ws n = stAt g vs n
  | 0, _ => rfl
  | n + 1, h => by
    show doneM g (stAt g ws n) _ = doneM g (stAt g vs n) _
    rw [stAt_congr n fun i hi => h i (Nat.lt_succ_of_lt hi), h n (Nat.lt_succ_self n)]
def Good (g : Gt) (ws : List Int) : Prop := ∀ w ∈ ws, 0 ≤ w ∧ w < g.hs.length
def P_played (ss : List S) (Φ : D → Prop) : Prop := ∃ (g : Gt) (ws : List Int), ss = [.d (dGate g), .d (.lst (ws.map .int))] ∧ OkGate g ∧ ws.length ≤ 1000 ∧ Good g ws ∧ Φ (.lst (statesD g ws ws.length))
def PP_playedF (C : Addr) (ss : List S) (Φ : List D → Prop) : Prop := ∃ (g : Gt) (ws : List Int), ss = [.d (dObj C g), .d (.lst (ws.map .int))] ∧ OkGate g ∧ ws.length ≤ 1000 ∧ Good g ws ∧ Φ (statesD g ws ws.length)
def PP_played (C aN : Addr) (ss : List S) (Φ : D → Prop) (Ψ : XD → Prop) : Prop := ∃ (g : Gt) (ws : List Int) (n : Nat) (w : Int), ss = [.d (dObj C g), .d (.lst (ws.map .int))] ∧ OkGate g ∧ ws.length ≤ 1000 ∧ ws[n]? = some w ∧ ¬ (0 ≤ w ∧ w < g.hs.length) ∧ w.natAbs ≤ 1000000000 ∧ (∀ i x, i < n → ws[i]? = some x → 0 ≤ x ∧ x < g.hs.length) ∧ Ψ ⟨.ref aN, none⟩
end Gh
namespace Gh
open PySem L2 Dl
theorem statesD_last (g : Gt) (ws : List Int) (n : Nat) : atI (statesD g ws n) (-1) = some (dStt (stAt g ws n)) := by
  have e : ixN (n + 1) (-1) = some n := by
    unfold ixN
    rw [if_neg (by omega), if_pos (by omega)]
    congr 1
    omega
  unfold atI
  rw [statesD_len, e]
  exact statesD_at g ws n
end Gh

/-! raise X(..), X's own __init__ says super().__init__(e) and stores its arguments. -/
namespace Dl
open PySem PySem.Spec PySem.Calls PyProof.Rows L2
/-- what the written part says of the class at C, of its __init__ at f, whose cell is at cc, whose code is at cda -/
structure SupK (Pr : Program) (K : PySem.W.Frag) (C f cc cda : Addr) (sf : Str) : Prop where
  ox : OexC K C
  fun_ : ∃ oc od fd osl ar, K.lookup f = some ⟨oc, od, .func fd, osl⟩ ∧ (fd.params.posonlyargs ++ fd.params.args).head? = some ar ∧ ar.arg = sf
  code : ∃ ccl cdd vs ccs file tf, K.lookup cda = some ⟨ccl, cdd, .fields vs, ccs⟩ ∧ vs[2]? = some (.str file tf) ∧ ((Pr.main.file : Str) == file) = true
  cell : ∃ cl cld csl, K.lookup cc = some ⟨cl, cld, .cell (some (.ref C)), csl⟩
  cls : ∃ cdD, PySem.W.clsIn K C = some cdD
  sub : PySem.W.mroIn K C (.ref C) = some true
  opq : PySem.W.nsIn K cStatics "thirdparty.any" = some none
  meth : PySem.W.ks_superIn K C C "__init__" = some (some (.builtin "ValueError.__init__"))
  subV : PySem.W.subIn K (.ref C) (.type "ValueError") = some true
  init : PySem.W.excInitIn K C He.veBase "ValueError.__new__" = true
  top : (Pr.main.scope.names.lookup ("super" : Str)).isSome = false
section
variable {X : Cx} {pins : List (Addr × Obj)} {σ : L2.St} {H : Hp} {s : Shared} {C f cc cda a : Addr} {sf : Str} {e : Expr} {te : TE} {p0 p1 p2 p3 : Pos} {body : List Stmt} {Q : Hp → Prop}
theorem at_super {pl : Sem Bool} (T : SupK X.prog X.K C f cc cda sf) (I : Inv X pins σ H s) (hm : X.mg "super" = none) (hfu : X.env.func = some f) (hco : X.env.code = .ref cda) (hcl : X.env.cells.lookup ("__class__" : Str) = some cc)
    (hks : X.env.kindOf "super" = some .globalImplicit) (hkc : X.env.kindOf "__class__" = some .free) (hka : X.env.kindOf sf = some .local) (hN : X.N[0]? = some sf) (hσ : σ[0]? = some (some (.ref a))) (ea : H a = some (exo a C none))
    (he : PE X e te) (hbi : X.env.builtins = builtinsNs) (h : te σ H fun _ H1 => H1 a = some (exo a C none) ∧ Q H1)
    (hcall : eval (.Call (.Attribute (.Call (.Name "super" p0) [] [] p1) "__init__" p2) [e] [] p3) X.env = (do
      let ov ← attributeBase (.Call (.Name "super" p0) [] [] p1) "__init__" X.env (eval (.Call (.Name "super" p0) [] [] p1) X.env)
      standAt p2.atName
      let (f, first) ← holding [ov] (getMethod ov "__init__" pl)
      callWith p3 f first (backTo p3 (starEach [e] X.env)) []) := by rfl)
    (hst : starEach [e] X.env = (false, eval e X.env) :: starEach [] X.env := by rfl) (hpl : (backTo p3 (starEach [] X.env)).any (·.1) = false := by rfl) :
    _root_.PySem.wpAt (model X.prog X.w) X.A (.func body X.env) (eval (.Call (.Attribute (.Call (.Name "super" p0) [] [] p1) "__init__" p2) [e] [] p3) X.env) (fun _ s' => ∃ H1, Inv X pins σ H1 s' ∧ Q H1) X.xe s := by
  obtain ⟨oc, od, fd, osl, ar, hf, hp, harg⟩ := T.fun_
  obtain ⟨ccl, cdd, vs, ccs, file, tf, hcode, hvs, hfile⟩ := T.code
  obtain ⟨cl, cld, csl, hcell⟩ := T.cell
  obtain ⟨cdD, hD⟩ := T.cls
  obtain ⟨m, hns, hlk⟩ := I.loc
  obtain ⟨u, ru, hu⟩ := hlk 0 sf (.ref a) hN hσ (.inl hka)
  obtain rfl : u = Value.ref a := ru
  have hself : m sf = some (.ref a) := by
    rcases hu with ⟨_, h2⟩ | ⟨h1, _⟩
    · exact h2
    · rw [hka] at h1
      rcases h1 with h1 | h1 <;> cases h1
  have hkind := I.ok.kind
  have kx : X.K.In s.heap := I.kIn
  obtain ⟨mb, hb1, hb2⟩ := I.ok.mod.blt
  obtain ⟨oD, hD1, hD2⟩ : ∃ oD, s.heap.get? C = some oD ∧ oD.data = .cls cdD := by
    have z := hD
    unfold PySem.W.clsIn at z
    split at z
    · rename_i c d cd' sl hq
      cases z
      exact ⟨_, kx _ _ hq, rfl⟩
    · cases z
  obtain ⟨t1, ho⟩ := exo_at I.hok ea
  obtain ⟨hp0, g, dr, tk, os⟩ := s
  refine ks_wpAt_MethodCall (pl := pl) (ks_wpAt_super_base (env := X.env) hks hkc rfl hfu (kx _ _ hf) rfl hp hco (kx _ _ hcode) rfl hvs hfile T.top ?_) hcall
  refine PySem.W.ks_loadName_global hkind hks (loadGlobal_builtin (env := X.env) (by rw [I.ok.glob]; exact I.ok.mod.glob.keeps I.bk) hm (by rw [hbi]; exact hb1.keeps I.bk) ((hb2 "super" (by decide)).trans (by decide +kernel : bootBuiltins "super" = some (.type "super"))) ⟨rfl, ?_⟩)
  refine wpAny_loadName_free hkind hkc hcl ⟨_, kx _ _ hcell, rfl⟩ ?_
  rw [harg]
  refine wpAny_loadName_local hkind hka hns hself ?_
  refine ks_wpAny_isType_cls hD1 hD2 ⟨rfl, ?_⟩
  refine ks_wpAny_call_super hD1 hD2 ho rfl (fun c z => nomatch z) (PySem.W.looks_mroIn kx T.sub) (fun h1 e1 k1 => ?_)
  have I1 : Inv X pins σ H ⟨h1, g, dr, tk, os⟩ := I.kept (t' := tk) k1
  have kx1 : X.K.In h1 := I1.kIn
  have inst : PySem.W.InstAt h1 a (PySem.W.excObj C t1 none .none) C none := ⟨k1 _ _ ho, rfl, rfl, trivial⟩
  have hal : PySem.W.alongIn X.K "__init__" ((cdD.mro.dropWhile (· != .ref C)).drop 1) = some (some (.builtin "ValueError.__init__")) := by
    have z := T.meth
    unfold PySem.W.ks_superIn at z
    rw [hD] at z
    exact z
  refine PySem.W.kxs_getMethod PySem.W.kxs_ValueError e1 (PySem.W.looks_opaque kx1 T.opq) (l₀ := cdD.mro) (fun A Q E s k q => wpAny_bind ((PySem.W.looks_clsIn kx1 hD) A _ E s k (wpAny_pure q))) rfl kx1 hal (inst.type.andThen (PySem.W.looks_subIn kx1 T.subV)) (PySem.W.ks_ne kx1 inst hD) rfl ?_
  have kp2 : ∀ b o, h1.get? b = some o → (h1.push (PySem.W.kxs_mw "ValueError.__init__" a)).get? b = some o := fun b o e => Heap.get?_push_of_some _ e
  have gu : (h1.push (PySem.W.kxs_mw "ValueError.__init__" a)).get? h1.objs.size = some (PySem.W.kxs_mw "ValueError.__init__" a) := Heap.get?_push_at rfl rfl
  have I2 : Inv X pins σ H ⟨h1.push (PySem.W.kxs_mw "ValueError.__init__" a), g, dr, tk + 1, os⟩ := I1.kept (t' := tk + 1) kp2
  have hu2 : H h1.objs.size = none := I1.hok.fresh (Nat.le_refl _)
  have ult : h1.objs.size ≠ X.env.locals := fun z => absurd I1.lt (by rw [← z]; exact Nat.lt_irrefl _)
  have ufs : h1.objs.size ∉ X.fs := I1.nofs (Nat.le_refl _)
  have I3 : Inv X ((h1.objs.size, PySem.W.kxs_mw "ValueError.__init__" a) :: pins) σ H ⟨h1.push (PySem.W.kxs_mw "ValueError.__init__" a), g, dr, tk + 1, os⟩ := ⟨I2.ok, I2.os, I2.bare, I2.base, I2.loc, I2.cell, I2.free, I2.freeC, fun p hp => by
    rcases List.mem_append.mp hp with q | q
    · exact I2.pin p (List.mem_append_left _ q)
    · rcases List.mem_cons.mp q with q | q
      · rw [q]
        exact ⟨gu, hu2, ult, ufs, fun v z => nomatch z⟩
      · exact I2.pin p (List.mem_append_right _ q), I2.hok, I2.len⟩
  have NB : PyProof.Rows.News X.base X.env.locals (h1.push (PySem.W.kxs_mw "ValueError.__init__" a)) [(h1.objs.size, PySem.W.kxs_mw "ValueError.__init__" a)] := fun p hp => by
    rw [List.mem_singleton.mp hp]
    refine ⟨gu, ult, ?_⟩
    cases z : X.base.get? h1.objs.size with
    | none => rfl
    | some o => exact absurd (Heap.lt_size (I1.bk _ _ z)) (Nat.lt_irrefl _)
  refine PySem.W.kxs_callWith1 NB (List.mem_singleton.mpr rfl) ?_ hst hpl
  rw [hst]
  refine Calls.spliced_cons (thn (he.run _ _ σ H _ I3 h) fun v s1 ⟨y, H1, I4, r1, ea1, hq1⟩ => Calls.spliced_nil ⟨(I4.pin _ (List.mem_append_right _ List.mem_cons_self)).1, ?_⟩)
  have I5 : Inv X pins σ H1 s1 := ⟨I4.ok, I4.os, I4.bare, I4.base, I4.loc, I4.cell, I4.free, I4.freeC, fun p hp => I4.pin p (by
    rcases List.mem_append.mp hp with q | q
    · exact List.mem_append_left _ q
    · exact List.mem_append_right _ (List.mem_cons_of_mem _ q)), I4.hok, I4.len⟩
  have gu1 := (I4.pin _ (List.mem_append_right _ List.mem_cons_self)).1
  obtain ⟨t2, ho2⟩ := exo_at I4.hok ea1
  obtain ⟨nm, N, qn, bs, bm, hdct, sn, sub, ab, col, dd, k0, k1', k2, k3, k5, hCl, _⟩ := PySem.W.excInit_of I4.kIn T.init
  obtain ⟨hp1, g1, d1, tk1, os1⟩ := s1
  refine wpAny_call (codeAny_of_tree (show wpAny _ X.A.in1 (callAny (.ref h1.objs.size) ⟨[v], []⟩) _ _ _ from ?_))
  have ty1 : (Value.type "method-wrapper" == Value.type "method" || Value.type "method-wrapper" == Value.type "builtin_function_or_method" || Value.type "method-wrapper" == Value.type "method-wrapper") = true := by decide
  simp only [callAny]
  refine wpAny_bind (m := _) (wpAny_load (show hp1.get? h1.objs.size = _ from gu1) ?_)
  simp only [PySem.W.kxs_mw, ty1, if_true]
  refine (PySem.W.KFB.if_so (show _ = true from by decide)) (wpAny_bind (PySem.W.check_bound_init PySem.F.excBase_ValueError.toExcCallFacts hCl ho2 rfl ?_))
  refine wpAny_bind (wpAny_pure (wpAny_pure ⟨plainId_quiet PySem.F.excBase_ValueError.init.plain _, codeAny_builtin PySem.F.excBase_ValueError.initEntry ?_⟩))
  refine PySem.W.exc_init_tree (cls := .ref C) (t0 := t2) (dv := none) (c2 := .none) (c3 := .none) (b4 := .bool false) ho2 (show ([v] : List Value).length ≤ sizeLine from by rw [sizeLine_eq]; show 1 ≤ _; omega) (fun h9 k9 e9 t9 => ?_)
  have J := I5.write (t' := tk1) (x := a) (e := a) (o := exo a C none) (by rw [ea1]; exact True.intro) (.inl rfl) k9 ⟨_, e9⟩ (exo_ok e9)
  have eu : upd H1 a (exo a C none) = H1 := by
    funext b
    by_cases hb : b = a
    · rw [hb, upd_same, ea1]
    · rw [upd_ne hb]
  rw [eu] at J
  exact ⟨H1, J, hq1⟩
end
end Dl
namespace Dl
open PySem PySem.Spec PySem.Calls PyProof.Rows L2 NdefX
/-- a def of a class that says super(): its closure is the class's cell -/
structure FunC (K : PySem.W.Frag) (x qual : Str) (st : Stmt) (f : Addr) (fd : FuncData) (cc cda : Addr) : Prop where
  ex : ∃ (oc : Value) (od : Option Addr) (kV doc pm : Value) (an : Option Addr) (ct : Value) (osl : Array (Option Value)),
    fd = PySem.W.ksFn x qual (defArgs st) (defBody st) (defScope st) .none kV doc pm an (.ref cda) ct cc ∧ K.lookup f = some ⟨oc, od, .func fd, osl⟩ ∧ PySem.W.codeIn K (.ref cda) qual = true
  kp : PySem.W.keepIn K (.ref f) = true
abbrev nfC (x qual : Str) (st : Stmt) (cc cda : Addr) : NF := ⟨x, qual, defArgs st, defBody st, defScope st, [("__class__", cc)], cda⟩
section
variable {P : Program} {w : World} {K : PySem.W.Frag} {mg : Str → Option Value} {base : Heap} {x qual sf : Str} {st : Stmt} {f C cc cda : Addr} {fd : FuncData} {N ps : List Str} {k : Nat} {sp : Sp} {e : Expr} {rest : List Stmt} {p0 p1 p2 p3 p4 : Pos}
theorem fn_super (F : FunC K x qual st f fd cc cda) (T : SupK P K C f cc cda sf) (Sc : NScope N ps ["__class__"] (defScope st)) (hps : ps.head? = some sf) (hb : defBody st = .Expr (.Call (.Attribute (.Call (.Name "super" p0) [] [] p1) "__init__" p2) [e] [] p3) p4 :: rest)
    (hm : mg "super" = none) (hks : (defScope st).names.lookup ("super" : Str) = some .globalImplicit) {pl : PySem.Env → Sem Bool}
    (hcall : ∀ env : PySem.Env, eval (.Call (.Attribute (.Call (.Name "super" p0) [] [] p1) "__init__" p2) [e] [] p3) env = (do
      let ov ← attributeBase (.Call (.Name "super" p0) [] [] p1) "__init__" env (eval (.Call (.Name "super" p0) [] [] p1) env)
      standAt p2.atName
      let (f, first) ← holding [ov] (getMethod ov "__init__" (pl env))
      callWith p3 f first (backTo p3 (starEach [e] env)) []))
    (hst : ∀ env : PySem.Env, starEach [e] env = (false, eval e env) :: starEach [] env) (hpl : ∀ env : PySem.Env, (backTo p3 (starEach [] env)).any (·.1) = false)
    (hsw : ∀ env : PySem.Env, swapsWith (.Call (.Attribute (.Call (.Name "super" p0) [] [] p1) "__init__" p2) [e] [] p3) none p4.line env = pure false) (len : ∀ vs H Q E, sp vs H Q E → vs.length = ps.length)
    (hbody : ∀ (A : Around) (outer : List PySem.Env) (s : Shared) (H : Hp) (vs : List V) (Q : VK) (E : XK), Room k (A.deeper (envF (nfC x qual st cc cda) f s.heap.objs.size)) → sp vs H Q E →
      ∃ a te t, vs[0]? = some (.ref a) ∧ H a = some (exo a C none) ∧ PE (ncx CX0 P w K mg base N (nfC x qual st cc cda) f A outer s H E) e te ∧ PSs (ncx CX0 P w K mg base N (nfC x qual st cc cda) f A outer s H E) rest t ∧
        te (startF N vs [some (.ref C)]) H fun _ H1 => H1 a = some (exo a C none) ∧ t { nx := fun _ H' => Q .non H', rt := Q } (startF N vs [some (.ref C)]) H1) : FnOk P w K mg base CX0 (k + 1) f fd ps sp := by
  obtain ⟨oc, od, kV, doc, pm, an, ct, osl, rfl, lk, hcd⟩ := F.ex
  obtain ⟨cl, cld, csl, hcell⟩ := T.cell
  refine ⟨len, fun A outer s H args us vs Q E hr e0 hbd r hsp => ?_⟩
  have hl := len _ _ _ _ hsp
  have KX : K.In s.heap := e0.mod.kin.keeps fun b o e => (e0.bs b o e).1
  have lim : s.heap.NoLimit := e0.mod.nolimit.keeps fun b o e => (e0.bs b o e).1
  have hcn : H cc = none := (e0.bs cc _ (e0.mod.kin _ _ hcell)).2
  have hic : s.heap.IsCell cc (some (.ref C)) := ⟨_, KX _ _ hcell, rfl⟩
  have CA : CellsAt (nfC x qual st cc cda).cl ["__class__"] [some (.ref C)] s.heap H := by
    refine ⟨rfl, fun y c e => ?_, fun y z c e1 e2 => ?_, fun i y e => ?_⟩
    · have e2 : (match y == ("__class__" : Str) with | true => some cc | false => none) = some c := e
      cases q : (y == ("__class__" : Str)) with
      | true =>
        rw [q] at e2
        cases e2
        exact ⟨hcn, _, hic⟩
      | false =>
        rw [q] at e2
        cases e2
    · have e3 : (match y == ("__class__" : Str) with | true => some cc | false => none) = some c := e1
      have e4 : (match z == ("__class__" : Str) with | true => some cc | false => none) = some c := e2
      cases q : (y == ("__class__" : Str)) with
      | false =>
        rw [q] at e3
        cases e3
      | true =>
        cases q2 : (z == ("__class__" : Str)) with
        | false =>
          rw [q2] at e4
          cases e4
        | true => rw [beq_iff_eq.mp q, beq_iff_eq.mp q2]
    · rcases i with _ | i
      · cases e
        exact ⟨cc, rfl, fun v hv => by
          cases hv
          exact ⟨_, rfl, hic⟩⟩
      · cases e
  obtain ⟨a, te, t, ha, hx, hpe, hpss, hq⟩ := hbody A outer s H vs Q E (hr.deeper _) hsp
  refine ks_codeAny_call_defAt (fd := PySem.W.ksFn x qual (defArgs st) (defBody st) (defScope st) .none kV doc pm an (.ref cda) ct cc) (body := defBody st) (binds := ps.zip us) hr.depth (KX _ _ lk) rfl lim (PySem.W.codeRec_of KX hcd) rfl hbd Sc.nocell (fun ⟨n, v⟩ hy => Sc.par n (List.of_mem_zip hy).1) (fun h₁ hns kp => ?_) Sc.co Sc.gen Sc.kind
  have I : Inv (ncx CX0 P w K mg base N (nfC x qual st cc cda) f A outer s H E) [] (startF N vs [some (.ref C)]) H { s with heap := h₁, toks := s.toks + (ps.zip us).length } := inv_startN Sc hr.hd e0 hl r CA hns kp
  have hf := KX _ _ lk
  have hN0 : N[0]? = some sf := by
    have q := Sc.pre
    cases ps with
    | nil => cases hps
    | cons p r =>
      cases hps
      have q2 : (N.take ((sf :: r).length + [("__class__" : Str)].length))[0]? = some sf := by rw [q]; rfl
      rw [List.getElem?_take_of_lt (by simp)] at q2
      exact q2
  have hσ : (startF N vs [some (.ref C)])[0]? = some (some (.ref a)) := by
    cases vs with
    | nil => cases ha
    | cons v r =>
      cases ha
      rfl
  have hsf : (defScope st).names.lookup sf = some .local := Sc.par sf (List.mem_of_mem_head? hps)
  rw [hb]
  refine ks_wpAt_execs_cons (ks_wpAt_Expr_any (ks_wpAt_mono (at_super (X := ncx CX0 P w K mg base N (nfC x qual st cc cda) f A outer s H E) T I hm rfl rfl rfl hks (Sc.frk _ (List.mem_singleton.mpr rfl)) hsf hN0 hσ hx hpe rfl hq (hcall _) (hst _) (hpl _)) (fun _ s' hh => ?_) (fun e s' he => he)) (by show ((defScope st).kind == ScopeKind.module && _) = false; rw [Sc.kind]; rfl) (hsw _))
  obtain ⟨H1, I1, hq1⟩ := hh
  refine wpAt_of_wpAny (wpAny_mono (hpss.run [] _ _ H1 _ I1 hq1) (fun fl s2 hs => ?_) fun e s2 he => he)
  cases fl with
  | ret u =>
    obtain ⟨v, σ2, H2, J, rv, q⟩ := hs
    exact ⟨v, H2, J.os, J.bare, J.base, J.hok, rv, q⟩
  | next =>
    obtain ⟨σ2, H2, J, q⟩ := hs
    exact ⟨V.non, H2, J.os, J.bare, J.base, J.hok, rfl, q⟩
  | brk => exact hs.elim fun _ h => h.elim fun _ h => h.2.elim
  | cont => exact hs.elim fun _ h => h.elim fun _ h => h.2.elim
end
end Dl

/-! raise X(word, i, j), X's __init__ over super().__init__(f'..') and three fields. -/
namespace Dl
open PySem PySem.Spec PySem.Calls PyProof.Rows L2 NdefX
theorem int_len : ∀ n : Fin 100, (Str.ofString (toString (((n : Nat)) : Int))).length ≤ 3 := by decide +kernel
theorem int_len' {i : Int} (h0 : 0 ≤ i) (h1 : i < 100) : (Str.ofString (toString i)).length ≤ 3 := by
  obtain ⟨n, rfl⟩ : ∃ n : Nat, i = (n : Int) := ⟨i.toNat, by omega⟩
  exact int_len ⟨n, by omega⟩
def e3 (w : Str) (i j : Int) : List (Str × V) := [("step", .int j), ("hand", .int i), ("why", .str w)]
def spErr (C : Addr) : Sp := fun vs H Q _ => ∃ (a : Addr) (w : Str) (i j : Int), vs = [.ref a, .str w, .int i, .int j] ∧ w.length ≤ 100 ∧ 0 ≤ i ∧ i < 100 ∧ 0 ≤ j ∧ j < 100 ∧ H a = some (exo a C none) ∧
  ∀ (d : Addr) (H2 : Hp), H d = none → d ≠ a → H2 a = some (exo a C (some d)) → H2 d = some (exd d (e3 w i j)) → (∀ b, b ≠ a → b ≠ d → H2 b = H b) → Q .non H2
section
variable {X : Cx} {C fI : Addr} {CX : CXT} {k : Nat} {fd : FuncData} {ps : List Str} {sp : Sp} {x : Str} {e : Expr} {es : List Expr} {ta : TA} {p pos : Pos}
theorem pmk_oexN (T : OexC X.K C) (iC : PySem.W.findIn X.K (.ref C) "__init__" = some (some (.ref fI))) (tI : PySem.W.typeIn X.K (.ref fI) = some (.type "function"))
    (F1 : FnOk X.prog X.w X.K X.mg X.base CX k fI fd ps sp) (hr : Room (k + 1) X.A) (hb : Binds X.K fd ps []) (hx : Passes CX X (fun _ _ _ => False)) (hg : Gl X x) (hm : X.mg x = some (.ref C)) (ha : PA X (e :: es) ta)
    (hdb : (x == ("__debug__" : Str)) = false := by decide) (he : starEach (e :: es) X.env = (false, eval e X.env) :: starEach es X.env := by rfl) (hpl : (backTo pos (starEach es X.env)).any (·.1) = false := by rfl) :
    L2N.PMk X (.Call (.Name x p) (e :: es) [] pos) (tMkO C sp [] ta) := fun pins s σ H Q I h => by
  obtain ⟨c1, c2, c3, c4, bm, c6, c7, c8, c9, c10, c11, c12, c13, c14, c15, hC, hbm⟩ := T.cls
  refine wpAny_Call_Name_kw (ld_glob I hg hm (PySem.W.callWith_K (h₀ := X.base) I.ok.mod.kin T.kC (thn (ha.run pos pins s σ H _ I h) fun us s1 ⟨vs, H1, I1, r1, hz, q1⟩ => ⟨I1.kIn, (?_ : wpAny _ _ (call (.ref C) us) _ _ _)⟩) he hpl) hdb)
  obtain ⟨hp, gg, dr, tk, os⟩ := s1
  obtain ⟨at_, eat⟩ : ∃ at_ : Addr, at_ = hp.objs.size + 1 := ⟨_, rfl⟩
  have hsz : hp.objs.size ≤ at_ := by rw [eat]; exact Nat.le_succ _
  have hn : H1 at_ = none := I1.hok.fresh hsz
  have hq := q1 at_ hn
  rw [List.append_nil] at hq
  obtain ⟨h2, eh2⟩ : ∃ h2 : Heap, h2 = (hp.push (PySem.W.kdv_tup us)).push (PySem.HandSPX.excO C hp.objs.size) := ⟨_, rfl⟩
  have kk : ∀ b o, hp.get? b = some o → h2.get? b = some o := fun b o z => by rw [eh2]; exact Heap.get?_push_of_some _ (Heap.get?_push_of_some _ z)
  have hget : h2.get? at_ = some (PySem.HandSPX.excO C hp.objs.size) := by
    rw [eh2, eat]
    heap_get
  have J2 : Inv X pins σ (upd H1 at_ (exo at_ C none)) ⟨h2, gg, dr, tk, os⟩ := I1.laid (t' := tk) (a := at_) (o := exo at_ C none) (h' := h2) kk hsz (exo_ok hget)
  have rv2 : Vals (V.ref at_ :: vs) (Value.ref at_ :: us) := .cons rfl r1
  have hl : (Value.ref at_ :: us ++ []).length = ps.length := by
    rw [List.append_nil, ← F1.len _ _ _ _ hq]
    exact rv2.length.symm
  have b2 := hb _ (Value.ref at_ :: us) J2.kIn hl
  rw [List.append_nil] at b2
  rw [eat, eh2] at *
  have hus : us.length ≤ sizeLine := by rw [← Paired.length r1, sizeLine_eq]; omega
  refine wpAny_call (PySem.HandSPX.call_own PySem.F.excBase_ValueError (fun Y => PySem.HandSPX.refsVE_contains Y bm hbm) (I1.kIn _ _ hC) (PySem.W.looks_findIn I1.kIn iC) (fun me => PySem.W.bind_fn I1.kIn me tI) hus (codeAny_mono (F1.run _ X.stack _ _ ⟨Value.ref (hp.objs.size + 1) :: us, []⟩ _ _ _ (fun _ _ _ => False) (hr.make C us []) (J2.env0.make C us []) b2 rv2 hq) fun r s' hq' => ?_))
  cases r with
  | error er => exact hx pins σ _ _ er s' J2 hq'
  | ok fl =>
    cases fl with
    | ret u =>
      obtain ⟨v, G2, os2, bare2, un2, hok2, rv, ev, d, fs, ea, ed, hd1, q2⟩ := hq'
      obtain ⟨w2, g2, d2, t2, os'⟩ := s'
      obtain ⟨t0, G, J, kG, ge, hoe, na⟩ := mk_end0 (d2 := d2) (t2 := t2) I1 hsz kk un2 hok2 os2 bare2 ea ed hd1
      subst ev
      exact ⟨rv, _, _, _, ⟨G, g2, d2, t2, os'⟩, _, .ref C, some d, rfl, J, kG, ge, hoe, ⟨rfl, rfl, fun vs hv => by cases hv; rfl⟩, rfl, rfl, na, rfl, bare2, raises_own T.exC T.tyC, q2⟩
    | next | brk | cont => exact False.elim hq'
end
def wRaise3 (C : Addr) (ws : WA) : WS := fun c _ l => ws ⟨c, l⟩ fun ss => ∃ (w : Str) (i j : Int), ss = [.d (.str w), .d (.int i), .d (.int j)] ∧ w.length ≤ 100 ∧ 0 ≤ i ∧ i < 100 ∧ 0 ≤ j ∧ j < 100 ∧ c.ex ⟨.ref C, some (["step", "hand", "why"], [.int j, .int i, .str w])⟩
theorem paired_d3 {δ : Option Addr} {M : List Addr} {H : Hp} {vs : List V} {w : Str} {i j : Int} (h : Paired (RepS δ M H) vs [.d (.str w), .d (.int i), .d (.int j)]) : vs = [.str w, .int i, .int j] := by
  cases h with
  | cons r1 h => cases h with
    | cons r2 h => cases h with
      | cons r3 h =>
        cases h
        cases r1 with
        | d r1 => cases r2 with
          | d r2 => cases r3 with
            | d r3 =>
              cases r1
              cases r2
              cases r3
              rfl
section
variable {X : Cx} {C : Addr} {E : XK} {e : Expr} {es : List Expr} {ta : TA} {ws : WA} {pos : Pos}
theorem ds_raise3 (hc : X.calm = true) (tk : L2N.Takes X (fun cls d _ H => E cls d H)) (ha : DA X E es ta ws) (h : L2N.PMk X e (tMkO C (spErr C) [] ta)) :
    DS X E (.Raise (some e) none pos) (fun _ σ H => tMkO C (spErr C) [] ta σ H fun cls d H1 => E cls d H1) (wRaise3 C ws) := by
  refine ⟨L2N.ps_raise hc tk h, fun δ M0 H0 c Φ D ok σ H l R hh => ?_⟩
  obtain ⟨M, m, n, Re⟩ := R.ex
  refine ha.a δ M σ H ⟨c, l⟩ Re _ _ hh fun vs H1 ss e1 r1 l1 n1 ⟨w, i, j, ess, hw, i0, i1, j0, j1, hq⟩ => ?_
  subst ess
  obtain rfl := paired_d3 r1
  refine ⟨by show 3 ≤ 1000; omega, fun a hn => ⟨a, w, i, j, rfl, hw, i0, i1, j0, j1, upd_same, fun d H2 hd hda h2a h2d hk => ⟨rfl, d, e3 w i j, h2a, h2d, by rw [upd_ne hda] at hd; exact hd, ?_⟩⟩⟩
  have hd1 : H1 d = none := by rw [upd_ne hda] at hd; exact hd
  have sm : ∀ b, b ≠ a → b ≠ d → upd (del H2 a) d (.xd (e3 w i j)) b = H1 b := fun b h1 h2 => by rw [upd_ne h2, del_ne h1, hk b h1 h2, upd_ne h1]
  have st : ∀ b o, H1 b = some o → upd (del H2 a) d (.xd (e3 w i j)) b = some o := fun b o z => by rw [sm b (ne_of_none z hn) (ne_of_none z hd1)]; exact z
  exact Re.ex (.ref C) (some d) _ (some (["step", "hand", "why"], [.int j, .int i, .str w])) (e1.trans ⟨fun b o z _ => st b o z, fun b _ ⟨ns, z, l⟩ => ⟨ns, st b _ z, l⟩⟩) ⟨d, [.int j, .int i, .str w], rfl, upd_same, rfl, .cons (.int j) (.cons (.int i) (.cons (.str w) .nil))⟩ hq
end
/-- the class X of such errors, at C -/
structure BGd (Pr : Program) (w : World) (K : PySem.W.Frag) (mg : Str → Option Value) (base : Heap) (C fI : Addr) (fdI : FuncData) (x : Str) : Prop where
  ox : OexC K C
  ic : PySem.W.findIn K (.ref C) "__init__" = some (some (.ref fI))
  ti : PySem.W.typeIn K (.ref fI) = some (.type "function")
  ok : FnOk Pr w K mg base CX0 1 fI fdI ["self", "why", "hand", "step"] (spErr C)
  b : Binds K fdI ["self", "why", "hand", "step"] []
  m : mg x = some (.ref C)
section
variable {X : Cx} {C fI : Addr} {fdI : FuncData} {E : XK} {e : Expr} {es : List Expr} {ta : TA} {ws : WA} {x : Str} {p pos pos' : Pos}
theorem ds_raiseBG (hc : X.calm = true) (tk : L2N.Takes X (fun cls d _ H => E cls d H)) (B : BGd X.prog X.w X.K X.mg X.base C fI fdI x) (hr : Room 2 X.A) (hg : Gl X x) (ha : DA X E (e :: es) ta ws)
    (hdb : (x == ("__debug__" : Str)) = false := by decide) (he : starEach (e :: es) X.env = (false, eval e X.env) :: starEach es X.env := by rfl) (hpl : (backTo pos (starEach es X.env)).any (·.1) = false := by rfl) :
    DS X E (.Raise (some (.Call (.Name x p) (e :: es) [] pos)) none pos') (fun _ σ H => tMkO C (spErr C) [] ta σ H fun cls d H1 => E cls d H1) (wRaise3 C ws) :=
  ds_raise3 hc tk ha (pmk_oexN B.ox B.ic B.ti B.ok hr B.b pass0 hg B.m ha.p hdb he hpl)
end
end Dl

/-! What is wrong with a gate: the first fault that the program tells. -/
namespace Gh
open PySem L2 Dl
abbrev Bd := Str × Int × Int
def firstB {α : Type} (p : Nat → α → Option Bd) : Nat → List α → Option Bd
  | _, [] => none
  | n, x :: r => match p n x with
    | some b => some b
    | none => firstB p (n + 1) r
theorem firstB_at {α : Type} {p : Nat → α → Option Bd} {x : α} {b : Bd} : ∀ {l : List α} {n k : Nat}, (∀ i y, i < k → l[i]? = some y → p (n + i) y = none) → l[k]? = some x → p (n + k) x = some b → firstB p n l = some b
  | [], _, _, _, h, _ => by simp at h
  | y :: r, n, 0, _, h, hb => by
    simp at h
    subst h
    show (match p n y with | some b => some b | none => firstB p (n + 1) r) = some b
    rw [show p n y = some b from hb]
  | y :: r, n, k + 1, hn, h, hb => by
    show (match p n y with | some b => some b | none => firstB p (n + 1) r) = some b
    rw [show p n y = none from hn 0 y (Nat.succ_pos k) rfl]
    exact firstB_at (k := k) (fun i z hi hz => by
      have := hn (i + 1) z (Nat.succ_lt_succ hi) (by simpa using hz)
      rw [show n + 1 + i = n + (i + 1) by omega]
      exact this) (by simpa using h) (by rw [show n + 1 + k = n + (k + 1) by omega]; exact hb)
theorem firstB_none {α : Type} {p : Nat → α → Option Bd} : ∀ {l : List α} {n : Nat}, (∀ i y, l[i]? = some y → p (n + i) y = none) → firstB p n l = none
  | [], _, _ => rfl
  | y :: r, n, hn => by
    show (match p n y with | some b => some b | none => firstB p (n + 1) r) = none
    rw [show p n y = none from hn 0 y rfl]
    exact firstB_none fun i z hz => by
      have := hn (i + 1) z (by simpa using hz)
      rw [show n + 1 + i = n + (i + 1) by omega]
      exact this
def boxB (n : Nat) (b : Box) : Option Bd := if 0 ≤ b.1 ∧ b.1 ≤ b.2 ∧ b.2 ≤ 9 then none else some ("box", 0, (n : Int))
def boxesB (bs : List Box) : Option Bd := if 1 ≤ bs.length ∧ bs.length ≤ 12 then firstB boxB 0 bs else some ("boxes", 0, 0)
def stepB (bs : List Box) (many hand : Int) (n : Nat) (s : Stp) : Option Bd := if okStpB bs many s = true then none else some ("step", hand, (n : Int))
def progB (bs : List Box) (hand : Int) (l : List Stp) : Option Bd := if 2 ≤ l.length ∧ l.length ≤ 24 then firstB (stepB bs l.length hand) 0 l else some ("steps", hand, 0)
def inns (l : List Stp) : List Nat := (List.range l.length).filter (inB l)
def knockB (hand knock : Int) (l : List Stp) : Option Bd := match inns l with
  | [i] => if i = 0 then some ("in", hand, 0) else if 1 ≤ knock ∧ knock ≤ i then none else some ("knock", hand, 0)
  | _ => some ("in", hand, 0)
def handB (bs : List Box) (n : Nat) (h : Hand) : Option Bd := match progB bs n h.2 with
  | some b => some b
  | none => knockB n h.1 h.2
def handsB (bs : List Box) (hs : List Hand) : Option Bd := if 1 ≤ hs.length ∧ hs.length ≤ 4 then firstB (handB bs) 0 hs else some ("hands", 0, 0)
def gateB (g : Gt) : Option Bd := match boxesB g.bs with
  | some b => some b
  | none => handsB g.bs g.hs
def bgX (C : Addr) (b : Bd) : XD := ⟨.ref C, some (["step", "hand", "why"], [.int b.2.2, .int b.2.1, .str b.1])⟩
def PX_check_boxes (C : Addr) (ss : List S) (Φ : D → Prop) (Ψ : XD → Prop) : Prop := ∃ bs, ss = [.d (dBoxes bs)] ∧ bs.length ≤ 50 ∧ (boxesB bs = none → Φ .non) ∧ ∀ b, boxesB bs = some b → Ψ (bgX C b)
def PX_check_program (C : Addr) (ss : List S) (Φ : D → Prop) (Ψ : XD → Prop) : Prop := ∃ (bs : List Box) (l : List Stp) (i : Nat), ss = [.d (dBoxes bs), .d (.int i), .d (.lst (l.map dStp))] ∧ bs.length ≤ 20 ∧ l.length ≤ 90 ∧ i < 50 ∧ (progB bs i l = none → Φ .non) ∧ ∀ b, progB bs i l = some b → Ψ (bgX C b)
def PX_check_knock (C : Addr) (ss : List S) (Φ : D → Prop) (Ψ : XD → Prop) : Prop := ∃ (k : Int) (l : List Stp) (i : Nat), ss = [.d (.int i), .d (.int k), .d (.lst (l.map dStp))] ∧ l.length ≤ 90 ∧ i < 50 ∧ (knockB i k l = none → Φ .non) ∧ ∀ b, knockB i k l = some b → Ψ (bgX C b)
def PX_check_hands (C : Addr) (ss : List S) (Φ : D → Prop) (Ψ : XD → Prop) : Prop := ∃ g : Gt, ss = [.d (dBoxes g.bs), .d (.lst (g.hs.map dHand))] ∧ g.bs.length ≤ 20 ∧ g.hs.length ≤ 50 ∧ (∀ h ∈ g.hs, h.2.length ≤ 90) ∧ (handsB g.bs g.hs = none → Φ .non) ∧ ∀ b, handsB g.bs g.hs = some b → Ψ (bgX C b)
end Gh

/-! isinstance of a handled exception that has fields. -/
namespace PySem.W
open PySem PySem.Calls PyProof.Rows
section
variable {prog : Program} {w : World} {A : Around} {E : Value → Shared → Prop} {s : Shared} {K : Frag} {x D : Addr} {ox od : Obj}
theorem o_find {C : Addr} {name : Str} {a g : Value} (hc : (clsIn K C).isSome = true) (ha : findIn K (.ref C) name = some (some a)) (hg : specialIn K a "__get__" = some (some g)) (ht : takesIn K a = some true) : findObj K C (some od) name = some (.bind g a) := by
  obtain ⟨cd, hc⟩ := Option.isSome_iff_exists.mp hc
  simp [findObj, hc, ha, hg, ht]
theorem o_class {Q : Option Value → Shared → Prop} (hga : findIn K (.ref D) "__getattribute__" = some (some (.builtin "BaseException.__getattribute__"))) (hgt : findIn K (.ref D) "__getattr__" = some none) (hsub : subIn K (.ref D) (.type "BaseException") = some true)
    (hdct : hasDictIn K D = true) (ha : findIn K (.ref D) "__class__" = some (some (.builtin "object.__class__")))
    (hn : specialIn K (.builtin "object.__class__") "__get__" = some (some (.builtin "getset_descriptor.__get__"))) (htk : takesIn K (.builtin "object.__class__") = some true) (hm : mroIn K D (.type "object") = some true)
    (X : K.In s.heap) (I : InstAt s.heap x ox D (some od)) (h : Q (some (.ref D)) { s with toks := s.toks + 1 }) : wpAny (model prog w) A (getAttr? (.ref x) "__class__") Q E s := by
  have cls : (clsIn K D).isSome = true := by
    obtain ⟨cd, hc, _⟩ := any_some hdct
    rw [hc] <;> rfl
  have nob : (Value.builtin "BaseException.__getattribute__" == Value.builtin "object.__getattribute__") = false := by decide +kernel
  have nob2 : (onTheHeap (Value.ref D) && Value.builtin "BaseException.__getattribute__" == Value.builtin "object.__getattribute__") = false := by rw [nob] <;> rfl
  obtain ⟨hp, g, d, t, os⟩ := s
  have T0 := I.type (M := model prog w)
  have isB : Looks (model prog w) hp (isInstance (.ref x) (.type "BaseException")) true := T0.andThen (looks_subIn X hsub)
  unfold getAttr? getAttrBy? getAttrBy
  refine wpAny_bind (wpAny_mkText (wpAny_bind (wpAny_attempt (wpAny_holding (wpAny_bind (T0.at (wpAny_bind ((looks_findIn (M := model prog w) X hga).at ?_))))))))
  show wpAny _ _ (if (onTheHeap (Value.ref D) && Value.builtin "BaseException.__getattribute__" == Value.builtin "object.__getattribute__") = true then _ else _) _ _ _
  rw [nob2, if_neg Bool.false_ne_true] <;> unfold getAttrByItsOwn hookBefore
  refine wpAny_bind (m := _) ?_
  rw [show onTheHeap (Value.ref D) = true from rfl, if_pos rfl]
  refine (looks_findIn (M := model prog w) X hgt).at (wpAny_bind (wpAny_attempt (wpAny_holding ?_)))
  unfold callGetattribute
  rw [show (false && onTheHeap (Value.builtin "BaseException.__getattribute__")) = false from rfl, if_neg Bool.false_ne_true] <;> unfold boundAndCalled
  rw [PySem.F.excAttr_ValueError.ga.bind (.ref x)]
  refine wpAny_bind (wpAny_pure (show wpAny _ _ (call (.builtin "BaseException.__getattribute__") [.ref x, .str "__class__" t]) _ _ _ from wpAny_call (codeAny_call_builtin PySem.F.excAttr_ValueError.ga.plain PySem.F.entry_bexc_ga
    (@check_slot (model prog w) _ _ ⟨hp, g, d, t + 1, os⟩ "BaseException.__getattribute__" "BaseException" "__getattribute__" (.ref x) [.str "__class__" t] [] _ (by decide +kernel) (by decide +kernel) isB (PySem.F.args_bexc_ga (.ref x) (.str "__class__" t)) ?_))))
  unfold Builtin.«object.__getattribute__»
  refine wpAny_bind (wpAny_of_eq (a := ((Value.ref x : Value), [Value.str "__class__" t])) (by first | rfl | (simp only [slotArgs] <;> rfl)) (wpAny_bind (wpAny_pure (wpAny_bind (T0.at (wpAny_bind ((looks_find (M := model prog w) X I (o_find cls ha hn htk)).at ?_)))))))
  refine (show wpAny _ _ (holding [Value.builtin "object.__class__"] (call (.builtin "getset_descriptor.__get__") [.builtin "object.__class__", .ref x, .ref D]) >>= ret) _ _ _ from wpAny_bind (wpAny_holding (wpAny_call (class_get (s := ⟨hp, g, d, t + 1, os⟩) (ox := ox) (od := some od) X I hm ?_))))
  refine wpAny_pure (show wpAny _ _ (handedOut (.ref D)) _ _ _ from ?_)
  rw [handedOut_of (v := .ref D) rfl]
  first
    | exact wpAny_pure (wpAny_bind (wpAny_pure (wpAny_pure h)))
    | exact wpAny_pure (wpAny_pure h)
    | exact wpAny_pure h
end
end PySem.W
namespace Dl
open PySem PySem.Spec PySem.W PySem.Calls PyProof.Rows L2 HotX L2H
theorem o_kitx {K : Frag} {x D : Addr} {ox : Obj} (C : ExcC K D) : KitX K (.ref x) (.ref D) (fun h => ∃ od, InstAt h x ox D (some od)) := by
  obtain ⟨cdD, hcD, _⟩ := any_some C.hd
  obtain ⟨oD, hl, hd⟩ : ∃ oD, K.lookup D = some oD ∧ oD.data = .cls cdD := by
    have z := hcD
    unfold clsIn at z
    split at z
    · rename_i c d cd' sl hq
      cases z
      exact ⟨_, hq, rfl⟩
    · cases z
  refine ⟨fun _ _ _ ⟨od, I⟩ => I.type, fun M h X _ => ?_, fun h tp dd its n sl X htp => ?_, fun X ⟨od, I⟩ k => o_class C.hg C.hk C.hs C.hd C.ha C.hn C.ht C.hm X I k⟩
  · intro A' Q' E' s' k q
    obtain ⟨hp, g, d, t, os⟩ := s'
    exact ks_wpAny_isType_cls (k _ _ (X _ _ hl)) hd q
  · cases q : ((Value.ref D : Value) == .ref tp) with
    | false => rfl
    | true =>
      have e : D = tp := Value.ref.inj (beq_iff_eq.mp q)
      subst e
      rw [X _ _ hl] at htp
      cases htp
      cases hd
theorem call_isO {X : Cx} {p : Addr × Obj} {D dd : Addr} (hp : p ∈ X.pn) (C : ExcC X.K D) (hz : Zc (.ref D) (some dd) p.2) (hf : ∃ vs, p.2.data = .fields vs) (hdd : ∃ o, X.s_0.heap.get? dd = some o) (hx : X.ex = []) : CallR X (.builtin "isinstance") (rIsE X.K D p.1) := by
  intro pins s σ H xs us Q I r h
  obtain ⟨c, cv, b, rfl, hcv, e, q⟩ := h
  obtain ⟨u1, u2, rfl, rx, rt⟩ := vals2 r
  have ex : u1 = .ref p.1 := rx
  subst ex
  have ec := hcv _ rt
  subst ec
  have hget := (I.pin p (List.mem_append_left _ hp)).1
  obtain ⟨vs, hv⟩ := hf
  obtain ⟨o0, ho0⟩ := hdd
  obtain ⟨od, hod⟩ := I.base.there dd o0 ho0 (by rw [hx]; exact fun z => nomatch z)
  have J : InstAt s.heap p.1 p.2 D (some od) := by
    obtain ⟨a, oc, odt, oda, osl⟩ := p
    obtain ⟨h1, h2⟩ := hz
    dsimp only at h1 h2 hv hget
    subst h1 h2 hv
    exact ⟨hget, rfl, rfl, hod⟩
  exact kia_one (o_kitx C) I.kIn ⟨od, J⟩ e (fun z => nomatch z) fun tk => ⟨.bl b, H, I.kept (t' := tk) fun _ _ z => z, rfl, q⟩
section
variable {X : Cx} {E : XK} {e : Expr} {te : TE} {w : WE} {pos q q2 : Pos} {x : Str}
theorem de_isO {p : Addr × Obj} {D dd : Addr} {c : V} {cv : Value} {b : Bool} (hp : p ∈ X.pn) (C : ExcC X.K D) (hz : Zc (.ref D) (some dd) p.2) (hf : ∃ vs, p.2.data = .fields vs) (hdd : ∃ o, X.s_0.heap.get? dd = some o) (hxx : X.ex = []) (hg : Gl X "isinstance") (hm : X.mg "isinstance" = none)
    (he : DE X E e te w) (hx : PE X (.Name x q2) (tC c)) (hc : ∀ u, RelV c u → u = cv) (hk : PySem.W.kitOne X.K (.ref D) cv = some b)
    (na : starEach [e, .Name x q2] X.env = (false, eval e X.env) :: starEach [.Name x q2] X.env := by rfl) (na2 : starEach [.Name x q2] X.env = (false, eval (.Name x q2) X.env) :: starEach [] X.env := by rfl)
    (hpl : (backTo pos (starEach [.Name x q2] X.env)).any (·.1) = false := by rfl) :
    DE X E (.Call (.Name "isinstance" q) [e, .Name x q2] [] pos) (tCB (rIsE X.K D p.1) (tCons te (tCons (tC c) tNil))) (wIsE p.1 b w) := by
  refine ⟨pe_callB (call_isO hp C hz hf hdd hxx) hg hm (by decide +kernel) (pa_cons he.p (pa_cons hx pa_nil na2) na) (he := na) (hpl := hpl), fun δ M σ H ρ R Φ Q h k => ?_⟩
  refine he.a δ M σ H ρ R _ _ h fun v H1 d e1 r1 h1 => ?_
  obtain ⟨ed, h1⟩ := h1
  subst ed
  cases r1
  exact ⟨c, cv, b, rfl, hc, hk, k _ H1 _ e1 (.bl b) h1⟩
end
def spO (dd : Addr) (n : Nat) (P : List S → (D → Prop) → Prop) : L2.Sp := fun vs H Q E => (∃ fs, H dd = some (.xd fs)) ∧ spD n P vs H Q E
section
variable {P : Program} {w : World} {K : PySem.W.Frag} {mg : Str → Option Value} {base : Heap} {x qual : Str} {st : Stmt} {f dd : Addr} {fd : FuncData} {N ps : List Str} {k n : Nat} {Zp : Addr × Obj → Prop}
theorem fn_DO {Pd : Addr → List S → (D → Prop) → Prop} (F : Fun K x qual st f fd) (Sc : FnScope N ps (defScope st)) (hn : ps.length = n)
    (hbody : ∀ (cdv : Value) (A : Around) (outer : List PySem.Env) (s : Shared) (H : Hp) (Eo : XK) (p : Addr × Obj), Hot1 A p → Zp p → (∃ o, s.heap.get? dd = some o) → RoomH k (A.deeper (envOfC qual (defScope st) s.heap.objs.size f cdv)) →
      ∃ t w', DSs ((cxH CX0 P w K mg base N qual (defScope st) f cdv A outer s H Eo p).nox) E0 (defBody st) t w' ∧ ∀ ss Φ, ss.length = n → Pd p.1 ss Φ → w' ⟨fun _ => False, fun _ => False⟩ { nx := fun _ => Φ .non, rt := Φ } (startS N.length ss)) :
    FnE P w K mg base CX0 (k + 1) f fd ps Zp fun a => spO dd n (Pd a) := by
  obtain ⟨oc, od, kV, doc, pm, an, cdv, ct, osl, rfl, lk, hcd⟩ := F.ex
  refine ⟨fun a vs H Q E h => by
    obtain ⟨_, δ, M, ss, Φ, h1, _⟩ := h
    rw [h1, hn], fun A outer s H args us vs Q E p hr hot hz hpin e0 hb r hsp => ?_⟩
  obtain ⟨⟨fs, hxd⟩, δ, M, ss, Φ, h1, h2, h3, h4, h5, h6, h7⟩ := hsp
  have hl : vs.length = ps.length := by rw [h1, hn]
  have bk : ∀ b o, base.get? b = some o → s.heap.get? b = some o := fun b o e => (e0.bs b o e).1
  have KX : K.In s.heap := e0.mod.kin.keeps bk
  have hex : ∃ o, s.heap.get? dd = some o := by
    obtain ⟨mA, hns, _⟩ : ObjOk P w H s.heap dd (.xd fs) := e0.hok dd _ hxd
    obtain ⟨o, es, ep, g1, _⟩ := hns
    exact ⟨o, g1⟩
  have loc : ∀ y ∈ ps.zip us, (defScope st).names.lookup y.1 = some .local ∨ ((defScope st).names.lookup y.1 = some .cell ∧ ((cellsFrom (s.heap.objs.size + 1) (defScope st).names []).lookup y.1).isSome = true) := by
    rintro ⟨n, v⟩ hy
    exact (Sc.par n (List.of_mem_zip hy).1).imp id fun q => ⟨q, PySem.W.cellsFrom_some _ _ _ (.inl q)⟩
  refine codeAny_call_function hr.depth (KX _ _ lk) rfl Sc.co Sc.gen rfl (PySem.W.codeRec_of KX hcd) (hb _ _ _ _ (wpAny_newFunctionEnv_cells Sc.kind loc fun env he s1 x => ?_))
  subst he
  obtain ⟨t, w', hs, hw⟩ := hbody cdv A outer s H E p hot hz hex (hr.deeper _)
  have I := inv_startH (CX := CX0) (E := E) Sc hpin e0 hl r x
  have hq := hs.a δ M H ⟨fun _ => False, fun _ => False⟩ { nx := fun _ => Φ .non, rt := Φ } { nx := fun _ H' => Q .non H', rt := Q } ⟨fun σ H' l R h => h7 .non H' .non R.kd.toExt .non h, fun v H' d kd r h => h7 v H' d kd.toExt r h, fun _ _ _ _ h => h.elim, fun _ _ _ _ h => h.elim⟩ _ H _ (rs_start h2 h3 h4 h5 fun _ _ _ _ _ _ z => z.elim) (hw ss Φ (by rw [← h2.length, h1]) h6)
  refine ⟨(e0.mod.nolimit.keeps bk).keeps x.toInCall.keep, codeAny_func (wpAny_mono (hs.p.nox.run [] s1 (L2.start N vs) H _ I hq) (fun fl s' hh => ?_) fun e s' hh => hh)⟩
  cases fl with
  | ret u =>
    obtain ⟨v, σ', H', J, rv, q⟩ := hh
    exact ⟨v, H', J.os, J.bare, J.base, J.hok, rv, q⟩
  | next =>
    obtain ⟨σ', H', J, q⟩ := hh
    exact ⟨V.non, H', J.os, J.bare, J.base, J.hok, rfl, q⟩
  | brk => obtain ⟨_, _, _, q⟩ := hh; exact q.elim
  | cont => obtain ⟨_, _, _, q⟩ := hh; exact q.elim
end
end Dl

/-! A comprehension over a range while an exception is handled. -/
namespace Dl
open PySem PySem.Spec PyProof.Rows L2 HotX L2H
/-- the block's context, which knows of the handled exception too -/
abbrev blkP (X : Cx) (s : Shared) (H : Hp) (scope : Scope) (cenv : PySem.Env) (fp : List Addr) : Cx := { X.blk s H scope cenv fp with pn := X.pn }
theorem inv_blkP {X : Cx} {s s' : Shared} {H H' : Hp} {scope : Scope} {cenv : PySem.Env} {fp : List Addr} {σ : L2.St} (I : Inv (X.blk s H scope cenv fp) [] σ H' s') (h : ∀ p ∈ X.pn, s'.heap.get? p.1 = some p.2 ∧ H' p.1 = none ∧ p.1 ≠ cenv.locals ∧ p.1 ∉ frs X.stack ∧ ∀ v, p.2.data ≠ .cell v) : Inv (blkP X s H scope cenv fp) [] σ H' s' := by
  obtain ⟨a1, a2, a3, a4, a5, a6, a7, a8, a9, a10, a11, a12, a13, a14, a15, a16, a17, a18⟩ := I.ok
  exact ⟨⟨a1, a2, a3, a4, a5, a6, a7, a8, a9, a10, a11, a12, a13, a14, a15, a16, a17, a18⟩, I.os, I.bare, I.base, I.loc, I.cell, I.free, I.freeC, fun p hp => h p (by simpa using hp), I.hok, I.len⟩
section
variable {X : Cx}
/-- [elt for tg in range(e)] -/
def tLcR (ti : TA) (g : TG) (te : TE) (vs : List Nat) : TE := fun σ H Q => ti σ H fun xs H1 => ∃ j : Int, xs = [.int j] ∧ -(2 ^ 62) ≤ j ∧ j < 2 ^ 62 ∧ ∀ D, H1 D = none → ∃ W : Nat → Hp → Prop, W 0 (upd H1 D (.lst [])) ∧
  ∀ i H, W i H → (j.toNat ≤ i → Q (.ref D) H) ∧ (i < j.toNat → g (.int (i : Int)) (wipe σ vs) H fun σ2 H2 => wipe σ2 vs = wipe σ vs ∧ te σ2 H2 fun y H4 => ∃ acc, H4 D = some (.lst acc) ∧ acc.length < sizeLine ∧ W (i + 1) (upd H4 D (.lst (acc ++ [y]))))
theorem pe_lcR {elt tg e : Expr} {scope : Scope} {own : List (Str × Nat)} {pos p1 p2 : Pos} {ti : TA} {g : TG} {te : TE} (hc : HotC X) (hN : X.N.Nodup) (hgr : Gl X "range") (hmr : X.mg "range" = none) (hi : PA X [e] ti) (ok : BlkOk X.N X.env.scope scope own)
    (hg : ∀ (s : Shared) (H : Hp) (C : Addr) (cl : List (Str × Addr)) (fp : List Addr), PG (blkP X s H scope (compEnvC scope cl C X.env) fp) tg g)
    (he : ∀ (s : Shared) (H : Hp) (C : Addr) (cl : List (Str × Addr)) (fp : List Addr), PE (blkP X s H scope (compEnvC scope cl C X.env) fp) elt te) (hs : ∀ x, foldedSetIterable (.Call (.Name "range" p1) [e] [] p2) X.env x = pure x := by intro _; rfl) (hse : starEach [e] X.env = [(false, eval e X.env)] := by rfl) :
    PE X (.ListComp elt [⟨tg, .Call (.Name "range" p1) [e] [] p2, [], 0⟩] scope pos) (tLcR ti g te (own.map (·.2))) := by
  refine ⟨fun pins s σ H Q I h => ?_⟩
  rw [eval_ListComp]
  obtain ⟨p, ⟨hh, v1, e1, c1⟩, hp⟩ := hc
  have hfree : ∀ y ∈ scope.names, y.2 = .free → ∃ c, X.env.cells.lookup y.1 = some c := fun y hy e => (ok.free y hy e).elim (fun k => I.ok.has _ (.inl k)) (fun k => I.ok.has _ (.inr k))
  refine wpAny_comprehension_free (use := none) rfl hs (closure_ok hfree) ok.kind (fun y hy e => by rw [ok.uniq y hy, e]) ?_
  refine Call_ (ld_blt I hgr hmr boot_range (PyProof.Rows.callWith_type1 (thn (hi.run p2 pins s σ H _ I h) fun us s1 ⟨vs, H1, I1, r1, j, ej, q1, q2, q⟩ => ?_) hse rfl))
  subst ej
  obtain ⟨tj, rfl⟩ : ∃ tj, us = [Value.int j tj] := by
    cases r1 with
    | cons r rr =>
      cases rr
      obtain ⟨t, rfl⟩ := r
      exact ⟨t, rfl⟩
  refine call_range_1 (wpAny_pyIter_range (IsRange.new ..) (small_one (by omega) (by omega) q1 q2) ?_)
  have I1r : Inv X pins σ H1 { s1 with heap := s1.heap.push { cls := .type "range", data := .fields #[.int 0 s1.toks, .int j tj, .int 1 (s1.toks + 1)] }, toks := s1.toks + 1 + 1 } := I1.kept (t' := s1.toks + 1 + 1) fun b o e => Heap.get?_push_of_some _ e
  generalize hsr : ({ s1 with heap := s1.heap.push { cls := .type "range", data := .fields #[.int 0 s1.toks, .int j tj, .int 1 (s1.toks + 1)] }, toks := s1.toks + 1 + 1 } : Shared) = sr at I1r ⊢
  have I2 : Inv X pins σ H1 { sr with heap := sr.heap.push { cls := .type "range_iterator", data := .fields #[rawInt 0, rawInt (Builtin.Range.rangeSize 0 j 1), rawInt 1] } } := I1r.kept (t' := sr.toks) fun b o e => Heap.get?_push_of_some _ e
  have fit := I1r.fpOk (Nat.le_refl _) (I1r.hok.fresh (Nat.le_refl _))
  generalize hs2 : ({ sr with heap := sr.heap.push { cls := .type "range_iterator", data := .fields #[rawInt 0, rawInt (Builtin.Range.rangeSize 0 j 1), rawInt 1] } } : Shared) = s2 at I2 ⊢
  have st2 : IsRangeIter s2.heap sr.heap.objs.size ((0 : Nat) : Int) ((j.toNat : Int) - ((0 : Nat) : Int)) 1 := by
    have e2 : (j.toNat : Int) - ((0 : Nat) : Int) = Builtin.Range.rangeSize 0 j 1 := by rw [rangeSize_one]; split <;> omega
    rw [← hs2, e2]
    exact Heap.get?_push_size _ rfl
  generalize sr.heap.objs.size = it at fit st2 ⊢
  refine wpAny_newObj_type (newEnv_comp ?_) (by show 0 ≤ sizeLine; decide)
  generalize hD : s2.heap.objs.size = D
  have hDn : H1 D = none := I2.hok.fresh (Nat.le_of_eq hD)
  have nDit : it ≠ D := by rw [← hD]; exact Nat.ne_of_lt (Heap.lt_size st2)
  obtain ⟨W, w0, turn⟩ := q D hDn
  have I3 : Inv X pins σ (upd H1 D (.lst [])) { s2 with heap := s2.heap.push { cls := .type "list", data := .seq ([] : List Value).toArray } } := by
    refine I2.laid (t' := s2.toks) (fun b o e => Heap.get?_push_of_some _ e) (Nat.le_of_eq hD) ⟨Nat.zero_le _, [], 0, .nil, ?_⟩
    rw [← hD]
    exact Heap.get?_push_size _ rfl
  have st3 : IsRangeIter (s2.heap.push { cls := .type "list", data := .seq ([] : List Value).toArray }) it ((0 : Nat) : Int) ((j.toNat : Int) - ((0 : Nat) : Int)) 1 := Heap.get?_push_of_some _ st2
  generalize hs3 : ({ s2 with heap := s2.heap.push { cls := .type "list", data := .seq ([] : List Value).toArray } } : Shared) = s3 at I3
  have st3 : IsRangeIter s3.heap it ((0 : Nat) : Int) ((j.toNat : Int) - ((0 : Nat) : Int)) 1 := by rw [← hs3]; exact st3
  have fit3 : FpOk X pins (upd H1 D (.lst [])) it := ⟨by rw [upd_ne nDit]; exact fit.1, fit.2⟩
  have I4b := block_start (fp := [it]) I3 ok hN fun b hb => by
    have e : b = it := by simpa using hb
    subst e
    exact ⟨fit3, Heap.lt_size st3⟩
  have I4 := inv_blkP I4b fun q hq => by
    have P1 := I3.pin q (List.mem_append_left _ hq)
    exact ⟨pushCells_keeps _ _ _ _ (Heap.get?_push_of_some _ P1.1), P1.2.1, Nat.ne_of_lt (Heap.lt_size P1.1), fun hm => (List.mem_cons.mp (I3.stkSub q.1 hm)).elim P1.2.2.1 P1.2.2.2.1, P1.2.2.2.2⟩
  have pg := hg s3 (upd H1 D (.lst [])) s3.heap.objs.size (cellsFrom (s3.heap.objs.size + 1) scope.names (cloFrom X.env.cells scope.names [])) [it]
  have pe := he s3 (upd H1 D (.lst [])) s3.heap.objs.size (cellsFrom (s3.heap.objs.size + 1) scope.names (cloFrom X.env.cells scope.names [])) [it]
  show codeAny _ _ (.compStart (.ListComp elt [⟨tg, .Call (.Name "range" p1) [e] [] p2, [], 0⟩] scope pos) 0 (.ref it) (.ref D) (compEnvC scope (cellsFrom (s3.heap.objs.size + 1) scope.names (cloFrom X.env.cells scope.names [])) s3.heap.objs.size X.env)) (compPost (model X.prog X.w) X.A X.xe none (EP X pins σ Q) (.ref D) s3.heap.objs.size) { s3 with heap := pushCells (s3.heap.push { cls := .type "dict", data := .dict #[] }) scope.names }
  have cL : (compEnvC scope (cellsFrom (s3.heap.objs.size + 1) scope.names (cloFrom X.env.cells scope.names [])) s3.heap.objs.size X.env).locals = s3.heap.objs.size := rfl
  generalize compEnvC scope (cellsFrom (s3.heap.objs.size + 1) scope.names (cloFrom X.env.cells scope.names [])) s3.heap.objs.size X.env = ce at I4 pg pe cL ⊢
  have st4 : IsRangeIter (pushCells (s3.heap.push { cls := .type "dict", data := .dict #[] }) scope.names) it ((0 : Nat) : Int) ((j.toNat : Int) - ((0 : Nat) : Int)) 1 := pushCells_keeps _ _ _ _ (Heap.get?_push_of_some _ st3)
  generalize upd H1 D (.lst []) = H3 at I3 I4 pg pe w0 fit3
  generalize hs4 : ({ s3 with heap := pushCells (s3.heap.push { cls := .type "dict", data := .dict #[] }) scope.names } : Shared) = s4 at I4 ⊢
  have st4 : IsRangeIter s4.heap it ((0 : Nat) : Int) ((j.toNat : Int) - ((0 : Nat) : Int)) 1 := by rw [← hs4]; exact st4
  have ob : ∀ {x l : Int} {h : Heap}, IsRangeIter h it x l 1 → ∀ b ∈ [it], ∃ o, h.get? b = some o ∧ ∀ v, o.data ≠ .cell v := fun {x l h} st b hb => by
    have e : b = it := by simpa using hb
    subst e
    exact ⟨_, st, fun v z => by
      have z' : Data.fields _ = Data.cell v := z
      cases z'⟩
  have stat : ∀ {σ' : L2.St} {H' : Hp} {s' : Shared}, Inv (blkP X s3 H3 scope ce [it]) [] σ' H' s' → H' it = none → FpOk (blkP X s3 H3 scope ce [it]) [] H' it := fun {σ' H' s'} I' hn =>
    have hb : it ∈ (blkP X s3 H3 scope ce [it]).ex := List.mem_singleton.mpr rfl
    ⟨hn, (I'.ok.exf it hb).1, I'.ok.exfs it hb, .inl hb, fun x c e => (I'.ok.exf it hb).2 x c e, fun p hp => fit3.2.2.2.2.2 p (List.mem_append_left _ (by simpa using hp))⟩
  have loop : codeAny (model X.prog X.w) X.A (.compLoop (.ListComp elt [⟨tg, .Call (.Name "range" p1) [e] [] p2, [], 0⟩] scope pos) 0 (.ref it) (.ref D) ce) (compPost (model X.prog X.w) X.A X.xe none (EP X pins σ Q) (.ref D) s3.heap.objs.size) s4 := by
    refine compLoop_any (fun n s' => ∃ i H', n = j.toNat - i ∧ Inv (blkP X s3 H3 scope ce [it]) [] (wipe σ (own.map (·.2))) H' s' ∧ IsRangeIter s'.heap it ((i : Nat) : Int) ((j.toNat : Int) - ((i : Nat) : Int)) 1 ∧ H' it = none ∧ W i H') ?_ j.toNat ⟨0, H3, rfl, I4, st4, fit3.1, w0⟩
    rintro n s5 ⟨i, H5, hn, I5, st5, n5, w5⟩
    obtain ⟨hend, hstep⟩ := turn i H5 w5
    obtain ⟨f0, f1, f2, f3, f4, f5⟩ := stat I5 n5
    by_cases hlt : i < j.toNat
    rotate_left
    · have hge : j.toNat ≤ i := Nat.le_of_not_lt hlt
      -- back in the def's context
      have I7 : Inv X pins σ H5 s5 := I3.call' (ch := [it]) I5.os I5.base I5.hok I5.bare fun b hb => by
        have e : b = it := by simpa using hb
        subst e
        exact ⟨fit3.2.2.2.1, fit3.2.1, fit3.2.2.2.2.1, fit3.2.2.2.2.2⟩
      have hp7 := I7.pin p (List.mem_append_left _ hp)
      refine pyNext_range_end_hot ⟨hh, p.2, v1, hp7.1, e1, c1⟩ st5 (by omega) fun h' k0 => ?_
      have k : ∀ b o, b ≠ it → s5.heap.get? b = some o → h'.get? b = some o := fun b o _ e => k0 b o e
      have I6 : Inv (blkP X s3 H3 scope ce [it]) [] (wipe σ (own.map (·.2))) H5 { s5 with heap := h' } := I5.turned (t' := s5.toks) k f0 f1 f3 f4 f5
      have I8 : Inv X pins σ H5 { s5 with heap := h' } := I7.turned (t' := s5.toks) k n5 fit3.2.1 fit3.2.2.2.1 fit3.2.2.2.2.1 fit3.2.2.2.2.2
      obtain ⟨m, hm, _⟩ := I6.loc
      have hm : h'.Ns ce.locals m := hm
      have nC : H5 ce.locals = none := I6.free
      rw [cL] at hm nC
      refine ⟨m, hm, fun h'' sb => ?_⟩
      obtain ⟨g0, g1, g2, g3, g4, g5⟩ := I3.fpOk (Nat.le_refl _) nC
      exact ⟨.ref D, H5, I8.turned (t' := s5.toks) (fun b o hb e => (sb.2 b hb).trans e) g0 g1 g3 g4 g5, rfl, hend hge⟩
    · refine wpAny_pyNext_range_item st5 (by omega) fun h' st' sb => ?_
      have st6 : IsRangeIter h' it (((i + 1 : Nat)) : Int) ((j.toNat : Int) - ((i + 1 : Nat) : Int)) 1 := by
        have e1 : ((i : Nat) : Int) + 1 = ((i + 1 : Nat) : Int) := by omega
        have e2 : (j.toNat : Int) - ((i : Nat) : Int) - 1 = (j.toNat : Int) - ((i + 1 : Nat) : Int) := by omega
        rw [← e2, ← e1]
        exact st'
      have I6 : Inv (blkP X s3 H3 scope ce [it]) [] (wipe σ (own.map (·.2))) H5 { s5 with heap := h', toks := s5.toks + 1 } := I5.turned (t' := s5.toks + 1) (fun b o hb e => (sb.2 b hb).trans e) f0 f1 f3 f4 f5
      have ru : L2.RelV (V.int (i : Int)) (Value.int (i : Int) s5.toks) := ⟨s5.toks, rfl⟩
      refine go_of (s := { s5 with heap := h', toks := s5.toks + 1 }) (n := "range_iterator") st6 rfl rfl (by decide) ?_
      have I6' := I6.pinned (fp := [it]) (fun b hb => by
        have e : b = it := by simpa using hb
        subst e
        exact stat I6 n5) (ob st6)
      refine thnF (pg.run _ _ _ H5 (.int (i : Int)) _ _ I6' ru (hstep hlt)) fun _ s8 ⟨σ8, H8, I8, hw8, q8⟩ => ?_
      refine wpAny_pure ?_
      rw [if_pos rfl]
      refine thnF (pe.run _ s8 σ8 H8 _ I8 q8) fun z s10 ⟨yv, H10, I10, r10, acc, hD10, hz10, nx⟩ => ?_
      refine app_ok (X := blkP X s3 H3 scope ce [it]) I10 hD10 hz10 r10 fun s11 I11 => ⟨j.toNat - (i + 1), by omega, i + 1, _, rfl, ?_, ?_, ?_, nx⟩
      · have hl : (wipe σ (own.map (·.2))).length = σ8.length := by rw [← hw8, wipe_length]
        refine (I11.unpinned (pins := [])).weak hl fun j v e => ?_
        rw [← hw8] at e
        exact (wipe_some e).1
      · exact (I11.pin (it, _) (List.mem_append_right _ (List.mem_append_right _ (mem_pinsAt (List.mem_singleton.mpr rfl) st6)))).1
      · exact (I11.pin (it, _) (List.mem_append_right _ (List.mem_append_right _ (mem_pinsAt (List.mem_singleton.mpr rfl) st6)))).2.1
  exact codeAny_compStart_list loop (wpAny_pyIter_rangeiter st4 loop)
end
section
variable {X : Cx} {E : XK} {e elt tg : Expr} {te : TE} {w we : WE} {pos p1 p2 : Pos} {ti : TA} {wi : WA} {g : TG} {wg : WG} {scope : Scope} {own : List (Str × Nat)}
def wLcR (wi : WA) (g : WG) (we : WE) (vs : List Nat) : Env → (List D → Prop) → Prop := fun ρ Φ => wi ρ fun ss => match ss with
  | [.d (.int j)] => (0 ≤ j ∧ j ≤ 100000) ∧ ∃ I : Nat → List D → Prop, I 0 [] ∧
    (∀ i acc, i < j.toNat → I i acc → g (.int (i : Int)) (wipeS ρ.sl vs) fun l2 => we ⟨⟨fun _ => False, ρ.c.lk⟩, l2⟩ fun d => I (i + 1) (acc ++ [d])) ∧ ∀ acc, I j.toNat acc → Φ acc
  | _ => False
theorem abs_lcR {vs : List Nat} {n : Nat} (hi : AbsA E n ti wi) (hg : AbsG vs g wg) (he : AbsE E0 te we) : AbsF E (tLcR ti g te vs) (wLcR wi wg we vs) := fun δ M σ H ρ R Φ Q h k => by
  obtain ⟨c, l⟩ := ρ
  refine hi δ M σ H ⟨c, l⟩ R _ _ h fun us H1 ss e1 r1 l1 n1 h1 => ?_
  obtain ⟨j, rfl, hz, I, I0, Is, Ie⟩ : ∃ j : Int, ss = [.d (.int j)] ∧ (0 ≤ j ∧ j ≤ 100000) ∧ ∃ I : Nat → List D → Prop, I 0 [] ∧ (∀ i acc, i < j.toNat → I i acc → wg (.int (i : Int)) (wipeS l vs) fun l2 => we ⟨⟨fun _ => False, c.lk⟩, l2⟩ fun d => I (i + 1) (acc ++ [d])) ∧ ∀ acc, I j.toNat acc → Φ acc := by
    split at h1
    · exact ⟨_, rfl, h1⟩
    · exact h1.elim
  obtain ⟨v, rfl, rv⟩ := paired1 r1
  have ev : v = .int j := by
    cases rv with
    | d r => cases r; rfl
  subst ev
  refine ⟨j, rfl, by omega, by omega, fun D hD => ?_⟩
  have hDH : H D = none := e1.free R.okd hD
  have ndl : δ ≠ some D := fun z => by
    obtain ⟨ns, q, _⟩ := R.okd D z
    rw [hDH] at q; cases q
  refine ⟨fun i H' => i ≤ j.toNat ∧ ∃ acc us, H' D = some (.lst us) ∧ RepL (Bn δ (D :: M)) H' us acc ∧ I i acc ∧ Ext δ H1 H' ∧ acc.length ≤ i, ⟨Nat.zero_le _, [], [], upd_same, .nil, I0, Ext.new hD, Nat.le_refl _⟩, ?_⟩
  rintro i H' ⟨hle, acc, us, hu, rl, hI, ex, hal⟩
  refine ⟨fun hge => ?_, fun hlt => ?_⟩
  · have e : i = j.toNat := by omega
    subst e
    exact k D us H' acc hDH (e1.trans ex) hu rl (Ie acc hI)
  · have RB : RE δ (D :: M) H' E0 (wipe σ vs) ⟨⟨fun _ => False, c.lk⟩, wipeS l vs⟩ := R.block hDH (e1.trans ex) hu
    refine hg E0 δ (D :: M) (wipe σ vs) H' _ _ (.int (i : Int)) _ RB (.int (i : Int)) _ _ (Is i acc hlt hI) fun σ3 l3 R3 o3 n3 h3 => ?_
    refine ⟨(wipe_off o3).trans (wipe_off (off_wipe (vs := vs) (a := σ))), ?_⟩
    refine he δ (D :: M) σ3 H' _ R3 _ _ h3 fun y H4 d e4 r4 h4 => ?_
    have hu4 := e4.1 _ _ hu ndl
    have kput : Kept (Bn δ (D :: M)) H4 (upd H4 D (.lst (us ++ [y]))) := Kept.put (.inr List.mem_cons_self)
    refine ⟨us, hu4, by rw [rl.length]; exact sz_lt (by omega), hlt, acc ++ [d], us ++ [y], upd_same, ((rl.keep e4.kept).app (.cons r4 .nil)).keep kput, h4, (ex.trans e4).mut hD, ?_⟩
    rw [List.length_append]
    exact Nat.succ_le_succ hal
theorem df_lcR (hc : HotC X) (hN : X.N.Nodup) (hgr : Gl X "range") (hmr : X.mg "range" = none) (hi : DA X E [e] ti wi) (ok : BlkOk X.N X.env.scope scope own)
    (hg : ∀ (s : Shared) (H : Hp) (C : Addr) (cl : List (Str × Addr)) (fp : List Addr), DG (blkP X s H scope (compEnvC scope cl C X.env) fp) (own.map (·.2)) tg g wg)
    (he : ∀ (s : Shared) (H : Hp) (C : Addr) (cl : List (Str × Addr)) (fp : List Addr), DE (blkP X s H scope (compEnvC scope cl C X.env) fp) E0 elt te we) (hs : ∀ x, foldedSetIterable (.Call (.Name "range" p1) [e] [] p2) X.env x = pure x := by intro _; rfl)
    (hse : starEach [e] X.env = [(false, eval e X.env)] := by rfl) :
    DF X E (.ListComp elt [⟨tg, .Call (.Name "range" p1) [e] [] p2, [], 0⟩] scope pos) (tLcR ti g te (own.map (·.2))) (wLcR wi wg we (own.map (·.2))) :=
  ⟨pe_lcR hc hN hgr hmr hi.p ok (fun s H C cl fp => (hg s H C cl fp).p) (fun s H C cl fp => (he s H C cl fp).p) hs hse,
    abs_lcR hi.a (hg X.s_0 X.H_0 X.env.locals [] []).a (he X.s_0 X.H_0 X.env.locals [] []).a⟩
end
end Dl

/-! all(list of bools), and a def of one's own, while an exception is handled. -/
namespace Dl
open PySem PySem.Spec PyProof.Rows L2 HotX L2H
theorem walks_hot {prog : Program} {w : World} {A : Around} {p : Addr × Obj} (hot : Hot1 A p) (I ax : Addr) (hne : ax ≠ I) (hp : p.1 ≠ I) (items : Array Value) :
    Walks prog w A I [I, ax, p.1] [I] items.size (fun i v => items[i]? = some v) (fun i h => h.IsListIter I ax i ∧ h.IsList ax items ∧ h.get? p.1 = some p.2) := by
  refine ⟨fun b hb => by simp at hb; simp [hb], fun _ _ _ st hk => ⟨st.1.at fun o e => hk I (by simp) o e, st.2.1.at fun o e => hk ax (by simp) o e, hk p.1 (by simp) _ st.2.2⟩, fun i s Q E hi st hQ => ?_, fun s Q E st hQ => ?_, fun _ _ _ _ st hQ => wpAny_pyIter_listiter st.1 hQ⟩
  · refine wpAny_pyNext_list_item st.1 st.2.1 (x := items[i]) (by simp [hi]) fun h' hit' hs' => ?_
    have kb : ∀ b o, b ≠ I → s.heap.get? b = some o → h'.get? b = some o := fun b o hb e => hs'.extBut b o hb e
    exact hQ _ h' s.toks (by simp [hi]) ⟨hit', st.2.1.extBut hs'.extBut hne, kb _ _ hp st.2.2⟩ fun b o hb e => kb b o (fun h => hb (by simp [h])) e
  · obtain ⟨hh, vs, h1, h2⟩ := hot
    exact list_end_hot ⟨hh, p.2, vs, st.2.2, h1, h2⟩ hp st.1 st.2.1 (by simp) fun h' he' => hQ h' s.toks fun b o hb e => he' b o (fun h => hb (by simp [h])) e
theorem cr_allH {X : Cx} (hc : HotC X) : CallR X (.builtin "all") (rAll X.K) := by
  intro pins s σ H vs us Q I r h
  obtain ⟨a, bs, rfl, hs, q⟩ := h
  obtain ⟨its, rv, hl, _⟩ := I.list hs
  obtain ⟨p, hot, hp⟩ := hc
  have P1 := (I.pin p (List.mem_append_left _ hp)).1
  have hb := rv.bls
  rw [Vals.ref1 r]
  refine call_all_walk (iter_any hl.isList fun s₂ e2 st hne => ?_)
  subst e2
  refine ⟨_, _, _, _, _, _, _, rfl, walks_hot (A := X.A.in1) hot _ a hne (Nat.ne_of_lt (Heap.lt_size P1)) its.toArray, ⟨st.1, st.2, Heap.get?_push_of_some _ P1⟩, truth_bools hb, fun h' tk hk => ⟨.bl _, H, I.kept fun b o eo => hk b o (fun hmem => ?_) (Heap.get?_push_of_some _ eo), ?_, q⟩⟩
  · rcases List.mem_cons.mp hmem with z | z
    · exact absurd (z ▸ Heap.lt_size eo) (Nat.lt_irrefl _)
    · cases z
  · show Value.bool _ = Value.bool _
    rw [← L2.all_range, hb, List.size_toArray, List.length_map]
theorem crk_allH {X : Cx} (K : PySem.W.Frag) (hc : HotC X) (hK : X.K = K := by rfl) : CallR X (.builtin "all") (rAll K) := by subst hK; exact cr_allH hc
section
variable {X : Cx} {E : XK} {k f n : Nat} {fd : FuncData} {ps : List Str} {P : List S → (D → Prop) → Prop} {x : Str} {p pos : Pos} {e : Expr} {es : List Expr} {tl : TA} {ws : WA}
theorem abs_callS0 (hn : es.length = n) (ha : AbsA E es.length tl ws) : AbsE E (tCallS (spD n P) (fun _ => E0) tl) (wCall P ws) := fun δ M σ H ρ R Φ Q h k =>
  ha δ M σ H ρ R _ _ h fun vs H1 ss e1 r1 l1 n1 h1 => by
    have R1 := R.ext e1
    exact ⟨δ, M, ss, Φ, (Paired.length r1).trans (l1.trans hn), r1, n1, R1.okM, R1.okd, h1, fun v H2 d e2 r2 h2 => k v H2 d (e1.trans e2) r2 h2⟩
theorem de_callH (F : FnH X.prog X.w X.K X.mg X.base CX0 k f fd ps (spD n P)) (hr : RoomH k X.A) (hc : HotC X) (hg : Gl X x) (hm : X.mg x = some (.ref f)) (hk : PySem.W.keepIn X.K (.ref f) = true) (hb : Binds X.K fd ps [])
    (ha : DA X E (e :: es) tl ws) (hn : (e :: es).length = n := by rfl) (hdb : (x == ("__debug__" : Str)) = false := by decide) (he : starEach (e :: es) X.env = (false, eval e X.env) :: starEach es X.env := by rfl) (hpl : (backTo pos (starEach es X.env)).any (·.1) = false := by rfl) :
    DE X E (.Call (.Name x p) (e :: es) [] pos) (tCallS (spD n P) (fun _ => E0) tl) (wCall P ws) :=
  ⟨pe_callH F hr hc hg hm hk hb (fun σ _ _ _ _ _ _ c => False.elim c) ha.p hdb he hpl, abs_callS0 hn ha.a⟩
end
section
variable {P : Program} {w : World} {K : PySem.W.Frag} {mg : Str → Option Value} {base : Heap} {x qual : Str} {st : Stmt} {f : Addr} {fd : FuncData} {N ps : List Str} {k n : Nat}
theorem fn_DH {Pd : List S → (D → Prop) → Prop} (F : Fun K x qual st f fd) (Sc : FnScope N ps (defScope st)) (hn : ps.length = n)
    (hbody : ∀ (cdv : Value) (A : Around) (outer : List PySem.Env) (s : Shared) (H : Hp) (Eo : XK) (p : Addr × Obj), Hot1 A p → RoomH k (A.deeper (envOfC qual (defScope st) s.heap.objs.size f cdv)) →
      ∃ t w', DSs ((cxH CX0 P w K mg base N qual (defScope st) f cdv A outer s H Eo p).nox) E0 (defBody st) t w' ∧ ∀ ss Φ, ss.length = n → Pd ss Φ → w' ⟨fun _ => False, fun _ => False⟩ { nx := fun _ => Φ .non, rt := Φ } (startS N.length ss)) :
    FnH P w K mg base CX0 (k + 1) f fd ps (spD n Pd) := by
  obtain ⟨oc, od, kV, doc, pm, an, cdv, ct, osl, rfl, lk, hcd⟩ := F.ex
  refine fn_ofH lk hcd Sc (fun vs H Q E h => ?_) fun A outer s H vs Q E p hot hr h => ?_
  · obtain ⟨δ, M, ss, Φ, h1, _⟩ := h
    rw [h1, hn]
  · obtain ⟨δ, M, ss, Φ, h1, h2, h3, h4, h5, h6, h7⟩ := h
    obtain ⟨t, w', hs, hw⟩ := hbody cdv A outer s H E p hot hr
    exact ⟨t, hs.p.nox, hs.a δ M H ⟨fun _ => False, fun _ => False⟩ { nx := fun _ => Φ .non, rt := Φ } _ ⟨fun σ H' l R h => h7 .non H' .non R.kd.toExt .non h, fun v H' d kd r h => h7 v H' d kd.toExt r h, fun _ _ _ _ h => h.elim, fun _ _ _ _ h => h.elim⟩ _ H _ (rs_start h2 h3 h4 h5 fun _ _ _ _ _ _ z => z.elim) (hw ss Φ (by rw [← h2.length, h1]) h6)⟩
end
end Dl

/-! try: C(..) except X as e: return .. e.f .. -/
namespace Dl
open PySem PySem.Spec PyProof.Rows L2 HotX L2H
section
variable {X : Cx} {CX : CXT} {k : Nat} {f C : Addr} {fd : FuncData} {ps : List Str} {sp : L2.Sp} {x : Str} {p pos : Pos} {e : Expr} {es : List Expr} {t : TA}
/-- C(..), what is raised is told of the slots -/
theorem run_makeS {E : XK} {pins : List (Addr × Obj)} {σ : L2.St} {H : Hp} {s : Shared} {Q : VK} {us : List Value} {vs : List V} (M : Mk X.K C f) (F : FnOk X.prog X.w X.K X.mg X.base CX k f fd ps sp) (hr : Room (k + 1) X.A) (hb : Binds X.K fd ps [])
    (hx : PassesAt CX X σ E) (I : Inv X pins σ H s) (r : Vals vs us) (h : ∀ x dx, H x = none → H dx = none → dx ≠ x → sp (.ref x :: vs) (upd (upd H dx (.own x)) x (.ins C dx [])) (fun v H2 => v = .non ∧ Q (.ref x) H2) E) :
    wpAny (model X.prog X.w) X.A (call (.ref C) us) (EP X pins σ Q) X.xe s := by
  obtain ⟨z, ez⟩ : ∃ z : Addr, z = s.heap.objs.size + 1 := ⟨_, rfl⟩
  have hq := h (s.heap.objs.size + 1) s.heap.objs.size (I.hok.fresh (Nat.le_succ _)) (I.hok.fresh (Nat.le_refl _)) (Nat.ne_of_lt (Nat.lt_succ_self _))
  have J := Inv.made (C := C) I
  have rr : Vals (V.ref (s.heap.objs.size + 1) :: vs) (Value.ref (s.heap.objs.size + 1) :: us) := .cons rfl r
  have b2 := hb _ (Value.ref (s.heap.objs.size + 1) :: us) J.kIn (by rw [List.append_nil, ← F.len _ _ _ _ hq]; exact rr.length.symm)
  rw [List.append_nil] at b2
  refine wpAny_call (make_map (f := f) I.kIn M.makes M.init (beq_iff_eq.mp M.fn) (codeAny_mono (F.run _ X.stack _ _ ⟨Value.ref (s.heap.objs.size + 1) :: us, []⟩ _ _ _ E (hr.make C us []) (J.env0.make C us []) b2 rr hq) fun r s' hq' => ?_))
  cases r with
  | error er => exact hx pins _ _ er s' J hq'
  | ok fl =>
    cases fl with
    | ret u =>
      obtain ⟨v, H', J3, rv, ev, q3⟩ := J.after hq'
      subst ev
      exact ⟨rv, ⟨V.ref (s.heap.objs.size + 1), H', J3, rfl, q3⟩⟩
    | next | brk | cont => exact False.elim hq'
def tMakeS (C : Addr) (sp : L2.Sp) (E : L2.St → XK) (t : TA) : TE := fun σ H Q => t σ H fun vs H1 => ∀ x dx, H1 x = none → H1 dx = none → dx ≠ x → sp (.ref x :: vs) (upd (upd H1 dx (.own x)) x (.ins C dx [])) (fun v H2 => v = .non ∧ Q (.ref x) H2) (E σ)
theorem pe_makeS {E : L2.St → XK} (M : Mk X.K C f) (F : FnOk X.prog X.w X.K X.mg X.base CX k f fd ps sp) (hr : Room (k + 1) X.A) (hg : Gl X x) (hm : X.mg x = some (.ref C)) (hb : Binds X.K fd ps []) (hx : ∀ σ, PassesAt CX X σ (E σ))
    (ha : PA X (e :: es) t) (hdb : (x == ("__debug__" : Str)) = false := by decide) (he : starEach (e :: es) X.env = (false, eval e X.env) :: starEach es X.env := by rfl) (hpl : (backTo pos (starEach es X.env)).any (·.1) = false := by rfl) :
    PE X (.Call (.Name x p) (e :: es) [] pos) (tMakeS C sp E t) := by
  refine ⟨fun pins s σ H Q I h => wpAny_Call_Name_kw (ld_glob I hg hm ?_ hdb)⟩
  exact PySem.W.callWith_K (h₀ := X.base) I.ok.mod.kin M.kp (thn (ha.run pos pins s σ H _ I h) fun us s1 ⟨vs, H1, I1, r, q⟩ => ⟨I1.kIn, run_makeS M F hr hb (hx σ) I1 r q⟩) he hpl
end
/-! ### what a handler knows of the exception's fields -/
def EX (dd : Addr) (fs : List (Str × V)) : XK := fun _ _ H => H dd = some (.xd fs)
theorem RE.xd {δ : Option Addr} {M : List Addr} {H : Hp} {σ : L2.St} {ρ : Env} {dd : Addr} {fs : List (Str × V)} (R : RE δ M H (EX dd fs) σ ρ) (h : ρ.c.ex ⟨.none, none⟩) : H dd = some (.xd fs) := R.ex .none none H none (Ext.refl H) rfl h
def wXf (a : Addr) (fs : List (Str × V)) (n : Str) (w : WE) : WE := fun ρ Φ => w ρ fun d => d = .raw (.ref a) ∧ ρ.c.ex ⟨.none, none⟩ ∧ match fs.lookup n with
  | some (.int i) => Φ (.int i)
  | some (.str x) => Φ (.str x)
  | _ => False
section
variable {X : Cx} {a C dd : Addr} {oe : Obj} {pn : List (Addr × Obj)} {e : Expr} {es : List Expr} {te : TE} {w : WE} {pos p : Pos} {n x : Str} {fs : List (Str × V)} {k f m : Nat} {fd : FuncData} {ps : List Str} {P : Addr → List S → (D → Prop) → Prop} {tl : TA} {ws : WA} {Zp : Addr × Obj → Prop}
theorem de_xf (T : XfC X.K C) (hno : PySem.W.findIn X.K (.ref C) n = some none) (hz : Zc (.ref C) (some dd) oe) (hf : ∃ vs, oe.data = .fields vs) (he : DE (X.suite a ((a, oe) :: pn)) (EX dd fs) e te w) (hb : attributeBase e n X.env (eval e X.env) = eval e X.env := by rfl) :
    DE (X.suite a ((a, oe) :: pn)) (EX dd fs) (.Attribute e n pos) (tXf a (.ref C) (some dd) C n te) (wXf a fs n w) := by
  refine ⟨pe_xf T hno hz hf he.p hb, fun δ M σ H ρ R Φ Q h k => ?_⟩
  refine he.a δ M σ H ρ R _ _ h fun v H1 d e1 r1 h1 => ?_
  obtain ⟨ed, hex, h2⟩ := h1
  subst ed
  have hx := (R.ext e1).xd hex
  cases r1
  split at h2
  · rename_i i hl
    exact ⟨rfl, rfl, dd, fs, _, rfl, hx, hl, k _ H1 _ e1 (.int i) h2⟩
  · rename_i y hl
    exact ⟨rfl, rfl, dd, fs, _, rfl, hx, hl, k _ H1 _ e1 (.str y) h2⟩
  · exact h2.elim
def wCallO (P : List S → (D → Prop) → Prop) (ws : WA) : WE := fun ρ Φ => ws ρ fun ss => ρ.c.ex ⟨.none, none⟩ ∧ P ss Φ
theorem de_callO (F : FnE X.prog X.w X.K X.mg X.base CX0 k f fd ps Zp fun a => spO dd m (P a)) (hr : RoomH k X.A) (hot : Hot1 X.A (a, oe)) (hz : Zp (a, oe)) (hp : (a, oe) ∈ X.pn) (hg : Gl X x) (hm : X.mg x = some (.ref f)) (hk : PySem.W.keepIn X.K (.ref f) = true) (hb : Binds X.K fd ps [])
    (ha : DA X (EX dd fs) (e :: es) tl ws) (hn : (e :: es).length = m := by rfl) (hdb : (x == ("__debug__" : Str)) = false := by decide) (he : starEach (e :: es) X.env = (false, eval e X.env) :: starEach es X.env := by rfl) (hpl : (backTo pos (starEach es X.env)).any (·.1) = false := by rfl) :
    DE X (EX dd fs) (.Call (.Name x p) (e :: es) [] pos) (tCallS (spO dd m (P a)) (fun _ => E0) tl) (wCallO (P a) ws) := by
  refine ⟨pe_callE (sp := fun a => spO dd m (P a)) F hr hot hz hp hg hm hk hb (fun σ _ _ _ _ _ _ c => False.elim c) ha.p hdb he hpl, fun δ M σ H ρ R Φ Q h kq => ?_⟩
  refine ha.a δ M σ H ρ R _ _ h fun vs H1 ss e1 r1 l1 n1 h1 => ?_
  have R1 := R.ext e1
  exact ⟨⟨fs, R1.xd h1.1⟩, δ, M, ss, Φ, (Paired.length r1).trans (l1.trans hn), r1, n1, R1.okM, R1.okd, h1.2, fun v H2 d e2 r2 h2 => kq v H2 d (e1.trans e2) r2 h2⟩
end
end Dl
namespace Dl
open PySem PySem.Spec PyProof.Rows L2 HotX L2H
def ownless : Sl → Bool
  | [] => true
  | some (.own _ _) :: _ => false
  | _ :: r => ownless r
theorem ownless_at : ∀ {l : Sl} {i : Nat} {p : Addr} {xs : List D}, ownless l = true → l[i]? ≠ some (some (.own p xs))
  | [], _, _, _, _ => fun z => by cases z
  | some (.own _ _) :: _, _, _, _, h => by cases h
  | none :: r, 0, _, _, _ => fun z => by cases z
  | some (.d _) :: r, 0, _, _, _ => fun z => by cases z
  | some .dice :: r, 0, _, _, _ => fun z => by cases z
  | none :: r, i + 1, _, _, h => fun z => ownless_at (l := r) (i := i) h (by simpa using z)
  | some (.d _) :: r, i + 1, _, _, h => fun z => ownless_at (l := r) (i := i) h (by simpa using z)
  | some .dice :: r, i + 1, _, _, h => fun z => ownless_at (l := r) (i := i) h (by simpa using z)
def wTryM (i : Nat) (aB : Addr) (PI : List S → (List Str → List D → Prop) → (XD → Prop) → Prop) (ws : WA) (wh : Addr → List (Str × V) → WE) : WS := fun c Φ l => (i < l.length ∧ ownless l = true) ∧ ws ⟨⟨fun _ => False, c.lk⟩, l⟩ fun ss => PI ss (fun _ _ => Φ.nx l) fun x =>
  ∃ (w : Str) (j k : Int), x = ⟨.ref aB, some (["step", "hand", "why"], [.int k, .int j, .str w])⟩ ∧ ∀ a, wh a (e3 w j k) ⟨⟨fun _ => True, c.lk⟩, setS l i (.d (.raw (.ref a)))⟩ Φ.rt
def tsM (aB : Addr) (te : Addr → Addr → TE) (a : Addr) (cls : Value) (d : Option Addr) : TS := fun D σ H => ∃ dd, (d = some dd ∧ cls = .ref aB) ∧ tRet (te a dd) D σ H
theorem repL3 {B : Addr → Prop} {H : Hp} {vs : List V} {w : Str} {i j : Int} (h : RepL B H vs [.int j, .int i, .str w]) : vs = [.int j, .int i, .str w] := by
  cases h with
  | cons r1 h => cases h with
    | cons r2 h => cases h with
      | cons r3 h => cases h; cases r1; cases r2; cases r3; rfl
section
variable {X : Cx} {E : XK} {i m : Nat} {C aB aGE : Addr} {PI : List S → (List Str → List D → Prop) → (XD → Prop) → Prop} {es : List Expr} {tl : TA} {ws : WA} {te : Addr → Addr → TE} {wh : Addr → List (Str × V) → WE}
theorem abs_tryM {Wout : WX} (kE : PySem.W.exmOne X.K (.ref aB) (.ref aGE) = some true) (hn : es.length = m) (ha : AbsA E0 es.length tl ws) (hh : ∀ a dd fs, AbsE (EX dd fs) (te a dd) (wh a fs)) :
    AbsS E (fun D σ H => tDrop (tMakeS C (spInit C m PI) (fun σ => L2.WE (wAs X.K (.ref aGE) i (tsM aB te) Wout D) σ) tl) D σ H) (wTryM i aB PI ws wh) := fun δ M0 H0 c Φ D ok σ H l R h => by
  obtain ⟨M, mm, nb, Re⟩ := R.ex
  obtain ⟨⟨hi, hown⟩, h⟩ := h
  refine ha δ M σ H ⟨⟨fun _ => False, c.lk⟩, l⟩ Re.calm0 _ _ h fun vs H1 ss e1 r1 l1 n1 h1 x dx hxn hdn hne => ?_
  have R1 := Re.ext e1
  have hx2 : (upd H1 dx (.own x)) x = none := by rw [upd_ne hne.symm]; exact hxn
  have e12 : Ext δ H1 (upd (upd H1 dx (.own x)) x (.ins C dx [])) := (Ext.new hdn).trans (Ext.new hx2)
  have R2 := R1.ext e12
  have xd : δ ≠ some x := fun z => by
    obtain ⟨ms, q, _⟩ := R1.okd x z
    rw [hxn] at q; cases q
  refine ⟨δ, x :: M, x, dx, vs, ss, _, _, rfl, (Paired.length r1).trans (l1.trans hn), upd_same, List.mem_cons_self, xd, paired_more hxn e12 r1 n1, n1, fun b hb => ?_, R2.okd, h1, fun H' vs' ns ds kx kd hx' hl rl hφ => ⟨rfl, ?_⟩, fun cls d H' fs e3x rx hex => ?_⟩
  · rcases List.mem_cons.mp hb with z | z
    · exact ⟨_, by rw [z]; exact upd_same⟩
    · exact R2.okM b z
  · have eA : Ext δ H H' := e1.trans ⟨fun b o q nb => kx b o (e12.1 b o q nb) fun z => z.elim nb fun z => (by rw [z, hxn] at q; cases q), fun a ha q => kd a ha (e12.2 a ha q)⟩
    exact ok.nx σ H' l (R.ext eA) hφ
  · obtain ⟨w, j, k, exd, hw⟩ := hex
    cases exd
    have eA : Ext δ H H' := e1.trans (e12.trans e3x)
    obtain ⟨dd, us, rfl, hxd, hlen, rl⟩ := rx
    obtain rfl := repL3 rl
    refine ⟨true, kE, fun _ a ha => ⟨dd, ⟨rfl, rfl⟩, ?_⟩, fun z => nomatch z⟩
    have R3 := Re.ext eA
    have nd : δ ≠ some dd := fun z => by
      obtain ⟨ms, q, _⟩ := R3.okd dd z
      rw [hxd] at q; cases q
    have Rh : RE δ M H' (EX dd (e3 w j k)) σ ⟨⟨fun _ => True, c.lk⟩, l⟩ := ⟨R3.len, R3.rep, R3.one, R3.okM, R3.okd, ⟨H', [], Ext.refl H', (fun b hb => nomatch hb), fun i p xs z => absurd z (ownless_at hown), fun _ _ H2 _ e _ _ => e.1 dd _ hxd nd⟩⟩
    refine hh a dd (e3 w j k) δ M _ H' _ (Rh.set i (.raw (.ref a))) _ _ (hw a) fun v H3 d e4 r4 h4 => ?_
    exact ok.rt v H3 d (R.kd.ext (eA.trans e4)) (r4.less (bn_less mm)) h4
end
section
variable {Pr : Program} {w : World} {K : PySem.W.Frag} {mg : Str → Option Value} {base : Heap} {N : List Str} {q : Str} {sc : Scope} {ff : Addr} {cdv : Value} {A : Around} {outer : List PySem.Env} {s : Shared} {H : Hp} {E EC : XK} {i k n : Nat} {aB aGE C f : Addr} {fd : FuncData} {ps : List Str}
  {PI : List S → (List Str → List D → Prop) → (XD → Prop) → Prop} {e er : Expr} {es : List Expr} {tl : TA} {ws : WA} {te : Addr → Addr → TE} {wh : Addr → List (Str × V) → WE} {x y nn : Str} {p p2 p3 p8 np pos pos' : Pos}
abbrev XM (Pr : Program) (w : World) (K : PySem.W.Frag) (mg : Str → Option Value) (base : Heap) (N : List Str) (q : Str) (sc : Scope) (ff : Addr) (cdv : Value) (A : Around) (outer : List PySem.Env) (s : Shared) (H : Hp) (E : XK) : Cx := (cxOf CX0 Pr w K mg base N q sc ff cdv A outer s H E).nox
theorem ds_tryM (hN : N.Nodup) (hi : N[i]? = some nn) (hln : (XM Pr w K mg base N q sc ff cdv A outer s H E).env.kindOf nn = some .local) (hc : Names (XM Pr w K mg base N q sc ff cdv A outer s H E) x (.ref aGE)) (kE : PySem.W.exmOne K (.ref aB) (.ref aGE) = some true)
    (Mm : Mk K C f) (F : FnOk Pr w K mg base (L2N.CX Pr w) k f fd ps (spInit C n PI)) (hr : Room (k + 1) (XM Pr w K mg base N q sc ff cdv A outer s H E).A) (hg : Gl (XM Pr w K mg base N q sc ff cdv A outer s H E) y) (hm : mg y = some (.ref C)) (hb : Binds K fd ps [])
    (ha : ∀ (pn : List (Addr × Obj)) (xe : Value → Shared → Prop), DA ((XM Pr w K mg base N q sc ff cdv A outer s H E).tr pn xe) E0 (e :: es) tl ws)
    (hh : ∀ (a : Addr) (oe : Obj) (dd : Addr) (fs : List (Str × V)) (pn : List (Addr × Obj)), L2N.Zn (.ref aB) (some dd) oe → Hot1 ((XM Pr w K mg base N q sc ff cdv A outer s H E).suite a ((a, oe) :: pn)).A (a, oe) → DE ((XM Pr w K mg base N q sc ff cdv A outer s H E).suite a ((a, oe) :: pn)) (EX dd fs) er (te a dd) (wh a fs))
    (hn : (e :: es).length = n := by rfl) (hdb : (y == ("__debug__" : Str)) = false := by decide)
    (he : ∀ (pn : List (Addr × Obj)) (xe : Value → Shared → Prop), starEach (e :: es) ((XM Pr w K mg base N q sc ff cdv A outer s H E).tr pn xe).env = (false, eval e ((XM Pr w K mg base N q sc ff cdv A outer s H E).tr pn xe).env) :: starEach es ((XM Pr w K mg base N q sc ff cdv A outer s H E).tr pn xe).env := by intro _ _; rfl)
    (hpl : ∀ (pn : List (Addr × Obj)) (xe : Value → Shared → Prop), (backTo p2 (starEach es ((XM Pr w K mg base N q sc ff cdv A outer s H E).tr pn xe).env)).any (·.1) = false := by intro _ _; rfl)
    (hsw : ∀ (pn : List (Addr × Obj)) (xe : Value → Shared → Prop), swapsWith (.Call (.Name y p) (e :: es) [] p2) none p3.line ((XM Pr w K mg base N q sc ff cdv A outer s H E).tr pn xe).env = pure false := by intro _ _; rfl) :
    DS (XM Pr w K mg base N q sc ff cdv A outer s H E) EC (.Try [.Expr (.Call (.Name y p) (e :: es) [] p2) p3] [.ExceptHandler (some (.Name x np)) (some nn) [.Return (some er) p8] pos'] [] [] pos)
      (fun D σ H' => tDrop (tMakeS C (spInit C n PI) (fun σ => L2.WE (wAs K (.ref aGE) i (tsM aB te) (fun _ _ _ _ => False) D) σ) tl) D σ H') (wTryM i aB PI ws wh) := by
  refine ⟨?_, abs_tryM (X := XM Pr w K mg base N q sc ff cdv A outer s H E) kE hn (ha [] (fun _ _ => True)).a fun a dd fs => (hh a { cls := .ref aB, dict := some dd, data := .fields #[.none, .none, .none], slots := #[] } dd fs [] ⟨rfl, rfl, fun vs hv => by cases hv; rfl⟩ ⟨rfl, _, rfl, rfl⟩).a⟩
  refine L2N.ps_try_as (i := i) (Wout := fun _ _ _ _ => False) (ts := tsM aB te) rfl rfl hN hi hln hc takesN0
      (fun W pn xe tk _ => pss_one (ps_expr (pe_makeS Mm F hr hg hm hb (fun σ => L2N.passAt tk σ) (ha pn xe).p hdb (he pn xe) (hpl pn xe)) (hsw pn xe)))
      (fun a oe cls d pn hz hf => ⟨fun pins s σ H D I ⟨dd, ⟨e1, e2⟩, h⟩ => ?_⟩)
  subst e1 e2
  obtain ⟨vs0, hv⟩ := hf
  exact (pss_one (ps_ret (hh a oe dd [] pn hz ⟨rfl, vs0, hv, hz.2.2 vs0 hv⟩).p)).run pins s σ H D I h
end
end Dl

/-! tuple(range(m, -1, -1)) -/
namespace Dl
open PySem PySem.Spec PyProof.Rows L2
def downV (m : Int) : List V := (List.range (m + 1).toNat).map fun (i : Nat) => V.int (m - (i : Int))
def downD (m : Int) : List D := (List.range (m + 1).toNat).map fun (i : Nat) => D.int (m - (i : Int))
theorem down_small : ∀ n : Fin 10, Builtin.Range.small ((n : Nat) : Int) (-1) (-1) = true ∧ Builtin.Range.rangeSize ((n : Nat) : Int) (-1) (-1) = (((n : Nat) : Int) + 1).toNat := by decide +kernel
theorem rep_down {B : Addr → Prop} {H : Hp} (m : Int) : ∀ n : Nat, RepL B H ((List.range n).map fun (i : Nat) => V.int (m - (i : Int))) ((List.range n).map fun (i : Nat) => D.int (m - (i : Int)))
  | 0 => .nil
  | n + 1 => by
    rw [List.range_succ, List.map_append, List.map_append]
    exact (rep_down m n).app (.cons (.int _) .nil)
section
variable {X : Cx} {E : XK} {a b c : Expr} {ta tb tc : TE} {wa wb wc : WE} {p1 p2 pos pos2 : Pos}
def tDown (ta tb tc : TE) : TE := fun σ H Q => ta σ H fun x H1 => tb σ H1 fun y H2 => tc σ H2 fun z H3 => ∃ m : Int, (x = .int m ∧ y = .int (-1) ∧ z = .int (-1)) ∧ (0 ≤ m ∧ m ≤ 9) ∧ ∀ q, H3 q = none → Q (.ref q) (upd H3 q (.tup (downV m)))
theorem pe_tupDown (hc : X.calm = true) (hg : Gl X "tuple") (hm : X.mg "tuple" = none) (hgr : Gl X "range") (hmr : X.mg "range" = none) (ha : PE X a ta) (hb : PE X b tb) (hcc : PE X c tc)
    (na : starEach [.Call (.Name "range" p1) [a, b, c] [] pos2] X.env = (false, eval (.Call (.Name "range" p1) [a, b, c] [] pos2) X.env) :: starEach [] X.env := by rfl)
    (n1 : starEach [a, b, c] X.env = (false, eval a X.env) :: starEach [b, c] X.env := by rfl) (n2 : starEach [b, c] X.env = (false, eval b X.env) :: starEach [c] X.env := by rfl) (n3 : starEach [c] X.env = (false, eval c X.env) :: starEach [] X.env := by rfl)
    (hp : (backTo pos2 (starEach [b, c] X.env)).any (·.1) = false := by rfl) (hp0 : (backTo pos (starEach [] X.env)).any (·.1) = false := by rfl) :
    PE X (.Call (.Name "tuple" p2) [.Call (.Name "range" p1) [a, b, c] [] pos2] [] pos) (tDown ta tb tc) := by
  refine ⟨fun pins s σ H Q I h => ?_⟩
  refine Call_ (ld_blt I hg hm boot_tuple (PyProof.Rows.callWith_type1 (args_cons ?_ na) na hp0))
  refine Call_ (ld_blt I hgr hmr boot_range (PyProof.Rows.callWith_type1 (args_cons (thn (ha.run pins s σ H _ I h) fun v s1 ⟨x, H1, I1, r1, q1⟩ => args_cons (thn (hb.run pins s1 σ H1 _ I1 q1) fun u s2 ⟨y, H2, I2, r2, q2⟩ => args_cons (thn (hcc.run pins s2 σ H2 _ I2 q2) fun w s3 ⟨z, H3, I3, r3, q3⟩ => args_nil ?_) n3) n2) n1) n1 hp))
  obtain ⟨m, ⟨rfl, rfl, rfl⟩, ⟨m0, m9⟩, q⟩ := q3
  obtain ⟨t1, rfl⟩ := r1
  obtain ⟨t2, rfl⟩ := r2
  obtain ⟨t3, rfl⟩ := r3
  refine call_range_3 (by decide) (args_nil ?_) (Or.inl (PyProof.noPylong_small (by omega)))
  have I4 : Inv X pins σ H3 { s3 with heap := s3.heap.push { cls := .type "range", data := .fields #[.int m t1, .int (-1) t2, .int (-1) t3] }, toks := s3.toks } := I3.kept (t' := s3.toks) fun b o e => Heap.get?_push_of_some _ e
  have sm := down_small ⟨m.toNat, by omega⟩
  have em : ((m.toNat : Nat) : Int) = m := by omega
  simp only [em] at sm
  refine call_tuple_range (n := (m + 1).toNat) (I4.ok.hd hc) (IsRange.new ..) sm.1 (by rw [sm.2]) (by omega) fun h' tk acc hk hi => ?_
  have I5 : Inv X pins σ H3 { s3 with heap := h', toks := tk } := I4.kept hk
  have hv : Vals (downV m) acc.toList := by
    have e : acc.toList.length = (m + 1).toNat := by rw [Array.length_toList]; exact hi.1
    unfold downV
    rw [← e]
    refine vals_of_get acc.toList _ fun j u hj => ?_
    obtain ⟨t, rfl⟩ := hi.2 j u (by rw [← hj, Array.getElem?_toList])
    exact ⟨t, by congr 1; omega⟩
  refine ⟨.ref h'.objs.size, upd H3 h'.objs.size (.tup (downV m)), I5.laid (t' := tk) (fun c o e => Heap.get?_push_of_some _ e) (Nat.le_refl _) (show ObjOk X.prog X.w _ _ _ (.tup (downV m)) from ⟨?_, acc.toList, hv, ?_⟩), rfl, q _ (I5.hok.fresh (Nat.le_refl _))⟩
  · unfold downV
    rw [List.length_map, List.length_range, sizeLine_eq]
    omega
  · rw [Array.toArray_toList]
    exact IsTup.new _ _
def wDown (wa wb wc : WE) : WE := fun ρ Φ => wa ρ fun x => wb ρ fun y => wc ρ fun z => ∃ m : Int, (x = .int m ∧ y = .int (-1) ∧ z = .int (-1)) ∧ (0 ≤ m ∧ m ≤ 9) ∧ Φ (.tup (downD m))
theorem de_tupDown (hc : X.calm = true) (hg : Gl X "tuple") (hm : X.mg "tuple" = none) (hgr : Gl X "range") (hmr : X.mg "range" = none) (ha : DE X E a ta wa) (hb : DE X E b tb wb) (hcc : DE X E c tc wc)
    (na : starEach [.Call (.Name "range" p1) [a, b, c] [] pos2] X.env = (false, eval (.Call (.Name "range" p1) [a, b, c] [] pos2) X.env) :: starEach [] X.env := by rfl)
    (n1 : starEach [a, b, c] X.env = (false, eval a X.env) :: starEach [b, c] X.env := by rfl) (n2 : starEach [b, c] X.env = (false, eval b X.env) :: starEach [c] X.env := by rfl) (n3 : starEach [c] X.env = (false, eval c X.env) :: starEach [] X.env := by rfl)
    (hp : (backTo pos2 (starEach [b, c] X.env)).any (·.1) = false := by rfl) (hp0 : (backTo pos (starEach [] X.env)).any (·.1) = false := by rfl) :
    DE X E (.Call (.Name "tuple" p2) [.Call (.Name "range" p1) [a, b, c] [] pos2] [] pos) (tDown ta tb tc) (wDown wa wb wc) := by
  refine ⟨pe_tupDown hc hg hm hgr hmr ha.p hb.p hcc.p na n1 n2 n3 hp hp0, fun δ M σ H ρ R Φ Q h k => ?_⟩
  refine ha.a δ M σ H ρ R _ _ h fun v1 H1 d1 e1 r1 h1 => ?_
  refine hb.a δ M σ H1 ρ (R.ext e1) _ _ h1 fun v2 H2 d2 e2 r2 h2 => ?_
  refine hcc.a δ M σ H2 ρ ((R.ext e1).ext e2) _ _ h2 fun v3 H3 d3 e3 r3 h3 => ?_
  obtain ⟨m, ⟨rfl, rfl, rfl⟩, hb, hq⟩ := h3
  cases r1
  cases r2
  cases r3
  have e := (e1.trans e2).trans e3
  refine ⟨m, ⟨rfl, rfl, rfl⟩, hb, fun q hqn => ?_⟩
  have R3 := R.ext e
  have fr := R3.fresh hqn
  exact k (.ref q) _ _ (e.trans (Ext.new hqn)) (.tup fr upd_same ((rep_down m _).keep (Kept.new hqn))) hq
end
end Dl
namespace Dl
open PySem PySem.Spec PyProof.Rows L2
/-! ### a, b = e1, e2 -/
def wPar (i j : Nat) (ws : WA) : WS := fun c Φ l => ws ⟨c, l⟩ fun ss => match ss with
  | [.d d1, .d d2] => Φ.nx (setS (setS l i (.d d1)) j (.d d2))
  | _ => False
section
variable {X : Cx} {E : XK} {i j : Nat} {x y : Str} {a b : Expr} {ta : TA} {ws : WA} {px py pt pos : Pos} {kt k2 : Nat} {pt2 : Pos}
theorem ds_par {kt k2 pt2} (hc : X.calm = true) (hN : X.N.Nodup) (hi : X.N[i]? = some x) (hj : X.N[j]? = some y) (hij : i ≠ j) (hx : X.env.scope.names.lookup x = some .local) (hy : X.env.scope.names.lookup y = some .local) (ha : DA X E [a, b] ta ws)
    (hw : swappedStores [.Tuple [.Name x px, .Name y py] kt pt] (.Tuple [a, b] k2 pt2) X.env = pure (some [x, y]) := by rfl)
    (hs : swapsWithSole [.Tuple [.Name x px, .Name y py] kt pt] (.Tuple [a, b] k2 pt2) pos.line X.env = pure false := by rfl) :
    DS X E (.Assign [.Tuple [.Name x px, .Name y py] kt pt] (.Tuple [a, b] k2 pt2) pos) (tPar i j ta) (wPar i j ws) := by
  refine ⟨ps_par hc hN hi hj hij hx hy ha.p hw hs, fun δ M0 H0 c Φ D ok σ H l R h => ?_⟩
  obtain ⟨M, m, n, Re⟩ := R.ex
  refine ha.a δ M σ H ⟨c, l⟩ Re _ _ h fun vs H1 ss e1 r1 l1 n1 h1 => ?_
  obtain ⟨d1, d2, rfl, h2⟩ : ∃ d1 d2, ss = [.d d1, .d d2] ∧ Φ.nx (setS (setS l i (.d d1)) j (.d d2)) := by
    split at h1
    · exact ⟨_, _, rfl, h1⟩
    · exact h1.elim
  cases r1 with
  | cons r1 r2 => cases r2 with
    | cons r2 r3 =>
      cases r3
      cases r1 with
      | d r1 => cases r2 with
        | d r2 =>
          have R1 := R.ext e1
          have Q1 := (Re.ext e1).set i r1
          have Q2 := Q1.set j r2
          refine ⟨_, _, rfl, ok.nx _ H1 _ ⟨⟨M, m, n, Q2⟩, R1.kd, R1.d0, fun k p xs q => R1.wr k p xs ?_, R1.wm, R1.m0⟩ h2⟩
          exact noNew_put i d1 k p xs (noNew_put j d2 k p xs q)
end
end Dl
namespace Dl
open PySem PySem.Spec PyProof.Rows L2
/-! ### t * 0 -/
theorem tuple_mulZ (l : Addr) (items : Array Value) (n : Nat) (dd : Option Addr) (sl : Array (Option Value)) (u : Tok) (hne : items.isEmpty = false) :
    Meets (Builtin.«tuple.__mul__» ⟨[.ref l, .int 0 u], []⟩) (fun _ R s => s.heap.get? l = some { cls := .type "tuple", dict := dd, data := .seq items n, slots := sl } ∧ R (.ok (.ret (Value.ref s.heap.objs.size))) { s with heap := s.heap.push { cls := Value.type "tuple", data := Data.seq #[] }, toks := s.toks }) :=
  .of_wp fun prog w A R s h => by
    obtain ⟨hp, g, d, tk, os⟩ := s
    obtain ⟨hl, h⟩ := h
    have f1 := AutoSeq1.idx_int
    wp_walk using wpAny_loadPart' hl
    repeat (first
      | (refine wpAny_ite_false (by decide) ?_; wp_walk using wpAny_loadPart' hl)
      | (refine wpAny_ite_false (by simp [hne]) ?_; wp_walk using wpAny_loadPart' hl)
      | (refine wpAny_ite_true (by simp) ?_; wp_walk using wpAny_loadPart' hl))
    exact ⟨_, rfl, h⟩
def rRepZ (K : PySem.W.Frag) : R2 := fun x y H Q => ∃ l xs, x = .ref l ∧ y = .int 0 ∧ SqT K H l xs ∧ xs ≠ [] ∧ ∀ p, H p = none → Q (.ref p) (upd H p (.tup []))
theorem op_repZ {X : Cx} : OpR X (binaryOp .Mult) (rRepZ X.K) := by
  intro pins s σ H x y v u Q I rx ry h
  obtain ⟨l, xs, rfl, rfl, hT, hx, q⟩ := h
  cases rx
  obtain ⟨t, rfl⟩ := ry
  obtain ⟨its, r, ⟨⟨cls, dd, data, sl⟩, ho, hc, n, hd⟩, hs⟩ := I.tuple hT
  simp only at hc hd
  subst hc hd
  have hi : its.toArray.isEmpty = false := by
    cases r with
    | nil => exact absurd rfl hx
    | cons a b => rfl
  refine wpAny_binaryOp_repeat_ref (T := "tuple") (U := "int") (by decide) ⟨_, ho, rfl⟩ (fun s' => typeIs_int s' 0 t) noFill_tuple_mul PySem.F.fills_int_mul PySem.F.slot_int_rmul repeat_tuple PySem.F.slot_int_index.lookup
    (call_meets PySem.F.slot_int_rmul (typeIs_int s 0 t) PySem.F.entry_int_rmul (PySem.F.args_int_rmul_2 _ _) (int_rmul_tuple 0 t l its.toArray n dd sl)
      ⟨ho, rfl, ⟨_, ho, rfl⟩, call_meets PySem.F.slot_tuple_mul ⟨_, ho, rfl⟩ PySem.F.entry_tuple_mul (PySem.F.args_tuple_mul_2 _ _) (tuple_mulZ l its.toArray n dd sl t hi) ⟨ho, ?_⟩⟩)
  have hf : H s.heap.objs.size = none := I.hok.fresh (Nat.le_refl _)
  exact ⟨.ref s.heap.objs.size, upd H s.heap.objs.size (.tup []), I.laid (t' := s.toks) (fun b u e => Heap.get?_push_of_some _ e) (Nat.le_refl _) ⟨Nat.zero_le _, [], .nil, ⟨_, Heap.get?_push_size _ rfl, rfl, _, rfl⟩⟩, rfl, q _ hf⟩
end Dl
namespace Dl
open PySem PySem.Spec PyProof.Rows L2
def rMulZ (K : PySem.W.Frag) : R2 := fun x y H Q => rMulU K x y H Q ∨ rRepZ K x y H Q
def wMulZ : WR := fun d f Φ => match d, f with
  | .tup xs, .int k => (xs ≠ [] ∧ 0 ≤ k ∧ k ≤ 1000 ∧ xs.length ≤ 1000) ∧ Φ (.tup (List.replicate k.toNat xs).flatten)
  | _, _ => False
theorem opk_mulZ {X : Cx} (K : PySem.W.Frag) (hK : X.K = K := by rfl) : OpR X (binaryOp .Mult) (rMulZ K) := by subst hK; exact op_mulU.or op_repZ
theorem ar_mulZ {K : PySem.W.Frag} : AbsR (rMulZ K) wMulZ := by
  intro δ M H fr x y d f rx ry Φ Q h k
  unfold wMulZ at h
  split at h
  · rename_i xs j
    obtain ⟨⟨h1, h2, h3, h4⟩, hΦ⟩ := h
    by_cases hj : j = 0
    · subst hj
      cases rx
      cases ry
      rename_i a vs n s r
      refine .inr ⟨_, _, rfl, rfl, SqT.of s, fun z => h1 ?_, fun p hp => k _ _ _ (Ext.new hp) (.tup (fr p hp) upd_same .nil) hΦ⟩
      subst z
      cases r
      rfl
    · exact .inl (ar_mulU δ M H fr x y _ _ rx ry Φ Q ⟨⟨h1, by omega, h3, h4⟩, hΦ⟩ k)
  · exact h.elim
end Dl

/-! What the law draws of faults (over the smaller gates of k01: OkGate of DlGate1). -/
namespace Gh
open PySem L2 Dl
theorem okStpB_mono {bs : List Box} {m m' : Int} {s : Stp} (hm : m ≤ m') (h : okStpB bs m s = true) : okStpB bs m' s = true := by
  cases s with
  | put b n => exact h
  | inn => rfl
  | go b ns a =>
    rw [okStpB_go] at h ⊢
    obtain ⟨h1, h2⟩ := Bool.and_eq_true_iff.mp h
    have h3 := of_decide_eq_true h2
    rw [h1, Bool.true_and]
    exact decide_eq_true ⟨h3.1, by omega⟩
theorem inns_of {l : List Stp} {i : Nat} (h1 : l[i]? = some .inn) (h2 : ∀ j, l[j]? = some .inn → j = i) : inns l = [i] := by
  have hi : i < l.length := (List.getElem?_eq_some_iff.mp h1).1
  have key : ∀ n, (List.range n).filter (inB l) = if i < n then [i] else [] := by
    intro n
    induction n with
    | zero => rfl
    | succ n ih =>
      rw [List.range_succ, List.filter_append, ih]
      by_cases hn : n = i
      · subst hn
        have e : inB l n = true := decide_eq_true h1
        simp [e]
      · have e : inB l n = false := decide_eq_false fun z => hn (h2 n z)
        by_cases hl : i < n
        · rw [if_pos hl, if_pos (by omega)]
          simp [e]
        · rw [if_neg hl, if_neg (by omega)]
          simp [e]
  unfold inns
  rw [key, if_pos hi]
theorem progB_ok {bs : List Box} {i : Int} {l : List Stp} (h2 : 2 ≤ l.length) (h24 : l.length ≤ 24) (h : ∀ s ∈ l, okStpB bs l.length s = true) : progB bs i l = none := by
  unfold progB
  rw [if_pos ⟨h2, h24⟩]
  exact firstB_none fun j y hy => by
    unfold stepB
    rw [h y (List.mem_of_getElem? hy)]
    rfl
theorem handB_ok {bs : List Box} {n : Nat} {h : Hand} (ok : OkHand bs h) : handB bs n h = none := by
  have e1 : progB bs n h.2 = none := progB_ok ok.len2 (Nat.le_trans ok.len24 (by decide)) fun s hs => okStpB_of (ok.ok s hs)
  obtain ⟨a1, a2, a3, a4, a5⟩ := inAt_ok ok
  unfold handB knockB
  rw [e1, inns_of a1 a3]
  show (if inAt h = 0 then some (("in" : Str), (n : Int), (0 : Int)) else if 1 ≤ h.1 ∧ h.1 ≤ (inAt h : Int) then none else some (("knock" : Str), (n : Int), (0 : Int))) = none
  rw [if_neg (by omega), if_pos ⟨a4, a5⟩]
theorem boxesB_ok {bs : List Box} (ok : OkBoxes bs) : boxesB bs = none := by
  obtain ⟨h1, h2, h3⟩ := ok
  unfold boxesB
  rw [if_pos ⟨h1, by omega⟩]
  exact firstB_none fun i y hy => by
    unfold boxB
    have h4 : 0 ≤ y.1 ∧ y.1 ≤ y.2 ∧ y.2 ≤ 9 := h3 y (List.mem_of_getElem? hy)
    rw [if_pos h4]
theorem step_at {bs : List Box} {l : List Stp} {i : Int} {k : Nat} {s : Stp} (h2 : 2 ≤ l.length) (h24 : l.length ≤ 24) (hk : l[k]? = some s) (hb : okStpB bs l.length s = false) (h : ∀ j y, j < k → l[j]? = some y → okStpB bs l.length y = true) : progB bs i l = some (("step" : Str), i, (k : Int)) := by
  unfold progB
  rw [if_pos ⟨h2, h24⟩]
  refine firstB_at (k := k) (x := s) (fun j y hj hy => ?_) hk ?_
  · unfold stepB
    rw [h j y hj hy]
    rfl
  · unfold stepB
    rw [hb, Nat.zero_add]
    rfl
theorem gate_hand {g : Gt} {hs : List Hand} {bad : Hand} {i : Nat} {w : Str} {j : Int} (hb : OkBoxes g.bs) (h1 : 1 ≤ hs.length) (h4 : hs.length ≤ 4) (hi : hs[i]? = some bad) (hbad : handB g.bs i bad = some (w, (i : Int), j)) (hok : ∀ k y, k < i → hs[k]? = some y → OkHand g.bs y) : gateB ⟨g.bs, hs⟩ = some (w, (i : Int), j) := by
  unfold gateB handsB
  rw [boxesB_ok hb]
  show (if 1 ≤ hs.length ∧ hs.length ≤ 4 then firstB (handB g.bs) 0 hs else some (("hands" : Str), (0 : Int), (0 : Int))) = _
  rw [if_pos ⟨h1, h4⟩]
  exact firstB_at (k := i) (fun k y hk hy => handB_ok (hok k y hk hy)) hi (by rw [Nat.zero_add]; exact hbad)
def P_wrong_step (ss : List S) (Φ : D → Prop) : Prop := ∃ (g : Gt) (i lo : Nat) (h : Hand), ss = [.dice, .d (dGate g), .d (.int i), .d (.int lo)] ∧ OkGate g ∧ g.hs[i]? = some h ∧ lo ≤ 1 ∧ ∀ s : Stp, okStpB g.bs ((h.2.length : Int) + lo) s = false → Φ (dStp s)
def P_wrong_hand (ss : List S) (Φ : D → Prop) : Prop := ∃ (g : Gt) (i : Nat) (h : Hand), ss = [.dice, .d (dGate g), .d (.int i)] ∧ OkGate g ∧ g.hs[i]? = some h ∧ ∀ (z : Hand) (w : Str) (j : Int), z.2.length ≤ 90 → handB g.bs i z = some (w, (i : Int), j) → Φ (.tup [dHand z, .str w, .int j])
def P_wrong (ss : List S) (Φ : D → Prop) : Prop := ∃ g : Gt, ss = [.dice, .d (dGate g)] ∧ OkGate g ∧ ∀ (z : Gt) (b : Bd), z.bs.length ≤ 20 → z.hs.length ≤ 50 → (∀ h ∈ z.hs, h.2.length ≤ 90) → gateB z = some b → Φ (.tup [dBoxes z.bs, .lst (z.hs.map dHand), .str b.1, .int b.2.1, .int b.2.2])
end Gh
namespace Gh
open PySem L2 Dl
theorem bad_put {bs : List Box} {m b n : Int} (h : ∀ x, 0 ≤ b → bs[b.toNat]? = some x → ¬ (0 ≤ n ∧ n ≤ x.2)) : okStpB bs m (.put b n) = false := by
  unfold okStpB
  cases e : bs[b.toNat]? with
  | none => simp [e]
  | some x => simp only [e]; exact decide_eq_false fun z => h x z.1 e ⟨z.2.1, z.2.2⟩
theorem bad_go {bs : List Box} {m b a : Int} {ns : List Int} (h : ∀ x, 0 ≤ b → bs[b.toNat]? = some x → ¬ (ns.Pairwise (· < ·) ∧ (∀ n ∈ ns, 0 ≤ n ∧ n ≤ x.2) ∧ 1 ≤ a ∧ a < m)) : okStpB bs m (.go b ns a) = false := by
  unfold okStpB
  cases e : bs[b.toNat]? with
  | none => simp [e]
  | some x => simp only [e]; exact decide_eq_false fun z => h x z.1 e z.2
def downI (m : Int) : List Int := (List.range (m + 1).toNat).map fun (i : Nat) => m - (i : Int)
theorem downI_D (m : Int) : downD m = (downI m).map .int := by unfold downD downI; rw [List.map_map]; rfl
def upI (n : Nat) : List Int := (List.range n).map fun (i : Nat) => 0 + (i : Int)
theorem upI_D (n : Nat) : rangeD 0 n = (upI n).map .int := by unfold rangeD upI; rw [List.map_map]; rfl
theorem up_mem {n i : Nat} (h : i < n) : (i : Int) ∈ upI n := List.mem_map.mpr ⟨i, List.mem_range.mpr h, by omega⟩
theorem down_bad {m : Int} (h0 : 0 ≤ m) : ¬ (downI m ++ (if m = 0 then [0] else [])).Pairwise (· < ·) := by
  by_cases h : m = 0
  · subst h
    decide
  · rw [if_neg h, List.append_nil]
    intro z
    have e : (m + 1).toNat = (m.toNat - 1) + 2 := by omega
    have e2 : downI m = [m, m - 1] ++ (List.range (m.toNat - 1)).map fun (i : Nat) => m - ((i + 2 : Nat) : Int) := by
      unfold downI
      rw [e, List.range_succ_eq_map, List.range_succ_eq_map]
      simp [List.map_map, Function.comp_def]
      intro a _
      omega
    rw [e2] at z
    have := (List.pairwise_append.mp z).1
    have := List.rel_of_pairwise_cons this (List.mem_singleton.mpr rfl)
    omega
end Gh
namespace Gh
open PySem L2 Dl
theorem inns_none {l : List Stp} (h : ∀ j : Nat, l[j]? ≠ some Stp.inn) : inns l = [] := by
  unfold inns
  refine List.filter_eq_nil_iff.mpr fun j _ z => ?_
  exact h j (of_decide_eq_true z)
theorem inns_snoc {l : List Stp} {i : Nat} (h : inns l = [i]) : inns (l ++ [.inn]) = [i, l.length] := by
  unfold inns at h ⊢
  rw [List.length_append, List.length_singleton, List.range_succ, List.filter_append]
  have e1 : (List.range l.length).filter (inB (l ++ [.inn])) = (List.range l.length).filter (inB l) := by
    refine List.filter_congr fun j hj => ?_
    have hj2 := List.mem_range.mp hj
    unfold inB
    rw [List.getElem?_append_left hj2]
  have e2 : inB (l ++ [.inn]) l.length = true := by
    refine decide_eq_true ?_
    rw [List.getElem?_append_right (Nat.le_refl _), Nat.sub_self]
    rfl
  rw [e1, h]
  simp [e2]
theorem cut_all {α : Type} {xs : List α} {a : Int} (h : (xs.length : Int) ≤ a) : cutG xs none (some a) = xs := by
  show (xs.drop 0).take ((if a < 0 then (a + (xs.length : Int)).toNat else min a.toNat xs.length) - 0) = _
  rw [if_neg (by omega), Nat.sub_zero, List.drop_zero, Nat.min_eq_right (by omega), List.take_length]
theorem put00 {bs : List Box} {m : Int} (ob : OkBoxes bs) : okStpB bs m (.put 0 0) = true := by
  obtain ⟨b0, eb⟩ : ∃ b0, bs[0]? = some b0 := ⟨_, List.getElem?_eq_getElem (by have := ob.1; omega)⟩
  obtain ⟨o1, o2, o3⟩ := ob.2.2 b0 (List.mem_of_getElem? eb)
  refine okStpB_of ⟨b0, by decide, eb, by decide, by omega⟩
theorem handB_prog {bs : List Box} {n : Nat} {z : Hand} {b : Bd} (h : progB bs n z.2 = some b) : handB bs n z = some b := by unfold handB; rw [h]
theorem handB_knock {bs : List Box} {n : Nat} {z : Hand} {b : Bd} (h : progB bs n z.2 = none) (hk : knockB n z.1 z.2 = some b) : handB bs n z = some b := by unfold handB; rw [h]; exact hk
theorem steps_bad {bs : List Box} {n : Nat} {z : Hand} (h : ¬ (2 ≤ z.2.length ∧ z.2.length ≤ 24)) : handB bs n z = some (("steps" : Str), (n : Int), (0 : Int)) := handB_prog (by unfold progB; rw [if_neg h])
theorem knock_in {n : Int} {k : Int} {l : List Stp} (h : ∀ i, inns l ≠ [i + 1]) : knockB n k l = some (("in" : Str), n, (0 : Int)) := by
  unfold knockB
  cases q : inns l with
  | nil => rfl
  | cons a r =>
    cases r with
    | cons b r => rfl
    | nil =>
      cases a with
      | zero => rfl
      | succ a => exact absurd q (h a)
theorem knock_bad {n : Int} {k : Int} {l : List Stp} {i : Nat} (h : inns l = [i]) (hi : 0 < i) (hk : ¬ (1 ≤ k ∧ k ≤ (i : Int))) : knockB n k l = some (("knock" : Str), n, (0 : Int)) := by
  unfold knockB
  rw [h]
  show (if i = 0 then some (("in" : Str), n, (0 : Int)) else if 1 ≤ k ∧ k ≤ (i : Int) then none else some (("knock" : Str), n, (0 : Int))) = _
  rw [if_neg (by omega), if_neg hk]
end Gh

/-! New lists: what is told holds no list that stood before. -/
namespace Dl
open PySem PySem.Spec PyProof.Rows L2
/-- a list stands here -/
abbrev LB (H : Hp) : Addr → Prop := fun b => ∃ xs, H b = some (.lst xs)
section
variable {δ : Option Addr} {M : List Addr} {H H1 H' H2 : Hp}
theorem lb_ext (e : Ext δ H H1) (hd : ∀ a, δ = some a → DiceAt H a) : ∀ b, LB H b → LB H1 b := fun b ⟨xs, h⟩ => by
  by_cases q : δ = some b
  · obtain ⟨ns, z, _⟩ := e.2 b q (hd b q)
    exact ⟨_, z⟩
  · exact ⟨xs, e.1 b _ h q⟩
theorem lb_dice (hd : ∀ a, δ = some a → DiceAt H a) : ∀ a, δ = some a → LB H a := fun a h => let ⟨ns, z, _⟩ := hd a h; ⟨_, z⟩
theorem Rep.lbKeep {v : V} {d : D} (r : Rep (LB H) H1 v d) (e : Ext δ H1 H2) (hd : ∀ a, δ = some a → DiceAt H a) : Rep (LB H) H2 v d := r.keep (e.1.wide fun a h => lb_dice hd a h)
theorem RepL.lbKeep {v : List V} {d : List D} (r : RepL (LB H) H1 v d) (e : Ext δ H1 H2) (hd : ∀ a, δ = some a → DiceAt H a) : RepL (LB H) H2 v d := r.keep (e.1.wide fun a h => lb_dice hd a h)
theorem Rep.lbBack {v : V} {d : D} (r : Rep (LB H1) H2 v d) (e : Ext δ H H1) (hd : ∀ a, δ = some a → DiceAt H a) : Rep (LB H) H2 v d := r.less fun b z => .inl (lb_ext e hd b z)
theorem RepL.lbBack {v : List V} {d : List D} (r : RepL (LB H1) H2 v d) (e : Ext δ H H1) (hd : ∀ a, δ = some a → DiceAt H a) : RepL (LB H) H2 v d := r.less fun b z => .inl (lb_ext e hd b z)
end
/-! data that hold no list -/
mutual
def D.flat : D → Bool
  | .lst _ => false
  | .tup xs => D.flats xs
  | .obj _ _ xs => D.flats xs
  | _ => true
def D.flats : List D → Bool
  | [] => true
  | x :: r => x.flat && D.flats r
end
section
variable {B B' : Addr → Prop} {H H' : Hp}
mutual
theorem Rep.flat (k : ∀ b o, H b = some o → (∀ xs, o ≠ .lst xs) → H' b = some o ∧ ¬ B' b) : ∀ {v : V} {d : D}, Rep B H v d → d.flat = true → Rep B' H' v d
  | _, _, .non, _ => .non
  | _, _, .bl b, _ => .bl b
  | _, _, .int i, _ => .int i
  | _, _, .str x, _ => .str x
  | _, _, .lst .., h => by simp [D.flat] at h
  | _, _, .tup n s r, h => .tup (k _ _ s fun _ z => nomatch z).2 (k _ _ s fun _ z => nomatch z).1 (RepL.flat k r (by simpa [D.flat] using h))
  | _, _, .obj n s l r, h => .obj (k _ _ s fun _ z => nomatch z).2 (k _ _ s fun _ z => nomatch z).1 l (RepL.flat k r (by simpa [D.flat] using h))
  | _, _, .raw v, _ => .raw v
theorem RepL.flat (k : ∀ b o, H b = some o → (∀ xs, o ≠ .lst xs) → H' b = some o ∧ ¬ B' b) : ∀ {vs : List V} {ds : List D}, RepL B H vs ds → D.flats ds = true → RepL B' H' vs ds
  | _, _, .nil, _ => .nil
  | _ :: _, d :: ds, .cons r t, h => by
    have h' : d.flat = true ∧ D.flats ds = true := by simpa [D.flats] using h
    exact .cons (Rep.flat k r h'.1) (RepL.flat k t h'.2)
end
end
section
variable {δ : Option Addr} {M : List Addr} {H H1 : Hp}
theorem flat_lb (e : Ext δ H H1) (hd : ∀ a, δ = some a → DiceAt H a) : ∀ b o, H1 b = some o → (∀ xs, o ≠ .lst xs) → H1 b = some o ∧ ¬ LB H b := fun b o h n => ⟨h, fun z => by
  obtain ⟨ys, q⟩ := lb_ext e hd b z
  rw [h] at q
  exact n ys (Option.some.inj q)⟩
end
section
variable (E : XK)
def AbsN (t : TE) (w : WE) : Prop := ∀ (δ : Option Addr) (M : List Addr) (σ : L2.St) (H : Hp) (ρ : Env), RE δ M H E σ ρ → ∀ (Φ : D → Prop) (Q : VK), w ρ Φ →
  (∀ v H' d, Ext δ H H' → Rep (Bn δ M) H' v d → Rep (LB H) H' v d → Φ d → Q v H') → t σ H Q
def AbsFN (t : TE) (w : Env → (List D → Prop) → Prop) : Prop := ∀ (δ : Option Addr) (M : List Addr) (σ : L2.St) (H : Hp) (ρ : Env), RE δ M H E σ ρ → ∀ (Φ : List D → Prop) (Q : VK), w ρ Φ →
  (∀ p vs H' ds, H p = none → Ext δ H H' → H' p = some (.lst vs) → RepL (Bn δ (p :: M)) H' vs ds → RepL (LB H) H' vs ds → Φ ds → Q (.ref p) H') → t σ H Q
variable (X : Cx)
structure DN (e : Expr) (t : TE) (w : WE) : Prop where
  p : PE X e t
  a : AbsN E t w
structure DFN (e : Expr) (t : TE) (w : Env → (List D → Prop) → Prop) : Prop where
  p : PE X e t
  a : AbsFN E t w
end
def wFl (w : WE) : WE := fun ρ Φ => w ρ fun d => d.flat = true ∧ Φ d
def wFls (w : Env → (List D → Prop) → Prop) : Env → (List D → Prop) → Prop := fun ρ Φ => w ρ fun d => D.flats d = true ∧ Φ d
def wN2 (wa wb : WE) : WE := fun ρ Φ => wa ρ fun x => wb ρ fun y => Φ (.tup [x, y])
def wL2 (wa wb : WE) : Env → (List D → Prop) → Prop := fun ρ Φ => wa ρ fun x => wb ρ fun y => Φ [x, y]
section
variable {X : Cx} {E : XK} {e e2 : Expr} {te te2 : TE} {w w' : WE} {wf : Env → (List D → Prop) → Prop} {pos : Pos}
theorem DE.dn (h : DE X E e te w) : DN E X e te (wFl w) := ⟨h.p, fun δ M σ H ρ R Φ Q hw k => h.a δ M σ H ρ R _ _ hw fun v H1 d e1 r1 h1 => k v H1 d e1 r1 (r1.flat (flat_lb e1 R.okd) h1.1) h1.2⟩
theorem DF.dfn (h : DF X E e te wf) : DFN E X e te (wFls wf) := ⟨h.p, fun δ M σ H ρ R Φ Q hw k => h.a δ M σ H ρ R _ _ hw fun p vs H1 ds f e1 q r1 h1 => k p vs H1 ds f e1 q r1 (r1.flat (flat_lb e1 R.okd) h1.1) h1.2⟩
theorem DFN.dn (h : DFN E X e te wf) : DN E X e te (wNew wf) := ⟨h.p, fun δ M σ H ρ R Φ Q hw k => h.a δ M σ H ρ R _ _ hw fun p vs H1 ds f e1 q r1 n1 h1 => k _ H1 _ e1 (.lst (R.fresh f) q (r1.less bn_tail)) (.lst (fun ⟨xs, z⟩ => by rw [f] at z; cases z) q n1) h1⟩
theorem dn_tup2 {x1} (ha : DN E X e te w) (hb : DN E X e2 te2 w') (h1s : starEach [e2] X.env = (false, eval e2 X.env) :: starEach [] X.env := by rfl) (h2s : starEach [e, e2] X.env = (false, eval e X.env) :: starEach [e2] X.env := by rfl) : DN E X (.Tuple [e, e2] x1 pos) (tTup (tCons te (tCons te2 tNil))) (wN2 w w') := by
  refine ⟨pe_tup (pa_cons ha.p (pa_cons hb.p pa_nil h1s) h2s), fun δ M σ H ρ R Φ Q h k => ?_⟩
  refine ha.a δ M σ H ρ R _ _ h fun v H1 x e1 r1 n1 h1 => ?_
  refine hb.a δ M σ H1 ρ (R.ext e1) _ _ h1 fun u H2 y e2 r2 n2 h2 => ?_
  refine ⟨sz_of (by show 2 ≤ 100000; omega), fun p hp => ?_⟩
  have e12 := e1.trans e2
  have e3 : Ext δ H2 (upd H2 p (.tup [v, u])) := Ext.new hp
  have hp0 : H p = none := e12.free R.okd hp
  refine k _ _ _ (e12.trans e3) (.tup (R.fresh hp0) upd_same (.cons (r1.keep (e2.trans e3).kept) (.cons (r2.keep e3.kept) .nil))) (.tup (fun ⟨xs, z⟩ => by rw [hp0] at z; cases z) upd_same (.cons (n1.lbKeep (e2.trans e3) R.okd) (.cons ((n2.lbBack e1 R.okd).lbKeep e3 R.okd) .nil))) h2
theorem dfn_lst2 (ha : DN E X e te w) (hb : DN E X e2 te2 w') (h1s : starEach [e2] X.env = (false, eval e2 X.env) :: starEach [] X.env := by rfl) (h2s : starEach [e, e2] X.env = (false, eval e X.env) :: starEach [e2] X.env := by rfl) : DFN E X (.List [e, e2] pos) (tLst (tCons te (tCons te2 tNil))) (wL2 w w') := by
  refine ⟨pe_lst (pa_cons ha.p (pa_cons hb.p pa_nil h1s) h2s), fun δ M σ H ρ R Φ Q h k => ?_⟩
  refine ha.a δ M σ H ρ R _ _ h fun v H1 x e1 r1 n1 h1 => ?_
  refine hb.a δ M σ H1 ρ (R.ext e1) _ _ h1 fun u H2 y e2 r2 n2 h2 => ?_
  refine ⟨sz_of (by show 2 ≤ 100000; omega), fun p hp => ?_⟩
  have e12 := e1.trans e2
  have e3 : Ext δ H2 (upd H2 p (.lst [v, u])) := Ext.new hp
  have hp0 : H p = none := e12.free R.okd hp
  exact k p _ _ _ hp0 (e12.trans e3) upd_same ((RepL.less (bn_cons hp) (.cons (r1.keep e2.kept) (.cons r2 .nil))).keep e3.kept) (.cons (n1.lbKeep (e2.trans e3) R.okd) (.cons ((n2.lbBack e1 R.okd).lbKeep e3 R.okd) .nil)) h2
end
theorem zip_inj {α β : Type} : ∀ {l : List α} {a b : List β}, l.length = a.length → l.length = b.length → l.zip a = l.zip b → a = b
  | [], [], [], _, _, _ => rfl
  | _ :: _, x :: a, y :: b, h1, h2, h => by
    injection h with h3 h4
    injection h3 with _ h5
    rw [h5, zip_inj (Nat.succ.inj h1) (Nat.succ.inj h2) h4]
section
variable {B1 B2 B3 : Addr → Prop} {H : Hp}
mutual
theorem both1 (k : ∀ b, B3 b → B1 b ∨ B2 b) : ∀ {v : V} {d : D}, Rep B1 H v d → Rep B2 H v d → Rep B3 H v d
  | _, _, .non, _ => .non
  | _, _, .bl b, _ => .bl b
  | _, _, .int i, _ => .int i
  | _, _, .str x, _ => .str x
  | _, _, .lst n s r, q => match q with
    | .lst n' s' r' => .lst (fun z => (k _ z).elim n n') s (both k r (by
      rw [s] at s'
      cases s'
      exact r'))
  | _, _, .tup n s r, q => match q with
    | .tup n' s' r' => .tup (fun z => (k _ z).elim n n') s (both k r (by
      rw [s] at s'
      cases s'
      exact r'))
  | _, _, .obj n s l r, q => match q with
    | .obj n' s' l' r' => .obj (fun z => (k _ z).elim n n') s l (both k r (by
      rw [s] at s'
      have s2 := Option.some.inj s'
      injection s2 with _ _ s3
      have := zip_inj l l' s3
      rw [this]
      exact r'))
  | _, _, .raw v, _ => .raw v
theorem both (k : ∀ b, B3 b → B1 b ∨ B2 b) : ∀ {vs : List V} {ds : List D}, RepL B1 H vs ds → RepL B2 H vs ds → RepL B3 H vs ds
  | _, _, .nil, _ => .nil
  | _, _, .cons r t, q => match q with
    | .cons r' t' => .cons (both1 k r r') (both k t t')
end
end
theorem abs_lcN {E : XK} {wi : TI} {ww : WI} {g : TG} {wg : WG} {te : TE} {we : WE} {tt : TT} {wt : WT} {vs : List Nat} (hi : AbsI E wi ww) (hg : AbsG vs g wg) (ht : AbsT E0 tt wt) (he : AbsN E0 te we) : AbsFN E (tLc wi g tt te vs) (wLc ww wg wt we vs) := fun δ M σ H ρ R Φ Q h k => by
  obtain ⟨c, l⟩ := ρ
  refine hi δ M σ H ⟨c, l⟩ R _ _ h fun J H1 xs e1 io h1 D hD => ?_
  obtain ⟨hz, I, I0, Is, Ie⟩ := h1
  have hDH : H D = none := e1.free R.okd hD
  have ndl : δ ≠ some D := fun z => by
    obtain ⟨ns, q, _⟩ := R.okd D z
    rw [hDH] at q; cases q
  have hB : ∀ b, Bn δ (D :: M) b → Bn δ M b ∨ H1 b = none := bn_cons hD
  refine ⟨fun i m H' => m = xs.length - i ∧ i ≤ xs.length ∧ ∃ acc us, H' D = some (.lst us) ∧ RepL (Bn δ (D :: M)) H' us acc ∧ I i acc ∧ Ext δ H1 H' ∧ acc.length ≤ i ∧ RepL (LB H) H' us acc, ⟨xs.length, by simp, Nat.zero_le _, [], [], upd_same, .nil, I0, Ext.new hD, Nat.le_refl _, .nil⟩, ?_⟩
  rintro i m H' ⟨rfl, hle, acc, us, hu, rl, hI, ex, hal, rn⟩
  have kp : Kept (Bn δ (D :: M)) H1 H' := ex.kept
  by_cases hlt : i < xs.length
  · refine .inr ⟨io.go _ hB H' i kp hlt, fun H2 => ∃ acc us, H2 D = some (.lst us) ∧ RepL (Bn δ (D :: M)) H2 us acc ∧ I (i + 1) acc ∧ Ext δ H1 H2 ∧ acc.length ≤ i + 1 ∧ RepL (LB H) H2 us acc, fun H2 q => ⟨xs.length - (i + 1), by omega, rfl, hlt, q⟩, fun v H2 y => ?_⟩
    have RB : RE δ (D :: M) H' E0 (wipe σ vs) ⟨⟨fun _ => False, c.lk⟩, wipeS l vs⟩ := R.block hDH (e1.trans ex) hu
    have hN : ∀ b, Bn δ (D :: M) b → H' b ≠ none := fun b z => by
      rcases z with z | z
      · obtain ⟨ns, q, _⟩ := RB.okd b z
        rw [q]; exact fun y => nomatch y
      · obtain ⟨o, q⟩ := RB.okM b z
        rw [q]; exact fun y => nomatch y
    obtain ⟨k2, r2⟩ := io.yld _ hB H' i xs[i] v H2 kp hN (List.getElem?_eq_getElem hlt) y
    have e2 : Ext δ H' H2 := k2.ext0
    have RB2 := RB.ext e2
    refine hg E0 δ (D :: M) (wipe σ vs) H2 _ _ v _ RB2 r2 _ _ (Is i _ acc (List.getElem?_eq_getElem hlt) hI) fun σ3 l3 R3 o3 n3 h3 => ?_
    refine ⟨(wipe_off o3).trans (wipe_off (off_wipe (vs := vs) (a := σ))), ?_⟩
    refine ht δ (D :: M) σ3 H2 _ R3 _ _ h3 fun b H3 e3 h3' => ?_
    cases b with
    | false =>
      have e23 := e2.trans e3
      exact ⟨acc, us, e23.1 _ _ hu ndl, rl.keep e23.kept, h3', ex.trans e23, Nat.le_succ_of_le hal, rn.lbKeep e23 R.okd⟩
    | true =>
      have eT : Ext δ H H3 := e1.trans (ex.trans (e2.trans e3))
      refine he δ (D :: M) σ3 H3 _ (R3.ext e3) _ _ h3' fun y H4 d e4 r4 n4 h4 => ?_
      have e24 := (e2.trans e3).trans e4
      have hu4 := e24.1 _ _ hu ndl
      have kput : Kept (Bn δ (D :: M)) H4 (upd H4 D (.lst (us ++ [y]))) := Kept.put (.inr List.mem_cons_self)
      have hD3 : LB H3 D := ⟨us, e3.1 _ _ (e2.1 _ _ hu ndl) ndl⟩
      have k4 : Kept (LB H3) H4 (upd H4 D (.lst (us ++ [y]))) := Kept.put hD3
      -- what was told before holds D nowhere
      have kOld : RepL (LB H) (upd H4 D (.lst (us ++ [y]))) us acc := by
        have a1 : RepL (fun b => LB H b ∨ b = D) H' us acc := both (B1 := LB H) (B2 := Bn δ (D :: M)) (fun b z => by
          rcases z with z | z
          · exact .inl z
          · exact .inr (.inr (by rw [z]; exact List.mem_cons_self))) rn rl
        have a2 : RepL (fun b => LB H b ∨ b = D) H4 us acc := a1.keep (e24.1.wide fun a h => .inl (lb_dice R.okd a h))
        have a3 : RepL (fun b => LB H b ∨ b = D) (upd H4 D (.lst (us ++ [y]))) us acc := a2.keep (Kept.put (.inr rfl))
        exact a3.less fun b z => .inl (.inl z)
      refine ⟨us, hu4, by rw [rl.length]; exact sz_lt (by omega), acc ++ [d], us ++ [y], upd_same, ((rl.keep e24.kept).app (.cons r4 .nil)).keep kput, h4, (ex.trans e24).mut hD, ?_, ?_⟩
      · rw [List.length_append]
        exact Nat.succ_le_succ hal
      · exact kOld.app (.cons ((n4.keep k4).less fun b z => .inl (lb_ext eT R.okd b z)) .nil)
  · have e : i = xs.length := by omega
    subst e
    exact .inl ⟨io.stop _ hB H' _ kp (Nat.le_refl _), k D us H' acc hDH (e1.trans ex) hu rl rn (Ie acc hI)⟩
end Dl

namespace Dl
open PySem PySem.Spec PyProof.Rows L2
section
variable {X : Cx} {E : XK} {elt tg iter : Expr} {te : TE} {we : WE} {pos : Pos} {wi : TI} {ww : WI} {g : TG} {wg : WG} {tt : TT} {wt : WT} {ifs : List Expr} {scope : Scope} {own : List (Str × Nat)}
theorem dfn_lc (hc : X.calm = true) (hN : X.N.Nodup) (hi : DI X E tg iter wi ww) (ok : BlkOk X.N X.env.scope scope own)
    (hg : ∀ (s : Shared) (H : Hp) (C : Addr) (cl : List (Str × Addr)) (fp : List Addr), DG (X.blk s H scope (compEnvC scope cl C X.env) fp) (own.map (·.2)) tg g wg)
    (ht : ∀ (s : Shared) (H : Hp) (C : Addr) (cl : List (Str × Addr)) (fp : List Addr), DTs (X.blk s H scope (compEnvC scope cl C X.env) fp) E0 ifs tt wt)
    (he : ∀ (s : Shared) (H : Hp) (C : Addr) (cl : List (Str × Addr)) (fp : List Addr), DN E0 (X.blk s H scope (compEnvC scope cl C X.env) fp) elt te we) (hs : ∀ x, foldedSetIterable iter X.env x = pure x := by intro _; rfl) :
    DFN E X (.ListComp elt [⟨tg, iter, ifs, 0⟩] scope pos) (tLc wi g tt te (own.map (·.2))) (wLc ww wg wt we (own.map (·.2))) :=
  ⟨pe_lc hc hN hi.p ok (fun s H C cl fp => (hg s H C cl fp).p) (fun s H C cl fp => (ht s H C cl fp).p) (fun s H C cl fp => (he s H C cl fp).p) hs,
    abs_lcN hi.a (hg X.s_0 X.H_0 X.env.locals [] []).a (ht X.s_0 X.H_0 X.env.locals [] []).a (he X.s_0 X.H_0 X.env.locals [] []).a⟩
end
/-- a def that tells new lists -/
def spW (n : Nat) (P : List S → (D → Prop) → Prop) : L2.Sp := fun vs H Q _ => ∃ (δ : Option Addr) (M : List Addr) (ss : List S) (Φ : D → Prop), vs.length = n ∧ Paired (RepS δ M H) vs ss ∧ noOwn ss = true ∧ (∀ b, b ∈ M → ∃ o, H b = some o) ∧ (∀ a, δ = some a → DiceAt H a) ∧
  P ss Φ ∧ ∀ v H' d, Ext δ H H' → Rep (Bn δ M) H' v d → Rep (LB H) H' v d → Φ d → Q v H'
section
variable {Pr : Program} {w : World} {K : PySem.W.Frag} {mg : Str → Option Value} {base : Heap} {x qual : Str} {st : Stmt} {f : Addr} {fd : FuncData} {N ps : List Str} {k n : Nat}
theorem fn_W {P : List S → (D → Prop) → Prop} {e : Expr} {pos : Pos} (F : Fun K x qual st f fd) (Sc : FnScope N ps (defScope st)) (hn : ps.length = n) (hb : defBody st = [.Return (some e) pos])
    (hbody : ∀ (cdv : Value) (A : Around) (outer : List PySem.Env) (s : Shared) (H : Hp) (Eo : XK), Room k (A.deeper (PyProof.Rows.envOfC qual (defScope st) s.heap.objs.size f cdv)) →
      ∃ t w', DN E0 ((cxOf CX0 Pr w K mg base N qual (defScope st) f cdv A outer s H Eo).nox) e t w' ∧ ∀ ss Φ, ss.length = n → P ss Φ → w' ⟨⟨fun _ => False, fun _ => False⟩, startS N.length ss⟩ Φ) : FnOk Pr w K mg base CX0 (k + 1) f fd ps (spW n P) := by
  refine F.ok Sc (fun vs H Q E h => ?_) (fun cdv A outer s H vs Q E hr h => ?_)
  · obtain ⟨δ, M, ss, Φ, h1, _⟩ := h
    rw [h1, hn]
  · obtain ⟨δ, M, ss, Φ, h1, h2, h3, h4, h5, h6, h7⟩ := h
    obtain ⟨t, w', hs, hw⟩ := hbody cdv A outer s H E hr
    refine ⟨tRet t, by rw [hb]; exact pss_one (ps_ret hs.p), ?_⟩
    obtain ⟨M', m, n', R⟩ := (rs_start (N := N) (E := E0) (ex := fun _ => False) h2 h3 h4 h5 fun _ _ _ _ _ _ z => z.elim).ex
    exact hs.a δ M' _ H _ R _ _ (hw ss Φ (by rw [← h2.length, h1]) h6) fun v H' d e1 r1 n1 hd => h7 v H' d e1 (r1.less (bn_less m)) n1 hd
end
section
variable {X : Cx} {E : XK} {te : TE} {w : WE} {pos : Pos}
theorem dn_meth0 {o : Expr} {pl : Sem Bool} {m : Str} {apos : Pos} {C f k : Nat} {fd : FuncData} {ps : List Str} {P : List S → (D → Prop) → Prop} (he : DE X E o te w) (c : Cls X.K C) (hm : Meth X.K C m f) (F : FnOk X.prog X.w X.K X.mg X.base CX0 k f fd ps (spW 1 P)) (hr : Room k X.A) (hb : Binds X.K fd ps [])
    (ht : eval (.Call (.Attribute o m apos) [] [] pos) X.env = (do
      let ov ← eval o X.env
      standAt apos.atName
      let (f, first) ← holding [ov] (getMethod ov m pl)
      callWith pos f first (backTo pos (starEach [] X.env)) (backToKw pos (keywordEach [] X.env))) := by rfl) :
    DN E X (.Call (.Attribute o m apos) [] [] pos) (tMeth C m (spW 1 P) [] E0 te tNil) (wMeth0 C m P w) := by
  refine ⟨pe_meth0 he.p c hm F hr hb .nil pass0 ht, fun δ M σ H ρ R Φ Q h k => ?_⟩
  refine he.a δ M σ H ρ R _ _ h fun v H1 d e1 r1 h1 => ?_
  cases r1 <;> first | exact False.elim h1 | skip
  rename_i a C' dx ns vs ds n ho hl rl
  obtain ⟨rfl, hz, h1⟩ := h1
  have R1 := R.ext e1
  refine ⟨a, dx, _, rfl, ho, rl.nofield hz, ?_⟩
  exact ⟨δ, M, [.d (.obj C' ns ds)], Φ, rfl, .cons (.d (.obj n ho hl rl)) .nil, rfl, R1.okM, R1.okd, h1, fun v H2 d e2 r2 n2 h2 => k v H2 d (e1.trans e2) r2 (n2.lbBack e1 R.okd) h2⟩
/-- a + b, a new list -/
def wCat2 (w w' : WE) : Env → (List D → Prop) → Prop := fun ρ Φ => w ρ fun d => w' ρ fun f => match d, f with
  | .lst xs, .lst ys => xs.length + ys.length ≤ 100000 ∧ Φ (xs ++ ys)
  | _, _ => False
theorem df_cat {a b : Expr} {ta tb : TE} {wa wb : WE} (ha : DE X E a ta wa) (hb : DE X E b tb wb) : DF X E (.BinOp a .Add b pos) (tOp rCat ta tb) (wCat2 wa wb) := by
  refine ⟨pe_op op_cat ha.p hb.p, fun δ M σ H ρ R Φ Q h k => ?_⟩
  refine ha.a δ M σ H ρ R _ _ h fun v H1 d e1 r1 h1 => ?_
  refine hb.a δ M σ H1 ρ (R.ext e1) _ _ h1 fun u H2 f e2 r2 h2 => ?_
  cases r1 <;> cases r2 <;> first | exact False.elim h2 | skip
  rename_i p us xs np sp rl q zs ys nq sq rr
  have e12 := e1.trans e2
  refine ⟨p, q, us, zs, rfl, rfl, e2.kept _ _ sp np, sq, by rw [rl.length, rr.length]; exact sz_of h2.1, fun z hz => ?_⟩
  exact k z _ _ _ (e12.free R.okd hz) (e12.trans (Ext.new hz)) upd_same ((((rl.keep e2.kept).app rr).less (bn_cons hz)).keep (Kept.new hz)) h2.2
end

/-! lists are cleared -/
def Cl (P : Addr → Prop) (H H' : Hp) : Prop := ∀ b o, H b = some o → H' b = some o ∨ (P b ∧ (∃ xs, o = .lst xs) ∧ H' b = some (.lst []))
section
variable {P : Addr → Prop} {H H1 H2 HS : Hp} {δ : Option Addr} {M : List Addr} {B : Addr → Prop}
theorem Cl.refl : Cl P H H := fun _ _ h => .inl h
theorem Cl.trans (a : Cl P H H1) (b : Cl P H1 H2) : Cl P H H2 := fun c o h => by
  rcases a c o h with q | ⟨p, x, q⟩
  · exact b c o q
  · rcases b c _ q with z | ⟨_, _, z⟩
    · exact .inr ⟨p, x, z⟩
    · exact .inr ⟨p, x, z⟩
theorem Cl.put {a : Addr} {xs : List V} (h : P a) (q : H a = some (.lst xs)) : Cl P H (upd H a (.lst [])) := fun b o e => by
  by_cases z : b = a
  · subst z
    rw [q] at e
    exact .inr ⟨h, ⟨xs, (Option.some.inj e).symm⟩, upd_same⟩
  · exact .inl (by rw [upd_ne z]; exact e)
theorem Cl.non (c : Cl P H H1) {b : Addr} {o : HO} (n : ¬ P b) (h : H b = some o) : H1 b = some o := (c b o h).resolve_right fun z => n z.1
theorem Cl.tup (c : Cl P H H1) {b : Addr} {xs : List V} (h : H b = some (.tup xs)) : H1 b = some (.tup xs) := (c b _ h).resolve_right fun z => nomatch z.2.1
theorem Cl.lst (c : Cl P H H1) {b : Addr} {xs : List V} (h : H b = some (.lst xs)) : ∃ ys, H1 b = some (.lst ys) := (c b _ h).elim (fun z => ⟨_, z⟩) fun z => ⟨_, z.2.2⟩
theorem Cl.ext (e : Ext δ HS H) (okd : ∀ a, δ = some a → DiceAt HS a) (c : Cl P H H1) (hP : ∀ b, P b → ¬ LB HS b) : Ext δ HS H1 := ⟨fun b o h n => by
    rcases c b o (e.1 b o h n) with z | ⟨p, ⟨xs, rfl⟩, _⟩
    · exact z
    · exact absurd ⟨xs, h⟩ (hP b p), fun a ha d => by
    obtain ⟨ns, z, l⟩ := e.2 a ha d
    exact ⟨ns, c.non (fun p => hP a p (lb_dice okd a ha)) z, l⟩⟩
section
variable {H H' : Hp}
mutual
theorem Cl.flat (c : Cl P H H') : ∀ {v : V} {d : D}, Rep B H v d → d.flat = true → Rep B H' v d
  | _, _, .non, _ => .non
  | _, _, .bl b, _ => .bl b
  | _, _, .int i, _ => .int i
  | _, _, .str x, _ => .str x
  | _, _, .lst .., h => by simp [D.flat] at h
  | _, _, .tup n s r, h => .tup n (c.tup s) (Cl.flats c r (by simpa [D.flat] using h))
  | _, _, .obj n s l r, h => .obj n ((c _ _ s).resolve_right fun z => nomatch z.2.1) l (Cl.flats c r (by simpa [D.flat] using h))
  | _, _, .raw v, _ => .raw v
theorem Cl.flats (c : Cl P H H') : ∀ {vs : List V} {ds : List D}, RepL B H vs ds → D.flats ds = true → RepL B H' vs ds
  | _, _, .nil, _ => .nil
  | _ :: _, d :: ds, .cons r t, h => by
    have h' : d.flat = true ∧ D.flats ds = true := by simpa [D.flats] using h
    exact .cons (Cl.flat c r h'.1) (Cl.flats c t h'.2)
end
end
end
theorem repL_raw {B : Addr → Prop} {H : Hp} : ∀ (vs : List V), RepL B H vs (vs.map D.raw)
  | [] => .nil
  | v :: vs => .cons (.raw v) (repL_raw vs)
theorem repL_rawI {B : Addr → Prop} {H : Hp} : ∀ {us vs : List V}, RepL B H us (vs.map D.raw) → us = vs
  | [], [], _ => rfl
  | [], _ :: _, h => by cases h
  | _ :: _, [], h => by cases h
  | u :: us, v :: vs, h => by
    cases h with
    | cons r t =>
      cases r
      rw [repL_rawI t]
/-- another state, at a later heap -/
theorem RE.remake {δ : Option Addr} {M : List Addr} {HS H : Hp} {E : XK} {σS σ : L2.St} {c : Ct} {l l' : Sl} (R : RE δ M HS E σS ⟨c, l⟩) (e : Ext δ HS H) (hl : l'.length = σ.length)
    (h : ∀ (i : Nat) (s : S), l'[i]? = some (some s) → (l[i]? = some (some s) ∧ σ[i]? = σS[i]?) ∨ ∃ x v, s = .d x ∧ σ[i]? = some (some v) ∧ Rep (Bn δ M) H v x) : RE δ M H E σ ⟨c, l'⟩ := by
  have R1 := R.ext e
  have old : ∀ (i : Nat) (p : Addr) (xs : List D), l'[i]? = some (some (.own p xs)) → l[i]? = some (some (.own p xs)) := fun i p xs q => by
    rcases h i _ q with z | ⟨x, v, z, _⟩
    · exact z.1
    · cases z
  refine ⟨hl, fun i s q => ?_, fun i j p xs ys q q' => R.one i j p xs ys (old _ _ _ q) (old _ _ _ q'), R1.okM, R1.okd, ?_⟩
  · rcases h i s q with ⟨z, y⟩ | ⟨x, v, rfl, z, r⟩
    · obtain ⟨v, a, b⟩ := R1.rep i s z
      exact ⟨v, by rw [y]; exact a, b⟩
    · exact ⟨v, z, .d r⟩
  · obtain ⟨He, Me, a, m, b, q⟩ := R1.en
    exact ⟨He, Me, a, m, fun i p xs z => b i p xs (old i p xs z), q⟩
def Lx (t : D) (a3 a4 a6 : Option D) : Sl := [none, some .dice, some (.d t), a3.map .d, a4.map .d, none, a6.map .d, none, none, none]
theorem reLx {δ : Option Addr} {M : List Addr} {HS H : Hp} {E : XK} {σS σ : L2.St} {c : Ct} {t : D} (R : RE δ M HS E σS ⟨c, Lx t none none none⟩) (e : Ext δ HS H) (hl : σ.length = 10) (h1 : σ[1]? = σS[1]?) (h2 : σ[2]? = σS[2]?) (a3 a4 a6 : Option D)
    (k3 : ∀ x, a3 = some x → ∃ v, σ[3]? = some (some v) ∧ Rep (Bn δ M) H v x) (k4 : ∀ x, a4 = some x → ∃ v, σ[4]? = some (some v) ∧ Rep (Bn δ M) H v x) (k6 : ∀ x, a6 = some x → ∃ v, σ[6]? = some (some v) ∧ Rep (Bn δ M) H v x) : RE δ M H E σ ⟨c, Lx t a3 a4 a6⟩ := by
  refine R.remake e (by rw [hl]; rfl) fun i s q => ?_
  have op : ∀ (a : Option D), some (a.map S.d) = some (some s) → ∃ x, s = .d x ∧ a = some x := fun a z => by
    cases a with
    | none => cases z
    | some x => exact ⟨x, by cases z; rfl, rfl⟩
  match i, q with
  | 0, q => cases q
  | 1, q => exact .inl ⟨q, h1⟩
  | 2, q => exact .inl ⟨q, h2⟩
  | 3, q =>
    obtain ⟨x, rfl, ha⟩ := op a3 q
    obtain ⟨v, a, b⟩ := k3 x ha
    exact .inr ⟨x, v, rfl, a, b⟩
  | 4, q =>
    obtain ⟨x, rfl, ha⟩ := op a4 q
    obtain ⟨v, a, b⟩ := k4 x ha
    exact .inr ⟨x, v, rfl, a, b⟩
  | 5, q => cases q
  | 6, q =>
    obtain ⟨x, rfl, ha⟩ := op a6 q
    obtain ⟨v, a, b⟩ := k6 x ha
    exact .inr ⟨x, v, rfl, a, b⟩
  | 7, q => cases q
  | 8, q => cases q
  | 9, q => cases q
  | n + 10, q => cases q
/-! the two loops that clear -/
theorem clear3 {K : PySem.W.Frag} {P : Addr → Prop} {D : Ends} {σ : L2.St} {H : Hp} {L : Addr} {us : List V} (hL : H L = some (.lst us)) (nL : ¬ P L) (hl : σ.length = 10)
    (he : ∀ v ∈ us, ∃ p x s ys, v = .ref p ∧ H p = some (.tup [x, .ref s]) ∧ H s = some (.lst ys) ∧ P s)
    (hk : ∀ σ' H', σ'.length = 10 → (∀ j, j ≠ 7 → j ≠ 8 → σ'[j]? = σ[j]?) → Cl P H H' → D.nx σ' H') :
    ∃ W : Nat → Nat → L2.St → Hp → Prop, (∃ m, W 0 m σ H) ∧ ∀ i m σ H, W i m σ H → ((Itl K L).stop i H ∧ D.nx σ H) ∨ ((Itl K L).go i H ∧ ∃ N : L2.St → Hp → Prop, (∀ σ' H', N σ' H' → ∃ m', m' < m ∧ W (i + 1) m' σ' H') ∧
      ∀ x H', (Itl K L).yld i H x H' → gTup K 2 (gCons (gName 7) (gCons (gName 8) gNil)) x σ H' fun σ2 H2 => tDrop (tBM0 K "list" rClear (tVar 8)) { D with nx := N, ct := N, bk := D.nx } σ2 H2) := by
  refine ⟨fun i m σ' H' => m = us.length - i ∧ i ≤ us.length ∧ σ'.length = 10 ∧ (∀ j, j ≠ 7 → j ≠ 8 → σ'[j]? = σ[j]?) ∧ Cl P H H', ⟨us.length, by simp, Nat.zero_le _, hl, fun _ _ _ => rfl, Cl.refl⟩, ?_⟩
  rintro i m σ' H' ⟨rfl, hi, l', o', c'⟩
  have hL' : H' L = some (.lst us) := c'.non nL hL
  by_cases hlt : i < us.length
  · refine .inr ⟨⟨us, us[i], SqL.of hL', List.getElem?_eq_getElem hlt⟩, fun σ' H' => σ'.length = 10 ∧ (∀ j, j ≠ 7 → j ≠ 8 → σ'[j]? = σ[j]?) ∧ Cl P H H', fun _ _ z => ⟨us.length - (i + 1), by omega, rfl, hlt, z⟩, ?_⟩
    rintro x H2 ⟨rfl, hx⟩
    have hx' := hx us (SqL.of hL')
    obtain ⟨p, y, s, ys, rfl, hp, hs, hP⟩ := he x (List.mem_of_getElem? hx')
    obtain ⟨zs, hz⟩ := c'.lst hs
    refine ⟨p, _, rfl, SqT.of (c'.tup hp), rfl, _, _, rfl, _, _, rfl, rfl, ?_⟩
    refine ⟨.ref s, by rw [List.getElem?_set_self (by rw [List.length_set, l']; decide)], .inl ⟨rfl, zs, Or.inl (Or.inl hz)⟩, s, zs, rfl, rfl, hz, by simp [l'], fun j h7 h8 => ?_, c'.trans (Cl.put hP hz)⟩
    rw [List.getElem?_set_ne (Ne.symm h8), List.getElem?_set_ne (Ne.symm h7)]
    exact o' j h7 h8
  · exact .inl ⟨⟨us, SqL.of hL', by omega⟩, hk σ' H' l' o' c'⟩
theorem clear4 {K : PySem.W.Frag} {P : Addr → Prop} {D : Ends} {σ : L2.St} {H : Hp} {L : Addr} {us : List V} (hL : H L = some (.lst us)) (nL : ¬ P L) (hl : σ.length = 10)
    (he : ∀ v ∈ us, ∃ s ys, v = .ref s ∧ H s = some (.lst ys) ∧ P s)
    (hk : ∀ σ' H', σ'.length = 10 → (∀ j, j ≠ 9 → σ'[j]? = σ[j]?) → Cl P H H' → (∀ s, V.ref s ∈ us → H' s = some (.lst [])) → D.nx σ' H') :
    ∃ W : Nat → Nat → L2.St → Hp → Prop, (∃ m, W 0 m σ H) ∧ ∀ i m σ H, W i m σ H → ((Itl K L).stop i H ∧ D.nx σ H) ∨ ((Itl K L).go i H ∧ ∃ N : L2.St → Hp → Prop, (∀ σ' H', N σ' H' → ∃ m', m' < m ∧ W (i + 1) m' σ' H') ∧
      ∀ x H', (Itl K L).yld i H x H' → gName 9 x σ H' fun σ2 H2 => tDrop (tBM0 K "list" rClear (tVar 9)) { D with nx := N, ct := N, bk := D.nx } σ2 H2) := by
  refine ⟨fun i m σ' H' => m = us.length - i ∧ i ≤ us.length ∧ σ'.length = 10 ∧ (∀ j, j ≠ 9 → σ'[j]? = σ[j]?) ∧ Cl P H H' ∧ ∀ j s, j < i → us[j]? = some (.ref s) → H' s = some (.lst []), ⟨us.length, by simp, Nat.zero_le _, hl, fun _ _ => rfl, Cl.refl, fun _ _ z => nomatch z⟩, ?_⟩
  rintro i m σ' H' ⟨rfl, hi, l', o', c', d'⟩
  have hL' : H' L = some (.lst us) := c'.non nL hL
  by_cases hlt : i < us.length
  · refine .inr ⟨⟨us, us[i], SqL.of hL', List.getElem?_eq_getElem hlt⟩, fun σ' H' => σ'.length = 10 ∧ (∀ j, j ≠ 9 → σ'[j]? = σ[j]?) ∧ Cl P H H' ∧ ∀ j s, j < i + 1 → us[j]? = some (.ref s) → H' s = some (.lst []), fun _ _ z => ⟨us.length - (i + 1), by omega, rfl, hlt, z⟩, ?_⟩
    rintro x H2 ⟨rfl, hx⟩
    have hx' := hx us (SqL.of hL')
    obtain ⟨s, ys, rfl, hs, hP⟩ := he x (List.mem_of_getElem? hx')
    obtain ⟨zs, hz⟩ := c'.lst hs
    refine ⟨.ref s, by rw [List.getElem?_set_self (by rw [l']; decide)], .inl ⟨rfl, zs, Or.inl (Or.inl hz)⟩, s, zs, rfl, rfl, hz, by simp [l'], fun j h9 => ?_, c'.trans (Cl.put hP hz), fun j s' hj hs' => ?_⟩
    · rw [List.getElem?_set_ne (Ne.symm h9)]
      exact o' j h9
    · by_cases z : s' = s
      · rw [z]; exact upd_same
      · rw [upd_ne z]
        refine d' j s' ?_ hs'
        rcases Nat.lt_or_ge j i with y | y
        · exact y
        · have : j = i := by omega
          subst this
          rw [hx'] at hs'
          cases hs'
          exact absurd rfl z
  · refine .inl ⟨⟨us, SqL.of hL', by omega⟩, hk σ' H' l' o' c' fun s hs => ?_⟩
    obtain ⟨j, hj⟩ := List.mem_iff_getElem?.mp hs
    exact d' j s (by have := (List.getElem?_eq_some_iff.mp hj).1; omega) hj
end Dl

namespace Dl
open PySem PySem.Spec PyProof.Rows L2
def dKs (kss : List (Int × List D)) : D := .lst (kss.map fun k => .tup [.int k.1, .lst k.2])
/-- a list of two lists, the second one of tuples with a list behind; all at such places as P tells -/
structure Two (P : Addr → Prop) (H : Hp) (h a3 a4 : Addr) (us3 us4 : List V) : Prop where
  hh : H h = some (.lst [.ref a3, .ref a4])
  h3 : H a3 = some (.lst us3)
  h4 : H a4 = some (.lst us4)
  p3 : P a3
  p4 : P a4
  el : ∀ v ∈ us4, ∃ p x s ys, v = .ref p ∧ H p = some (.tup [x, .ref s]) ∧ H s = some (.lst ys) ∧ P s
theorem two_of {B : Addr → Prop} {H : Hp} {h : Addr} {vs : List V} {xs : List D} {kss : List (Int × List D)} (hh : H h = some (.lst vs)) (r : RepL B H vs [.lst xs, dKs kss]) : ∃ a3 a4 us3 us4, Two (fun b => ¬ B b) H h a3 a4 us3 us4 ∧ us4.length = kss.length ∧ vs = [.ref a3, .ref a4] := by
  cases r with
  | cons r3 r =>
    cases r with
    | cons r4 r =>
      cases r
      cases r3 with
      | lst n3 s3 q3 =>
        cases r4 with
        | lst n4 s4 q4 =>
          refine ⟨_, _, _, _, ⟨hh, s3, s4, n3, n4, fun v hv => ?_⟩, by rw [q4.length, List.length_map], rfl⟩
          obtain ⟨i, hi⟩ := List.mem_iff_getElem?.mp hv
          obtain ⟨d, hd, rd⟩ := q4.atV hi
          rw [List.getElem?_map] at hd
          obtain ⟨k, hk, rfl⟩ := Option.map_eq_some_iff.mp hd
          cases rd with
          | tup nt st qt =>
            cases qt with
            | cons q1 qt =>
              cases qt with
              | cons q2 qt =>
                cases qt
                cases q2 with
                | lst ns ss _ => exact ⟨_, _, _, _, rfl, st, ss, ns⟩
theorem Two.keep {P P' : Addr → Prop} {H H' : Hp} {h a3 a4 : Addr} {us3 us4 : List V} (T : Two P H h a3 a4 us3 us4) (k : ∀ b xs, H b = some (.lst xs) → (P b ∨ b = h) → H' b = some (.lst xs)) (kt : ∀ b xs, H b = some (.tup xs) → H' b = some (.tup xs)) (kp : ∀ b, P b → P' b) : Two P' H' h a3 a4 us3 us4 :=
  ⟨k _ _ T.hh (.inr rfl), k _ _ T.h3 (.inl T.p3), k _ _ T.h4 (.inl T.p4), kp _ T.p3, kp _ T.p4, fun v hv => by
    obtain ⟨p, x, s, ys, e, hp, hs, q⟩ := T.el v hv
    exact ⟨p, x, s, ys, e, kt _ _ hp, k _ _ hs (.inl q), kp _ q⟩⟩
section
variable {δ : Option Addr} {HS H H' : Hp}
theorem ext_lst (okd : ∀ a, δ = some a → DiceAt HS a) (e : Ext δ H H') {b : Addr} {xs : List V} (h : H b = some (.lst xs)) (n : ¬ LB HS b) : H' b = some (.lst xs) := e.1 _ _ h fun z => n (lb_dice okd b z)
theorem ext_tup (okd : ∀ a, δ = some a → DiceAt HS a) (e0 : Ext δ HS H) (e : Ext δ H H') {b : Addr} {xs : List V} (h : H b = some (.tup xs)) : H' b = some (.tup xs) := e.1 _ _ h fun z => by
  obtain ⟨ns, q, _⟩ := e0.2 b z (okd b z)
  rw [h] at q
  cases q
theorem Two.ext {P : Addr → Prop} {h a3 a4 : Addr} {us3 us4 : List V} (T : Two P H h a3 a4 us3 us4) (okd : ∀ a, δ = some a → DiceAt HS a) (e0 : Ext δ HS H) (e : Ext δ H H') (nh : ¬ LB HS h) (np : ∀ b, P b → ¬ LB HS b) : Two P H' h a3 a4 us3 us4 :=
  T.keep (fun b xs hb q => ext_lst okd e hb (q.elim (np b) fun z => by rw [z]; exact nh)) (fun b xs hb => ext_tup okd e0 e hb) fun _ q => q
end
def wTurns (w1 : Env → (List D → Prop) → Prop) (w2 : WE) (w3 : WT) (wf : Env → (List D → Prop) → Prop) (w4 : WT) (wc3 wc4 : Env → (List D → Prop) → Prop) (wr : WS) : WS := fun c Φ l => ∃ (t : D) (xs : List D) (kss : List (Int × List D)) (gd : D), l = Lx t none none none ∧ kss.length ≤ 4 ∧ gd.flat = true ∧
  w1 ⟨c, Lx t none none none⟩ (fun ds => ds = [.lst xs, dKs kss]) ∧
  w2 ⟨c, Lx t (some (.lst [.lst xs, dKs kss])) none none⟩ (fun d => d = gd) ∧
  w3 ⟨c, Lx t (some (.lst [.lst xs, dKs kss])) (some gd) none⟩ (fun b => b = false) ∧
  wf ⟨c, Lx t none (some gd) none⟩ (fun ds => ds = [.lst xs, dKs kss]) ∧
  w4 ⟨c, Lx t none (some gd) (some (.lst [.lst xs, dKs kss]))⟩ (fun b => b = false) ∧
  (∀ (v1 v3 : V) (r2 r4 : List V), r2.length ≤ 4 → r4.length ≤ 4 → wc3 ⟨c, Lx t (some (.lst [.raw v3, .lst (r4.map .raw)])) none (some (.lst [.raw v1, .lst (r2.map .raw)]))⟩ fun ds => ds = (r2 ++ r4).map .raw) ∧
  (∀ v1 v2 v3 v4 : V, wc4 ⟨c, Lx t (some (.lst [.raw v3, .raw v4])) none (some (.lst [.raw v1, .raw v2]))⟩ fun ds => ds = [v1, v2, v3, v4].map .raw) ∧
  wr c Φ (Lx t none none none)
theorem if_false_then {p q : Prop} (h : q) : (if false = true then p else q) := by rw [if_neg (by decide)]; exact h
theorem abs_turns {K : PySem.W.Frag} {E : XK} {te1 te2 tf t3 t4 : TE} {tt3 tt4 : TT} {w1 wf wc3 wc4 : Env → (List D → Prop) → Prop} {w2 : WE} {w3 w4 : WT} {wr : WS} {tr3 tr4 u : TS}
    (a1 : AbsFN E te1 w1) (a2 : AbsE E te2 w2) (a3 : AbsT E tt3 w3) (af : AbsFN E tf wf) (a4 : AbsT E tt4 w4) (c3 : AbsF E t3 wc3) (c4 : AbsF E t4 wc4) (ar : AbsS E u wr) :
    AbsS E (tSeq (tAsg te1 (gName 3)) (tSeq (tAsg te2 (gName 4)) (tSeq (tIfS tt3 tr3 tNext) (tSeq (tFor (iRng1 (tCons (tC (.int 2)) tNil)) (gName 5)
      (tSeq (tAsg tf (gName 6)) (tSeq (tIfS tt4 tr4 tNext) (tSeq (tFor (iList K t3) (gTup K 2 (gCons (gName 7) (gCons (gName 8) gNil))) (tDrop (tBM0 K "list" rClear (tVar 8)))) (tFor (iList K t4) (gName 9) (tDrop (tBM0 K "list" rClear (tVar 9)))))))) u))))
      (wTurns w1 w2 w3 wf w4 wc3 wc4 wr) := by
  intro δ M0 H0 c Φ D ok σ HS l RS0 hw
  obtain ⟨t, xs, kss, gd, rfl, hk4, hgf, q1, q2, q3, qf, q4, qc3, qc4, qr⟩ := hw
  obtain ⟨M, mM, nM, R⟩ := RS0.ex
  have okd := R.okd
  have hlen : σ.length = 10 := R.len.symm
  refine a1 δ M σ HS _ R _ _ q1 fun h vs H1 ds hh e1 hhq rB rN hd => ?_
  subst hd
  have nhL : ¬ LB HS h := fun ⟨xs, z⟩ => by rw [hh] at z; cases z
  have nhB : ¬ Bn δ M h := R.fresh hh
  obtain ⟨b3, b4, us3, us4, T1, l4, rfl⟩ := two_of hhq (both (B3 := fun b => LB HS b ∨ Bn δ (h :: M) b) (fun b z => z) rN rB)
  have R1 : RE δ M H1 E (σ.set 3 (some (.ref h))) ⟨c, Lx t (some (.lst [.lst xs, dKs kss])) none none⟩ := reLx R e1 (by rw [List.length_set]; exact hlen) (List.getElem?_set_ne (by decide)) (List.getElem?_set_ne (by decide)) _ _ _
    (fun x z => by cases z; exact ⟨_, List.getElem?_set_self (by rw [hlen]; decide), .lst nhB hhq (rB.less bn_tail)⟩) (fun x z => nomatch z) (fun x z => nomatch z)
  refine a2 δ M _ H1 _ R1 _ _ q2 fun vg H2 d e2 r2 hd => ?_
  subst hd
  have R2 : RE δ M H2 E ((σ.set 3 (some (.ref h))).set 4 (some vg)) ⟨c, Lx t (some (.lst [.lst xs, dKs kss])) (some d) none⟩ := reLx R (e1.trans e2) (by rw [List.length_set, List.length_set]; exact hlen) (by rw [List.getElem?_set_ne (by decide), List.getElem?_set_ne (by decide)]) (by rw [List.getElem?_set_ne (by decide), List.getElem?_set_ne (by decide)]) _ _ _
    (fun x z => by cases z; exact ⟨_, by rw [List.getElem?_set_ne (by decide)]; exact List.getElem?_set_self (by rw [hlen]; decide), (Rep.lst nhB hhq (rB.less bn_tail)).keep e2.kept⟩) (fun x z => by cases z; exact ⟨_, List.getElem?_set_self (by rw [List.length_set, hlen]; decide), r2⟩) (fun x z => nomatch z)
  refine a3 δ M _ H2 _ R2 _ _ q3 fun b H3 e3 hb => ?_
  subst hb
  refine if_false_then ?_
  have PN : ∀ b, ¬ (LB HS b ∨ Bn δ (h :: M) b) → ¬ LB HS b := fun b z y => z (.inl y)
  have T3 : Two (fun b => ¬ (LB HS b ∨ Bn δ (h :: M) b)) H3 h b3 b4 us3 us4 := (T1.ext okd e1 e2 nhL PN).ext okd (e1.trans e2) e3 nhL PN
  refine ⟨2, rfl, by decide, by decide, ?_⟩
  refine ⟨fun i m σ' H' => m = 2 - i ∧ i ≤ 2 ∧ σ'.length = 10 ∧ σ'[1]? = σ[1]? ∧ σ'[2]? = σ[2]? ∧ σ'[3]? = some (some (.ref h)) ∧ σ'[4]? = some (some vg) ∧ Ext δ HS H' ∧ Rep (Bn δ M) H' vg d ∧ ∃ b3 b4 us3 us4, Two (fun b => ¬ (LB HS b ∨ Bn δ (h :: M) b)) H' h b3 b4 us3 us4 ∧ us4.length ≤ 4, ⟨2, rfl, by decide, by rw [List.length_set, List.length_set]; exact hlen, by rw [List.getElem?_set_ne (by decide), List.getElem?_set_ne (by decide)], by rw [List.getElem?_set_ne (by decide), List.getElem?_set_ne (by decide)],
    by rw [List.getElem?_set_ne (by decide)]; exact List.getElem?_set_self (by rw [hlen]; decide), List.getElem?_set_self (by rw [List.length_set, hlen]; decide), (e1.trans e2).trans e3, r2.keep e3.kept, b3, b4, us3, us4, T3, by rw [l4]; exact hk4⟩, ?_⟩
  clear T3 T1 l4 R1 R2 rB rN hhq
  rintro i m σ' H' ⟨rfl, hi, hl', s1, s2, s3, s4, eS, rg, b3, b4, us3, us4, T, l4⟩
  by_cases hlt : i < 2
  · refine .inr ⟨hlt, fun σ' H' => σ'.length = 10 ∧ σ'[1]? = σ[1]? ∧ σ'[2]? = σ[2]? ∧ σ'[3]? = some (some (.ref h)) ∧ σ'[4]? = some (some vg) ∧ Ext δ HS H' ∧ Rep (Bn δ M) H' vg d ∧ ∃ b3 b4 us3 us4, Two (fun b => ¬ (LB HS b ∨ Bn δ (h :: M) b)) H' h b3 b4 us3 us4 ∧ us4.length ≤ 4, fun _ _ z => ⟨2 - (i + 1), by omega, rfl, hlt, z⟩, ?_⟩
    rintro x Hx ⟨rfl, _⟩
    have g5 : ∀ j, j ≠ 5 → (σ'.set 5 (some x))[j]? = σ'[j]? := fun j z => List.getElem?_set_ne (Ne.symm z)
    have RF : RE δ M Hx E (σ'.set 5 (some x)) ⟨c, Lx t none (some d) none⟩ := reLx R eS (by rw [List.length_set]; exact hl') ((g5 1 (by decide)).trans s1) ((g5 2 (by decide)).trans s2) _ _ _
      (fun x z => nomatch z) (fun x z => by cases z; exact ⟨_, (g5 4 (by decide)).trans s4, rg⟩) (fun x z => nomatch z)
    refine af δ M _ Hx _ RF _ _ qf fun f vs HF ds hf eF hfq fB fN hd => ?_
    subst hd
    obtain ⟨b1, b2, us1, us2, U, l2, rfl⟩ := two_of hfq (both (B3 := fun b => LB Hx b ∨ Bn δ (f :: M) b) (fun b z => z) fN fB)
    have okdx := RF.okd
    have nfL : ¬ LB Hx f := fun ⟨xs, z⟩ => by rw [hf] at z; cases z
    have nfB : ¬ Bn δ M f := RF.fresh hf
    have g6 : ∀ j, j ≠ 5 → j ≠ 6 → ((σ'.set 5 (some x)).set 6 (some (.ref f)))[j]? = σ'[j]? := fun j z y => (List.getElem?_set_ne (Ne.symm y)).trans (g5 j z)
    have g66 : ((σ'.set 5 (some x)).set 6 (some (.ref f)))[6]? = some (some (.ref f)) := List.getElem?_set_self (by rw [List.length_set, hl']; decide)
    have l6 : ((σ'.set 5 (some x)).set 6 (some (.ref f))).length = 10 := by rw [List.length_set, List.length_set]; exact hl'
    show tSeq (tIfS tt4 tr4 tNext) _ _ ((σ'.set 5 (some x)).set 6 (some (.ref f))) HF
    generalize ((σ'.set 5 (some x)).set 6 (some (.ref f))) = σ6 at g6 g66 l6 ⊢
    have R4 : RE δ M HF E σ6 ⟨c, Lx t none (some d) (some (.lst [.lst xs, dKs kss]))⟩ := reLx R (eS.trans eF) l6 ((g6 1 (by decide) (by decide)).trans s1) ((g6 2 (by decide) (by decide)).trans s2) _ _ _
      (fun x z => nomatch z) (fun x z => by cases z; exact ⟨_, (g6 4 (by decide) (by decide)).trans s4, rg.keep eF.kept⟩) (fun x z => by cases z; exact ⟨_, g66, .lst nfB hfq (fB.less bn_tail)⟩)
    refine a4 δ M _ HF _ R4 _ _ q4 fun b HG eG hb => ?_
    subst hb
    refine if_false_then ?_
    have TG : Two (fun b => ¬ (LB HS b ∨ Bn δ (h :: M) b)) HG h b3 b4 us3 us4 := (T.ext okd eS eF nhL PN).ext okd (eS.trans eF) eG nhL PN
    have UG : Two (fun b => ¬ (LB Hx b ∨ Bn δ (f :: M) b)) HG f b1 b2 us1 us2 := U.ext okdx eF eG nfL fun b z y => z (.inl y)
    have eSG := (eS.trans eF).trans eG
    have lbS : ∀ b, LB HS b → LB Hx b := lb_ext eS okd
    have hhx : LB Hx h := ⟨_, T.hh⟩
    have R5 : RE δ M HG E σ6 ⟨c, Lx t (some (.lst [.raw (.ref b3), .lst (us4.map .raw)])) none (some (.lst [.raw (.ref b1), .lst (us2.map .raw)]))⟩ := reLx R eSG l6 ((g6 1 (by decide) (by decide)).trans s1) ((g6 2 (by decide) (by decide)).trans s2) _ _ _
      (fun x z => by cases z; exact ⟨_, (g6 3 (by decide) (by decide)).trans s3, .lst nhB TG.hh (.cons (.raw _) (.cons (.lst (fun y => TG.p4 (.inr (y.elim .inl fun q => .inr (List.mem_cons_of_mem _ q)))) TG.h4 (repL_raw _)) .nil))⟩) (fun x z => nomatch z)
      (fun x z => by cases z; exact ⟨_, g66, .lst nfB UG.hh (.cons (.raw _) (.cons (.lst (fun y => UG.p4 (.inr (y.elim .inl fun q => .inr (List.mem_cons_of_mem _ q)))) UG.h4 (repL_raw _)) .nil))⟩)
    refine c3 δ M _ HG _ R5 _ _ (qc3 _ _ _ _ (by rw [l2]; exact hk4) l4) fun L ws HL ds hL eL hLq rL hd => ?_
    subst hd
    have hws := repL_rawI rL
    subst hws
    refine ⟨L, rfl, ⟨_, SqL.of hLq⟩, clear3 (P := fun b => ¬ LB HS b ∧ b ≠ h ∧ b ≠ f ∧ b ≠ L) hLq (fun z => z.2.2.2 rfl) l6 (fun v hv => ?_) fun σ7 H7 l7 g7 c7 => ?_⟩
    · rcases List.mem_append.mp hv with y | y
      · obtain ⟨p, z, s, ys, e, hp, hs, q⟩ := UG.el v y
        have nb : ¬ LB HS s := fun w => q (.inl (lbS s w))
        exact ⟨p, z, s, ys, e, ext_tup okd eSG eL hp, ext_lst okd eL hs nb, nb, fun w => q (.inl (by rw [w]; exact hhx)), fun w => q (.inr (.inr (by rw [w]; exact List.mem_cons_self))), fun w => by rw [w, hL] at hs; cases hs⟩
      · obtain ⟨p, z, s, ys, e, hp, hs, q⟩ := TG.el v y
        have nb : ¬ LB HS s := fun w => q (.inl w)
        refine ⟨p, z, s, ys, e, ext_tup okd eSG eL hp, ext_lst okd eL hs nb, nb, fun w => q (.inr (.inr (by rw [w]; exact List.mem_cons_self))), fun w => ?_, fun w => by rw [w, hL] at hs; cases hs⟩
        obtain ⟨p', z', s', ys', e', hp', hs', _⟩ := T.el v y
        subst e
        cases e'
        have hpG := ext_tup okd (eS.trans eF) eG (ext_tup okd eS eF hp')
        rw [hp] at hpG
        cases hpG
        rw [w, hf] at hs'
        cases hs'
    have eSL := eSG.trans eL
    have e7 : Ext δ HS H7 := Cl.ext eSL okd c7 fun b z => z.1
    have hh7 : H7 h = some (.lst [.ref b3, .ref b4]) := c7.non (fun z => z.2.1 rfl) (ext_lst okd eL TG.hh nhL)
    have nfS : ¬ LB HS f := fun z => nfL (lbS f z)
    have hf7 : H7 f = some (.lst [.ref b1, .ref b2]) := c7.non (fun z => z.2.2.1 rfl) (ext_lst okd eL UG.hh nfS)
    have R6 : RE δ M H7 E σ7 ⟨c, Lx t (some (.lst [.raw (.ref b3), .raw (.ref b4)])) none (some (.lst [.raw (.ref b1), .raw (.ref b2)]))⟩ := reLx R e7 l7 ((g7 1 (by decide) (by decide)).trans ((g6 1 (by decide) (by decide)).trans s1)) ((g7 2 (by decide) (by decide)).trans ((g6 2 (by decide) (by decide)).trans s2)) _ _ _
      (fun x z => by cases z; exact ⟨_, (g7 3 (by decide) (by decide)).trans ((g6 3 (by decide) (by decide)).trans s3), .lst nhB hh7 (.cons (.raw _) (.cons (.raw _) .nil))⟩) (fun x z => nomatch z)
      (fun x z => by cases z; exact ⟨_, (g7 6 (by decide) (by decide)).trans g66, .lst nfB hf7 (.cons (.raw _) (.cons (.raw _) .nil))⟩)
    refine c4 δ M _ H7 _ R6 _ _ (qc4 _ _ _ _) fun L2 ws2 H8 ds hL2 e8 hL2q rL2 hd => ?_
    subst hd
    have hws2 := repL_rawI rL2
    subst hws2
    have up : ∀ b, ¬ LB HS b → LB HG b → b ≠ L2 ∧ ∃ ys, H8 b = some (.lst ys) := fun b nb ⟨ys, hb⟩ => by
      obtain ⟨zs, hz⟩ := c7.lst (ext_lst okd eL hb nb)
      exact ⟨(fun w => by rw [w, hL2] at hz; cases hz), zs, ext_lst okd e8 hz nb⟩
    have n1 : ¬ LB HS b1 := fun w => UG.p3 (.inl (lbS _ w))
    have n2 : ¬ LB HS b2 := fun w => UG.p4 (.inl (lbS _ w))
    have n3 : ¬ LB HS b3 := fun w => TG.p3 (.inl w)
    have n4 : ¬ LB HS b4 := fun w => TG.p4 (.inl w)
    refine ⟨L2, rfl, ⟨_, SqL.of hL2q⟩, clear4 (P := fun b => ¬ LB HS b ∧ b ≠ h ∧ b ≠ L2) hL2q (fun z => z.2.2 rfl) l7 (fun v hv => ?_) fun σ9 H9 l9 g9 c9 d9 => ?_⟩
    · have one : ∀ b, v = .ref b → ¬ LB HS b → LB HG b → b ≠ h → ∃ s ys, v = .ref s ∧ H8 s = some (.lst ys) ∧ (¬ LB HS s ∧ s ≠ h ∧ s ≠ L2) := fun b e nb hb nh => by
        obtain ⟨a, ys, q⟩ := up b nb hb
        exact ⟨b, ys, e, q, nb, nh, a⟩
      rcases List.mem_cons.mp hv with y | hv
      · exact one b1 y n1 ⟨_, UG.h3⟩ fun w => UG.p3 (.inl (by rw [w]; exact hhx))
      rcases List.mem_cons.mp hv with y | hv
      · exact one b2 y n2 ⟨_, UG.h4⟩ fun w => UG.p4 (.inl (by rw [w]; exact hhx))
      rcases List.mem_cons.mp hv with y | hv
      · exact one b3 y n3 ⟨_, TG.h3⟩ fun w => TG.p3 (.inr (.inr (by rw [w]; exact List.mem_cons_self)))
      rcases List.mem_cons.mp hv with y | hv
      · exact one b4 y n4 ⟨_, TG.h4⟩ fun w => TG.p4 (.inr (.inr (by rw [w]; exact List.mem_cons_self)))
      · cases hv
    have eS9 : Ext δ HS H9 := Cl.ext (e7.trans e8) okd c9 fun b z => z.1
    have gg : ∀ j, j ≠ 5 → j ≠ 6 → j ≠ 7 → j ≠ 8 → j ≠ 9 → σ9[j]? = σ'[j]? := fun j h5 h6 h7 h8 h9 => (g9 j h9).trans ((g7 j h7 h8).trans (g6 j h5 h6))
    refine ⟨l9, (gg 1 (by decide) (by decide) (by decide) (by decide) (by decide)).trans s1, (gg 2 (by decide) (by decide) (by decide) (by decide) (by decide)).trans s2, (gg 3 (by decide) (by decide) (by decide) (by decide) (by decide)).trans s3, (gg 4 (by decide) (by decide) (by decide) (by decide) (by decide)).trans s4, eS9, ?_, b3, b4, [], [], ?_, Nat.zero_le _⟩
    · exact c9.flat ((c7.flat (((rg.keep eF.kept).keep eG.kept).keep eL.kept) hgf).keep e8.kept) hgf
    · exact ⟨c9.non (fun z => z.2.1 rfl) (ext_lst okd e8 hh7 nhL), d9 b3 (by simp), d9 b4 (by simp), TG.p3, TG.p4, fun v hv => nomatch hv⟩
  · refine .inl ⟨by show 2 ≤ i; omega, ?_⟩
    refine ar δ M0 H0 c Φ D ok σ' H' _ ⟨⟨M, mM, nM, reLx R eS hl' s1 s2 none none none (fun x z => nomatch z) (fun x z => nomatch z) (fun x z => nomatch z)⟩, RS0.kd.ext eS, RS0.d0, RS0.wr, RS0.wm, RS0.m0⟩ qr
end Dl

namespace Dl
open PySem PySem.Spec PyProof.Rows L2
def zipD (xs ys : List D) : List D := (xs.zip ys).map fun p => .tup [p.1, p.2]
theorem zipD_len {xs ys : List D} (h : xs.length = ys.length) : (zipD xs ys).length = xs.length := by
  unfold zipD
  rw [List.length_map, List.length_zip, h, Nat.min_self]
theorem zipD_at {xs ys : List D} {i : Nat} {x : D} (h : (zipD xs ys)[i]? = some x) : ∃ a b, xs[i]? = some a ∧ ys[i]? = some b ∧ x = .tup [a, b] := by
  unfold zipD at h
  rw [List.getElem?_map] at h
  obtain ⟨p, hp, rfl⟩ := Option.map_eq_some_iff.mp h
  rw [List.getElem?_zip_eq_some] at hp
  exact ⟨_, _, hp.1, hp.2, rfl⟩
def wiZ (ws : WA) : WI := fun ρ Φ => ws ρ fun ss => match ss with
  | [.d (.tup xs), .d (.tup ys)] => xs.length = ys.length ∧ Φ (zipD xs ys)
  | _ => False
section
variable {X : Cx} {E : XK} {e e2 : Expr} {tl : TA} {ws : WA} {p pos tpos : Pos} {elts : List Expr} {kk : Nat}
theorem di_zip (hg : Gl X "zip") (hm : X.mg "zip" = none) (ha : DA X E [e, e2] tl ws)
    (hs : starEach [e, e2] X.env = (false, eval e X.env) :: starEach [e2] X.env := by rfl) (hpl : (backTo pos (starEach [e2] X.env)).any (·.1) = false := by rfl) :
    DI X E (.Tuple elts kk tpos) (.Call (.Name "zip" p) [e, e2] [] pos) (RZ.iZipA X.K tl) (wiZ ws) := by
  refine ⟨RZ.pi_zipA hg hm ha.p hs hpl, fun δ M σ H ρ R Φ Q h k => ?_⟩
  refine ha.a δ M σ H ρ R _ _ h fun vs H1 ss e1 r1 _ _ h1 => ?_
  split at h1
  · obtain ⟨v, v', rfl, rr, rr'⟩ := paired2 r1
    cases rr with
    | d rd =>
      cases rr' with
      | d rd' =>
        cases rd with
        | tup n s rl =>
          cases rd' with
          | tup n' s' rl' =>
            rename_i xs ys _ a vs b us
            obtain ⟨hl, h1⟩ := h1
            have nb : ∀ B' : Addr → Prop, (∀ b, B' b → Bn δ M b ∨ H1 b = none) → ¬ B' a := fun B' hB z => (hB a z).elim n (rd_there s)
            have nb' : ∀ B' : Addr → Prop, (∀ b, B' b → Bn δ M b ∨ H1 b = none) → ¬ B' b := fun B' hB z => (hB b z).elim n' (rd_there s')
            refine ⟨a, b, vs, us, rfl, .inr ⟨SqT.of s, SqT.of s', k _ H1 _ e1 ⟨fun B' hB H2 i kp hi => ?_, fun B' hB H2 i kp hi => ?_, fun B' hB H2 i x v H3 kp hN hx y => ?_⟩ h1⟩⟩
            · rw [zipD_len hl] at hi
              obtain ⟨u, hu, _⟩ := rl.at (List.getElem?_eq_getElem hi)
              obtain ⟨u', hu', _⟩ := rl'.at (List.getElem?_eq_getElem (by rw [← hl]; exact hi))
              exact ⟨vs, us, u, u', st_same s (nb B' hB) kp, st_same s' (nb' B' hB) kp, hu, hu'⟩
            · rw [zipD_len hl] at hi
              exact ⟨vs, us, st_same s (nb B' hB) kp, st_same s' (nb' B' hB) kp, .inl (by rw [rl.length]; exact hi)⟩
            · obtain ⟨T, z, z', rfl, hT, rfl, y, y'⟩ := y
              obtain ⟨q, q', hq, hq', rfl⟩ := zipD_at hx
              obtain ⟨u, hu, ru⟩ := rl.at hq
              obtain ⟨u', hu', ru'⟩ := rl'.at hq'
              have hv := y vs (st_same s (nb B' hB) kp)
              have hv' := y' us (st_same s' (nb' B' hB) kp)
              rw [hu] at hv
              cases hv
              rw [hu'] at hv'
              cases hv'
              exact ⟨Kept.new hT, .tup (fun z => hN T z hT) upd_same (.cons (((ru.less hB).keep kp).keep (Kept.new hT)) (.cons (((ru'.less hB).keep kp).keep (Kept.new hT)) .nil))⟩
  · exact h1.elim
end
/-- an __init__ called where it raises nothing -/
theorem _root_.L2.FnOk.calmI {Pr : Program} {w : World} {K : PySem.W.Frag} {mg : Str → Option Value} {base : Heap} {k n : Nat} {f C : Addr} {fd : FuncData} {ps : List Str} {P : List S → (List Str → List D → Prop) → (XD → Prop) → Prop} (F : FnOk Pr w K mg base (L2N.CX Pr w) k f fd ps (spInit C n P)) :
    FnOk Pr w K mg base CX0 k f fd ps (spInit C n fun ss Φ _ => P ss Φ fun _ => False) := by
  have cv : ∀ {vs : List V} {H : Hp} {Q : VK} {E : XK}, spInit C n (fun ss Φ _ => P ss Φ fun _ => False) vs H Q E → spInit C n P vs H Q E0 := fun {vs H Q E} ⟨δ, M, x, dx, rest, ss, Φ, Ψ, h1, h2, h3, h4, h5, h6, h7, h8, h9, h10, h11, h12⟩ => ⟨δ, M, x, dx, rest, ss, Φ, fun _ => False, h1, h2, h3, h4, h5, h6, h7, h8, h9, h10, h11, fun _ _ _ _ _ _ z => z.elim⟩
  refine ⟨fun vs H Q E h => F.len vs H Q E0 (cv h), fun A outer s H args us vs Q E hr he hb hv h => codeAny_mono (F.run A outer s H args us vs Q E0 hr he hb hv (cv h)) fun r s' hq => ?_⟩
  cases r with
  | ok fl => cases fl <;> exact hq
  | error e =>
    have hq' : L2N.CX Pr w outer H s E0 e s' := hq
    unfold L2N.CX at hq'
    obtain ⟨_, _, _, _, _, _, _, _, _, _, _, _, z⟩ := hq'
    exact False.elim z
end Dl
namespace Gh
open PySem L2 Dl
/-- the object of a gate -/
def gF (g : Gt) : List D := [.tup (g.bs.map dBox), dProgs g, .tup (g.hs.map fun h => .int h.1), .tup (g.hs.map fun h => .int ((inns h.2).headD 0 : Nat))]
def PN_init (ss : List S) (Φ : List Str → List D → Prop) : Prop := ∃ g : Gt, ss = [.d (dBoxes g.bs), .d (.lst (g.hs.map dHand))] ∧ g.bs.length ≤ 20 ∧ g.hs.length ≤ 50 ∧ (∀ h ∈ g.hs, h.2.length ≤ 90) ∧ gateB g = none ∧ Φ ["pairs", "programs", "knocks", "insides"] (gF g)
theorem gF_ok {C : Addr} {g : Gt} (og : OkGate g) : D.obj C ["pairs", "programs", "knocks", "insides"] (gF g) = dObj C g := by
  unfold gF dObj
  have e : (g.hs.map fun h => D.int ((inns h.2).headD 0 : Nat)) = g.hs.map fun h => D.int (inAt h) := List.map_congr_left fun h hh => by
    obtain ⟨a1, a2, a3, a4, a5⟩ := inAt_ok (og.hs h hh)
    rw [inns_of a1 a3]
    rfl
  rw [e]
theorem gateB_ok {g : Gt} (og : OkGate g) : gateB g = none := by
  unfold gateB
  rw [boxesB_ok og.bs]
  show (if 1 ≤ g.hs.length ∧ g.hs.length ≤ 4 then firstB (handB g.bs) 0 g.hs else some (("hands" : Str), (0 : Int), (0 : Int))) = none
  rw [if_pos ⟨og.h1, og.h4⟩]
  exact firstB_none fun i y hy => handB_ok (og.hs y (List.mem_of_getElem? hy))
theorem firstB_all {α : Type} {p : Nat → α → Option Bd} : ∀ {l : List α} {n : Nat}, firstB p n l = none → ∀ i y, l[i]? = some y → p (n + i) y = none
  | [], _, _, i, y, h => by simp at h
  | x :: r, n, h, i, y, hy => by
    unfold firstB at h
    split at h
    · cases h
    · rename_i hx
      cases i with
      | zero =>
        simp at hy
        subst hy
        exact hx
      | succ i =>
        have := firstB_all h i y (by simpa using hy)
        rw [show n + 1 + i = n + (i + 1) by omega] at this
        exact this
theorem inns_some {bs : List Box} {n : Nat} {h : Hand} (q : handB bs n h = none) : ∃ i, inns h.2 = [i] := by
  unfold handB at q
  split at q
  · cases q
  · unfold knockB at q
    split at q
    · rename_i i e
      exact ⟨i, e⟩
    · cases q
theorem gateB_hand {g : Gt} (q : gateB g = none) {i : Nat} {h : Hand} (hi : g.hs[i]? = some h) : ∃ k, inns h.2 = [k] := by
  unfold gateB at q
  split at q
  · cases q
  · unfold handsB at q
    split at q
    · exact inns_some (firstB_all q i h hi)
    · cases q
def PW_boxes (C : Addr) (ss : List S) (Φ : D → Prop) : Prop := ∃ g, ss = [.d (dObj C g)] ∧ Φ (dBoxes g.bs)
def PW_hands (C : Addr) (ss : List S) (Φ : D → Prop) : Prop := ∃ g, ss = [.d (dObj C g)] ∧ g.hs.length ≤ 50 ∧ Φ (.lst (g.hs.map dHand))
end Gh
namespace Dl
open PySem PySem.Spec PyProof.Rows L2
theorem dss_turns {X : Cx} {E : XK} (K : PySem.W.Frag) {e1 e2 e3 ef e4 ec3 ec4 : Expr} {te1 te2 tf t3 t4 : TE} {tt3 tt4 : TT} {w1 wf wc3 wc4 : Env → (List D → Prop) → Prop} {w2 : WE} {w3 w4 : WT} {wr : WS} {tr3 tr4 u : TS} {S1 S2 S3 S4 F1 F2 F3 F4 : Stmt} {rest : List Stmt}
    (P1 : PE X e1 te1 → PS X S1 (tAsg te1 (gName 3))) (P2 : PE X e2 te2 → PS X S2 (tAsg te2 (gName 4))) (P3 : PT X e3 tt3 → PS X S3 (tIfS tt3 tr3 tNext))
    (P4 : ∀ tb, PSs X [F1, F2, F3, F4] tb → PS X S4 (tFor (iRng1 (tCons (tC (.int 2)) tNil)) (gName 5) tb))
    (Q1 : PE X ef tf → PS X F1 (tAsg tf (gName 6))) (Q2 : PT X e4 tt4 → PS X F2 (tIfS tt4 tr4 tNext))
    (Q3 : PE X ec3 t3 → PS X F3 (tFor (iList K t3) (gTup K 2 (gCons (gName 7) (gCons (gName 8) gNil))) (tDrop (tBM0 K "list" rClear (tVar 8)))))
    (Q4 : PE X ec4 t4 → PS X F4 (tFor (iList K t4) (gName 9) (tDrop (tBM0 K "list" rClear (tVar 9)))))
    (h1 : DFN E X e1 te1 w1) (h2 : DE X E e2 te2 w2) (h3 : DT X E e3 tt3 w3) (hf : DFN E X ef tf wf) (h4 : DT X E e4 tt4 w4) (c3 : DF X E ec3 t3 wc3) (c4 : DF X E ec4 t4 wc4) (hr : DSs X E rest u wr) :
    DSs X E (S1 :: S2 :: S3 :: S4 :: rest) (tSeq (tAsg te1 (gName 3)) (tSeq (tAsg te2 (gName 4)) (tSeq (tIfS tt3 tr3 tNext) (tSeq (tFor (iRng1 (tCons (tC (.int 2)) tNil)) (gName 5)
      (tSeq (tAsg tf (gName 6)) (tSeq (tIfS tt4 tr4 tNext) (tSeq (tFor (iList K t3) (gTup K 2 (gCons (gName 7) (gCons (gName 8) gNil))) (tDrop (tBM0 K "list" rClear (tVar 8)))) (tFor (iList K t4) (gName 9) (tDrop (tBM0 K "list" rClear (tVar 9)))))))) u))))
      (wTurns w1 w2 w3 wf w4 wc3 wc4 wr) :=
  ⟨pss_cons (P1 h1.p) (pss_cons (P2 h2.p) (pss_cons (P3 h3.p) (pss_cons (P4 _ (pss_cons (Q1 hf.p) (pss_cons (Q2 h4.p) (pss_cons (Q3 c3.p) (pss_one (Q4 c4.p)))))) hr.p))), abs_turns h1.a h2.a h3.a hf.a h4.a c3.a c4.a hr.a⟩
end Dl
namespace Dl
open PySem L2
mutual
theorem py_refl : ∀ d : D, PyData.eqv d.py d.py = true
  | .non => by simp [D.py, PyData.eqv]
  | .bl b => by simp [D.py, PyData.eqv]
  | .int i => by simp [D.py, PyData.eqv]
  | .str x => by simp [D.py, PyData.eqv]
  | .lst xs => by
    have h := pys_refl xs
    simpa [D.py, PyData.eqv] using h
  | .tup xs => by
    have h := pys_refl xs
    simpa [D.py, PyData.eqv] using h
  | .obj .. => by simp [D.py, PyData.eqv]
  | .raw _ => by simp [D.py, PyData.eqv]
theorem pys_refl : ∀ ds : List D, PyData.eqvAll (D.pys ds) (D.pys ds) = true
  | [] => by simp [D.pys, PyData.eqvAll]
  | x :: xs => by
    have h := py_refl x
    have h' := pys_refl xs
    simp [D.pys, PyData.eqvAll, h, h']
end
end Dl
namespace Gh
open PySem L2 Dl
theorem steps_plain1 : ∀ l : List Stp, D.plains (l.map dStp) = true
  | [] => by simp [D.plains]
  | s :: r => by simp [D.plains, dStp_plain s, steps_plain1 r]
theorem boxes_plain1 : ∀ l : List Box, D.plains (l.map dBox) = true
  | [] => by simp [D.plains]
  | s :: r => by simp [D.plains, D.plain, dBox, boxes_plain1 r]
theorem hands_plain1 : ∀ l : List Hand, D.plains (l.map dHand) = true
  | [] => by simp [D.plains]
  | s :: r => by simp [D.plains, D.plain, dHand, steps_plain1, hands_plain1 r]
theorem boxes_lay1 : ∀ l : List Box, PyData.canLayAll0 (D.pys (l.map dBox)) = true
  | [] => by simp [D.pys, PyData.canLayAll0]
  | s :: r => by simp [D.pys, D.py, dBox, PyData.canLayAll0, PyData.canLay0, boxes_lay1 r]
theorem hands_lay1 : ∀ l : List Hand, PyData.canLayAll0 (D.pys (l.map dHand)) = true
  | [] => by simp [D.pys, PyData.canLayAll0]
  | s :: r => by simp [D.pys, D.py, dHand, PyData.canLayAll0, PyData.canLay0, steps_lay, hands_lay1 r]
theorem boxes_depth1 : ∀ l : List Box, PyData.depthAll (D.pys (l.map dBox)) ≤ 1
  | [] => by simp [D.pys, PyData.depthAll]
  | s :: r => by
    have h := boxes_depth1 r
    simp only [List.map_cons, D.pys, PyData.depthAll, dBox, D.py, PyData.depth]
    omega
theorem hands_depth1 : ∀ l : List Hand, PyData.depthAll (D.pys (l.map dHand)) ≤ 4
  | [] => by simp [D.pys, PyData.depthAll]
  | s :: r => by
    have h := hands_depth1 r
    have h2 := steps_depth s.2
    simp only [List.map_cons, D.pys, PyData.depthAll, dHand, D.py, PyData.depth]
    omega
def dGP (g : Gt) : D := .lst [.lst (g.bs.map dBox), .lst (g.hs.map dHand)]
theorem dGP_plain (g : Gt) : (dGP g).plain = true := by simp [dGP, D.plain, D.plains, boxes_plain1, hands_plain1]
theorem dGP_shaped (g : Gt) : SeqAt.shaped (dGP g).py = true := by
  have h1 := boxes_depth1 g.bs
  have h2 := hands_depth1 g.hs
  have h3 : PyData.depth (dGP g).py ≤ 64 := by
    simp only [dGP, D.py, D.pys, PyData.depth, PyData.depthAll]
    omega
  have h4 : PyData.canLay0 (dGP g).py = true := by simp [dGP, D.py, D.pys, PyData.canLay0, PyData.canLayAll0, boxes_lay1, hands_lay1]
  unfold SeqAt.shaped
  rw [h4, decide_eq_true h3]
  rfl
theorem lv_int (n : Nat) (i : Int) : Lv (n + 1) (.int i) := trivial
theorem dStp_lv {bs : List Box} {m : Int} {s : Stp} (n : Nat) (h : match s with | .go _ ns _ => ns.length < 100000 | _ => True) : Lv (n + 3) (dStp s) := by
  cases s with
  | put b x => exact ⟨by show 3 < 100000; omega, fun d hd => by
      rcases List.mem_cons.mp hd with rfl | hd
      · exact trivial
      rcases List.mem_cons.mp hd with rfl | hd
      · exact trivial
      rcases List.mem_cons.mp hd with rfl | hd
      · exact trivial
      · cases hd⟩
  | inn => exact ⟨by show 1 < 100000; omega, fun d hd => by
      rcases List.mem_cons.mp hd with rfl | hd
      · exact trivial
      · cases hd⟩
  | go b ns x => exact ⟨by show 4 < 100000; omega, fun d hd => by
      rcases List.mem_cons.mp hd with rfl | hd
      · exact trivial
      rcases List.mem_cons.mp hd with rfl | hd
      · exact trivial
      rcases List.mem_cons.mp hd with rfl | hd
      · exact ⟨by rw [List.length_map]; exact h, fun y hy => by
          obtain ⟨i, _, rfl⟩ := List.mem_map.mp hy
          exact trivial⟩
      rcases List.mem_cons.mp hd with rfl | hd
      · exact trivial
      · cases hd⟩
theorem dGP_lv {g : Gt} (hb : g.bs.length < 100000) (hh : g.hs.length < 100000) (hl : ∀ h ∈ g.hs, h.2.length < 100000 ∧ ∀ s ∈ h.2, match s with | .go _ ns _ => ns.length < 100000 | _ => True) : Lv 7 (dGP g) := by
  refine ⟨by show 2 < 100000; omega, fun d hd => ?_⟩
  rcases List.mem_cons.mp hd with rfl | hd
  · refine ⟨by rw [List.length_map]; exact hb, fun y hy => ?_⟩
    obtain ⟨b, _, rfl⟩ := List.mem_map.mp hy
    refine ⟨by show 2 < 100000; omega, fun z hz => ?_⟩
    rcases List.mem_cons.mp hz with rfl | hz
    · exact trivial
    rcases List.mem_cons.mp hz with rfl | hz
    · exact trivial
    · cases hz
  rcases List.mem_cons.mp hd with rfl | hd
  · refine ⟨by rw [List.length_map]; exact hh, fun y hy => ?_⟩
    obtain ⟨h, hm, rfl⟩ := List.mem_map.mp hy
    obtain ⟨a, b⟩ := hl h hm
    refine ⟨by show 2 < 100000; omega, fun z hz => ?_⟩
    rcases List.mem_cons.mp hz with rfl | hz
    · exact trivial
    rcases List.mem_cons.mp hz with rfl | hz
    · refine ⟨by rw [List.length_map]; exact a, fun z2 hz2 => ?_⟩
      obtain ⟨s, hs, rfl⟩ := List.mem_map.mp hz2
      exact dStp_lv (bs := []) (m := 0) 0 (b s hs)
    · cases hz
  · cases hd
theorem rising_len : ∀ (ns : List Int) (lo hi : Int), ns.Pairwise (· < ·) → (∀ n ∈ ns, lo ≤ n ∧ n ≤ hi) → (ns.length : Int) ≤ max 0 (hi - lo + 1)
  | [], _, _, _, _ => by simp; omega
  | a :: r, lo, hi, hp, hb => by
    have ha := hb a List.mem_cons_self
    obtain ⟨h1, h2⟩ := List.pairwise_cons.mp hp
    have := rising_len r (a + 1) hi h2 fun n hn => ⟨h1 n hn, (hb n (List.mem_cons_of_mem _ hn)).2⟩
    simp only [List.length_cons]
    omega
end Gh

namespace Gh2
open Gh
open PySem L2 Dl
def top (i : Nat) : Stmt := PySem.Challenge.pw_gatehands_k01_gates_refused.main.body.getD i (.Pass ⟨0, 0, 0, 0⟩)
structure Txt (K : PySem.W.Frag) (mg : Str → Option Value) : Prop where
  len : mg "len" = none
  tuple : mg "tuple" = none
  list : mg "list" = none
  range : mg "range" = none
  int : mg "int" = none
  abs : mg "abs" = none
  enumerate : mg "enumerate" = none
  zip : mg "zip" = none
  isinstance : mg "isinstance" = none
  all : mg "all" = none
abbrev s_law_off : Stmt := top 26
abbrev N_law_off : List Str := ["_law_d", "_law_most", "_law_found"]
theorem sc_law_off : FnScope N_law_off ["_law_d", "_law_most"] (defScope s_law_off) := ⟨rfl, rfl, rfl, by decide +kernel, rfl, by decide +kernel, by decide +kernel⟩
abbrev s_law_step : Stmt := top 28
abbrev N_law_step : List Str := ["_law_d", "_law_boxes", "_law_many", "_law_box", "_law_most", "_law_numbers", "_law_number"]
theorem sc_law_step : FnScope N_law_step ["_law_d", "_law_boxes", "_law_many"] (defScope s_law_step) := ⟨rfl, rfl, rfl, by decide +kernel, rfl, by decide +kernel, by decide +kernel⟩
abbrev s_law_dice : Stmt := top 25
abbrev N_law_dice : List Str := ["_law_script", "_law_k", "_law_found", "_law_cell"]
theorem sc_law_dice : FnScope N_law_dice ["_law_script", "_law_k"] (defScope s_law_dice) := ⟨rfl, rfl, rfl, by decide +kernel, rfl, by decide +kernel, by decide +kernel⟩
section
variable {Pr : Program} {w : World} {K : PySem.W.Frag} {mg : Str → Option Value} {base : Heap} {f f1 : Addr} {fd fd1 : FuncData}
theorem ixN_of {n j : Nat} (h : j < n) : ixN n (j : Int) = some j := by
  unfold ixN
  rw [if_pos (Int.natCast_nonneg j), if_pos (by omega)]
  simp
theorem Ext.dice {δ : Option Addr} {H : Hp} {a : Addr} {ns : List Int} (ha : δ = some a) (hl : 2 ≤ ns.length) : Ext δ H (upd H a (.lst (ns.map V.int))) :=
  ⟨fun b o e n => by rw [upd_ne (fun z => n (by rw [z]; exact ha))]; exact e, fun b hb _ => by
    rw [ha] at hb
    cases hb
    exact ⟨ns, upd_same, hl⟩⟩
theorem ok_law_off (F : Fun K "_law_off" "_law_off" s_law_off f fd) (T : Txt K mg) : FnOk Pr w K mg base CX0 1 f fd ["_law_d", "_law_most"] (spD 2 P_off) := by
  refine F.ok sc_law_off (fun vs H Q E h => ?_) (fun cdv A outer s H vs Q E hr h => ?_)
  · obtain ⟨_, _, _, _, h, _⟩ := h
    exact h
  · obtain ⟨δ, M, ss, Φ, hl, hp, no, hM, hd, ⟨m, rfl, m0, m1, hΦ⟩, k⟩ := h
    obtain ⟨v1, v2, rfl, r1, r2⟩ := paired2 hp
    cases r1 with
    | dice e1 d1 =>
    cases r2 with
    | d r2 =>
    cases r2
    rename_i a
    obtain ⟨ns, ha, hl2⟩ := d1
    obtain ⟨n0, n1, rs, rfl⟩ : ∃ n0 n1 rs, ns = n0 :: n1 :: rs := by
      match ns, hl2 with
      | n0 :: n1 :: rs, _ => exact ⟨n0, n1, rs, rfl⟩
    have out : ∀ H' ns' r, H' = upd H a (.lst (List.map V.int ns')) → 2 ≤ ns'.length → 0 ≤ r → r < m → Q (.int r) H' := fun H' ns' r e l r0 r1 => by
      subst e
      exact k _ _ _ (Ext.dice e1 l) (.int r) (hΦ r r0 r1)
    refine ⟨_, pss_cons (ps_if (PW.pt (pw_and (pt_cmpR op_eq (pe_ix ix_list (pv 0) pe_int (fun _ _ => rfl)) pe_int (nomark _)) (pw_and1 (pt_cmpR op_gt (pe_callB call_len_seq rfl T.len PySem.boot_len (pa_cons (pv 0) pa_nil)) pe_int (nomark _)))))
        (pss_one (ps_asg (pe_bm PySem.F.plainAttrs_list PySem.F.slot_list_pop PySem.F.type_list_pop mt_popAt (pv 0) (pa_cons pe_int pa_nil)) (pg_sub (pv 0) pe_int set_list))) pss_nil)
      (pss_cons (ps_if (pt_cmpR op_gt (pe_ix ix_list (pv 0) pe_int (fun _ _ => rfl)) pe_int (nomark _))
        (pss_cons (ps_set (i := 2) sc_law_off.nd rfl (Or.inl rfl) (pe_op op_mod (pe_ix ix_list (pv 0) pe_int (fun _ _ => rfl)) (pv 1)))
        (pss_cons (ps_asg (pe_op op_fdiv (pe_ix ix_list (pv 0) pe_int (fun _ _ => rfl)) (pv 1)) (pg_sub (pv 0) pe_int set_list))
        (pss_one (ps_ret (pv 2))))) pss_nil)
      (pss_cons (ps_asg (pe_op op_mod (pe_op op_add (pe_op op_mul (pe_ix ix_list (pv 0) pe_int (fun _ _ => rfl)) pe_int) pe_int) pe_int) (pg_sub (pv 0) pe_int set_list))
      (pss_one (ps_ret (pe_op op_mod (pe_op op_fdiv (pe_ix ix_list (pv 0) pe_int (fun _ _ => rfl)) pe_int) (pv 1)))))), ?_⟩
    have hmm : ∀ x : Int, 0 ≤ x % m ∧ x % m < m := fun x => ⟨Int.emod_nonneg _ (by omega), Int.emod_lt_of_pos _ m0⟩
    refine ⟨_, rfl, a, _, 1, .int n1, rfl, rfl, SqL.of ha, at_of (j := 1) rfl rfl, rfl, _, rfl, iteD (fun e => ?_) (fun e => ?_)⟩
    · refine ⟨_, rfl, a, _, rfl, .inl (SqL.of ha), _, _, rfl, rfl, _, rfl, iteD (fun e => ?_) (fun e => ?_)⟩
      · obtain ⟨n2, rt, rfl⟩ : ∃ n2 rt, rs = n2 :: rt := by
          match rs, e with
          | n2 :: rt, _ => exact ⟨n2, rt, rfl⟩
          | [], e => exact absurd e (by simp)
        refine ⟨_, rfl, .inl ⟨rfl, _, SqL.of ha⟩, a, _, 2, 2, .int n2, rfl, rfl, ha, by decide, by decide, ?_, rfl, ?_⟩
        · show seqIndex? 2 (List.map V.int (n0 :: n1 :: n2 :: rt)).length = some 2
          simp [seqIndex?]
          omega
        refine ⟨_, rfl, a, _, 1, 1, rfl, rfl, upd_same, ixN_of (j := 1) (by simp), ?_⟩
        have h1 : (upd (upd H a (.lst (List.eraseIdx (List.map V.int (n0 :: n1 :: n2 :: rt)) 2))) a (.lst (List.set (List.eraseIdx (List.map V.int (n0 :: n1 :: n2 :: rt)) 2) 1 (.int n2)))) a = some (.lst (List.map V.int (n0 :: n2 :: rt))) := upd_same
        refine ⟨_, rfl, a, _, 1, .int n2, rfl, rfl, SqL.of h1, at_of (j := 1) rfl rfl, _, _, rfl, rfl, _, rfl, iteD (fun e => ?_) (fun e => ?_)⟩
        · refine ⟨_, rfl, a, _, 1, .int n2, rfl, rfl, SqL.of h1, at_of (j := 1) rfl rfl, _, rfl, _, _, rfl, rfl, m0, ?_⟩
          refine ⟨_, rfl, a, _, 1, .int n2, rfl, rfl, SqL.of h1, at_of (j := 1) rfl rfl, _, rfl, _, _, rfl, rfl, ⟨m0, by omega⟩, ?_⟩
          refine ⟨_, rfl, a, _, 1, 1, rfl, rfl, h1, ixN_of (j := 1) (by simp), ?_⟩
          refine ⟨_, rfl, out _ (n0 :: (n2 / m) :: rt) _ (by rw [upd_upd, upd_upd]; rfl) (by simp) (hmm _).1 (hmm _).2⟩
        · refine ⟨_, rfl, a, _, 0, .int n0, rfl, rfl, SqL.of h1, at_of (j := 0) rfl rfl, _, _, rfl, rfl, .inr ⟨by decide, by decide⟩, _, _, rfl, rfl, _, _, rfl, rfl, by show (0 : Int) < 2147483647; decide, ?_⟩
          refine ⟨_, rfl, a, _, 0, 0, rfl, rfl, h1, ixN_of (j := 0) (by simp), ?_⟩
          refine ⟨_, rfl, a, _, 0, _, rfl, rfl, SqL.of upd_same, at_of (j := 0) rfl rfl, _, _, rfl, rfl, ⟨by decide, by decide⟩, ?_⟩
          refine ⟨_, rfl, _, _, rfl, rfl, m0, out _ (((n0 * 48271 + 11) % 2147483647) :: n2 :: rt) _ (by rw [upd_upd, upd_upd]; rfl) (by simp) (hmm _).1 (hmm _).2⟩
      · refine ⟨_, rfl, a, _, 1, .int n1, rfl, rfl, SqL.of ha, at_of (j := 1) rfl rfl, _, _, rfl, rfl, _, rfl, iteD (fun e => ?_) (fun e => ?_)⟩
        · refine ⟨_, rfl, a, _, 1, .int n1, rfl, rfl, SqL.of ha, at_of (j := 1) rfl rfl, _, rfl, _, _, rfl, rfl, m0, ?_⟩
          refine ⟨_, rfl, a, _, 1, .int n1, rfl, rfl, SqL.of ha, at_of (j := 1) rfl rfl, _, rfl, _, _, rfl, rfl, ⟨m0, by omega⟩, ?_⟩
          refine ⟨_, rfl, a, _, 1, 1, rfl, rfl, ha, ixN_of (j := 1) (by simp), ?_⟩
          refine ⟨_, rfl, out _ (n0 :: (n1 / m) :: rs) _ rfl (by simp) (hmm _).1 (hmm _).2⟩
        · refine ⟨_, rfl, a, _, 0, .int n0, rfl, rfl, SqL.of ha, at_of (j := 0) rfl rfl, _, _, rfl, rfl, .inr ⟨by decide, by decide⟩, _, _, rfl, rfl, _, _, rfl, rfl, by show (0 : Int) < 2147483647; decide, ?_⟩
          refine ⟨_, rfl, a, _, 0, 0, rfl, rfl, ha, ixN_of (j := 0) (by simp), ?_⟩
          refine ⟨_, rfl, a, _, 0, _, rfl, rfl, SqL.of upd_same, at_of (j := 0) rfl rfl, _, _, rfl, rfl, ⟨by decide, by decide⟩, ?_⟩
          refine ⟨_, rfl, _, _, rfl, rfl, m0, out _ (((n0 * 48271 + 11) % 2147483647) :: n1 :: rs) _ rfl (by simp) (hmm _).1 (hmm _).2⟩
    · refine ⟨_, rfl, a, _, 1, .int n1, rfl, rfl, SqL.of ha, at_of (j := 1) rfl rfl, _, _, rfl, rfl, _, rfl, iteD (fun e => ?_) (fun e => ?_)⟩
      · refine ⟨_, rfl, a, _, 1, .int n1, rfl, rfl, SqL.of ha, at_of (j := 1) rfl rfl, _, rfl, _, _, rfl, rfl, m0, ?_⟩
        refine ⟨_, rfl, a, _, 1, .int n1, rfl, rfl, SqL.of ha, at_of (j := 1) rfl rfl, _, rfl, _, _, rfl, rfl, ⟨m0, by omega⟩, ?_⟩
        refine ⟨_, rfl, a, _, 1, 1, rfl, rfl, ha, ixN_of (j := 1) (by simp), ?_⟩
        refine ⟨_, rfl, out _ (n0 :: (n1 / m) :: rs) _ rfl (by simp) (hmm _).1 (hmm _).2⟩
      · refine ⟨_, rfl, a, _, 0, .int n0, rfl, rfl, SqL.of ha, at_of (j := 0) rfl rfl, _, _, rfl, rfl, .inr ⟨by decide, by decide⟩, _, _, rfl, rfl, _, _, rfl, rfl, by show (0 : Int) < 2147483647; decide, ?_⟩
        refine ⟨_, rfl, a, _, 0, 0, rfl, rfl, ha, ixN_of (j := 0) (by simp), ?_⟩
        refine ⟨_, rfl, a, _, 0, _, rfl, rfl, SqL.of upd_same, at_of (j := 0) rfl rfl, _, _, rfl, rfl, ⟨by decide, by decide⟩, ?_⟩
        refine ⟨_, rfl, _, _, rfl, rfl, m0, out _ (((n0 * 48271 + 11) % 2147483647) :: n1 :: rs) _ rfl (by simp) (hmm _).1 (hmm _).2⟩
def spDice (K : PySem.W.Frag) : Sp := fun vs H Q _ => ∃ (a : Addr) (ns : List Int) (k : Int), vs = [.ref a, .int k] ∧ SqL K H a (ns.map V.int) ∧ ns.length ≤ 63 ∧
  ∀ (p : Addr) (H' : Hp) (ms : List Int), H p = none → Same H H' → H' p = some (.lst (ms.map V.int)) → 2 ≤ ms.length → Q (.ref p) H'
theorem int_at {ns : List Int} {i : Nat} {y : V} (h : (ns.map V.int)[i]? = some y) : i < ns.length ∧ ∃ z, y = V.int z := by
  have hl : i < (ns.map V.int).length := (List.getElem?_eq_some_iff.mp h).1
  rw [List.length_map] at hl
  refine ⟨hl, ?_⟩
  rw [List.getElem?_map, List.getElem?_eq_getElem hl] at h
  exact ⟨_, (Option.some.inj h).symm⟩
theorem ok_law_dice (F : Fun K "_law_dice" "_law_dice" s_law_dice f fd) (T : Txt K mg) : FnOk Pr w K mg base CX0 1 f fd ["_law_script", "_law_k"] (spDice K) := by
  refine F.ok sc_law_dice (fun vs H Q E h => ?_) (fun cdv A outer s H vs Q E hr h => ?_)
  · obtain ⟨_, _, _, rfl, _⟩ := h
    rfl
  · obtain ⟨a, ns, k, rfl, hS, hl, hQ⟩ := h
    refine ⟨_, pss_cons (ps_set (i := 2) sc_law_dice.nd rfl (Or.inl rfl) (pv 1))
      (pss_cons (ps_for PassesOwn.never rfl (pi_list (pv 0)) (pg_name (i := 3) sc_law_dice.nd rfl (Or.inl rfl))
        (pss_one (ps_set (i := 2) sc_law_dice.nd rfl (Or.inl rfl) (pe_op op_mod (pe_op op_add (pe_op op_mul (pv 2) pe_int) (pe_callB call_abs rfl T.abs (by decide +kernel) (pa_cons (pv 3) pa_nil))) pe_int))))
      (pss_one (ps_ret (pe_op op_cat (pe_lst (pa_cons (pv 2) (pa_cons pe_int pa_nil)))
        (pe_lc (own := [("_law_cell", 3)]) (g := gName 3) rfl sc_law_dice.nd (pi_list (pv 0)) (blkOk_by (own := [("_law_cell", 3)]) (N := N_law_dice) (sc := defScope s_law_dice) (by decide +kernel)) (fun _ _ _ _ _ => pg_name (i := 3) sc_law_dice.nd rfl (Or.inl rfl))
          (fun _ _ _ _ _ => pts_one (pt_cmpR op_ge (pv 3) (pe_op op_pow pe_int pe_int) (nomark _))) (fun _ _ _ _ _ => pv 3)))))), ?_⟩
    refine ⟨_, rfl, ?_⟩
    refine ⟨_, rfl, a, rfl, ⟨_, hS⟩, for_list (K := K) (a := a) (xs := ns.map V.int) (fun i σ H2 => H2 = H ∧ ∃ (z : Int) (c : Option V), σ = [some (.ref a), some (.int k), some (.int z), c]) ⟨rfl, k, none, rfl⟩ (fun i σ H2 _ ⟨e, _⟩ => by rw [e]; exact hS) ?_ ?_⟩
    · rintro i y σ H2 hi ⟨rfl, z, c, rfl⟩
      obtain ⟨_, c, rfl⟩ := int_at hi
      exact ⟨_, rfl, _, _, rfl, rfl, .inr ⟨by decide, by decide⟩, _, rfl, _, rfl, _, _, rfl, rfl, _, _, rfl, rfl, by show (0 : Int) < 2147483647; decide, rfl, _, _, rfl⟩
    · rintro σ H2 ⟨rfl, z, c, rfl⟩
      refine ⟨_, rfl, by show 2 ≤ sizeLine; decide, fun p hp => ?_⟩
      refine ⟨_, rfl, a, rfl, ⟨_, (show Same H2 _ from fun b o e => by rw [upd_ne (ne_of_none e hp)]; exact e).seq hS⟩, fun D hD => ?_⟩
      have hDp : D ≠ p := fun e => by rw [e, upd_same] at hD; cases hD
      have hDH : H2 D = none := by rw [upd_ne hDp] at hD; exact hD
      have keep : ∀ o o', Same H2 (upd (upd H2 p o) D o') := fun o o' b u e => by rw [upd_ne (ne_of_none e hDH), upd_ne (ne_of_none e hp)]; exact e
      refine lc_list (K := K) (a := a) (xs := ns.map V.int) (fun i H3 => ∃ ms : List Int, ms.length ≤ i ∧ H3 = upd (upd H2 p (.lst [.int z, .int 0])) D (.lst (ms.map V.int))) ⟨[], Nat.le_refl _, rfl⟩ (fun i H3 _ ⟨ms, _, e⟩ => by rw [e]; exact (keep _ _).seq hS) ?_ ?_
      · rintro i y H3 hi ⟨ms, hm, rfl⟩
        obtain ⟨hi', c, rfl⟩ := int_at hi
        refine ⟨rfl, _, rfl, _, _, rfl, rfl, ⟨by decide, by decide, by decide⟩, _, _, rfl, rfl, _, rfl, iteD (fun _ => ?_) (fun _ => ?_)⟩
        · refine ⟨_, rfl, _, upd_same, by rw [List.length_map]; exact Dl.sz_lt (by omega), ms ++ [c], by rw [List.length_append]; exact Nat.succ_le_succ hm, ?_⟩
          rw [upd_upd, List.map_append]
          rfl
        · exact ⟨ms, Nat.le_succ_of_le hm, rfl⟩
      · rintro H3 ⟨ms, hm, rfl⟩
        rw [List.length_map] at hm
        refine ⟨p, D, _, _, rfl, rfl, by rw [upd_ne (Ne.symm hDp)]; exact upd_same, upd_same, by rw [List.length_map]; exact Dl.sz_of (by show 2 + ms.length ≤ 100000; omega), fun q hq => ?_⟩
        have hqH : H2 q = none := by
          cases e : H2 q with
          | none => rfl
          | some o => rw [keep _ _ q o e] at hq; cases hq
        refine hQ q _ (z :: 0 :: ms) hqH (fun b u e => ?_) upd_same (by simp)
        rw [upd_ne (ne_of_none e hqH)]
        exact keep _ _ b u e
end
end Gh2

/-! A tuple written in the module: compared with a value at any depth. -/
namespace Dl
open PySem L2 PyProof.Rows
def GlW (K : PySem.W.Frag) (mg : Str → Option Value) (x : Str) (d : D) : Prop := ∃ (v : V) (u : Value), mg x = some u ∧ RelV v u ∧ ∀ H : Hp, Dp K H v d.py
theorem de_globW {X : Cx} {E : XK} {K : PySem.W.Frag} {mg : Str → Option Value} {x : Str} {pos : Pos} {d : D} (h : GlW K mg x d) (hg : Gl X x := by rfl) (hd : (x == ("__debug__" : Str)) = false := by decide) (hm : X.mg = mg := by rfl) : DE X E (.Name x pos) (tC h.choose) (wC (.raw h.choose)) :=
  de_glob hg (by rw [hm]; exact h.choose_spec.choose_spec.1) h.choose_spec.choose_spec.2.1 (fun _ _ => .raw _) hd
def wEqW (v : V) (f : D) : WR := fun d g Φ => g = .raw v ∧ d.plain = true ∧ SeqAt.shaped d.py = true ∧ SeqAt.shaped f.py = true ∧ Φ (.bl (PyData.eqv d.py f.py))
theorem ar_eqW {K : PySem.W.Frag} {mg : Str → Option Value} {x : Str} {f : D} (h : GlW K mg x f) : AbsR (fun x y H Q => rEq x y H Q ∨ rEqD K x y H Q) (wEqW h.choose f) := by
  intro δ M H fr x y d g rx ry Φ Q h0 k
  obtain ⟨rfl, h1, h3, h4, h5⟩ := h0
  have e : y = h.choose := by cases ry; rfl
  subst e
  exact .inr ⟨_, _, rx.dp h1, h.choose_spec.choose_spec.2.2 H, h3, h4, k _ H _ (Ext.refl H) (.bl _) h5⟩
def inB (K : PySem.W.Frag) : Value → Bool
  | .ref a => (match K.lookup a with
    | some ⟨.type t, _, .seq its _, _⟩ => decide (t = "tuple") && (match its.toList with
      | [.str z _] => decide (z = "in")
      | _ => false)
    | _ => false)
  | _ => false
def gB (x : Str) (K : PySem.W.Frag) : Bool := match PySem.W.nsIn K mainGlobals x with
  | some (some u) => inB K u
  | _ => false
theorem gB_ok {K : PySem.W.Frag} {h : Heap} {mg : Str → Option Value} {x : Str} (X : K.In h) (G : h.Ns mainGlobals mg) (c : gB x K = true) : GlW K mg x (.tup [.str "in"]) := by
  unfold gB at c
  split at c
  · rename_i u e
    cases u with
    | ref a =>
      simp only [inB] at c
      split at c
      · rename_i t dd its n sl e2
        obtain ⟨c1, c2⟩ := Bool.and_eq_true_iff.mp c
        have e1 : t = "tuple" := of_decide_eq_true c1
        subst e1
        split at c2
        · rename_i z tk e3
          have e4 : z = "in" := of_decide_eq_true c2
          subst e4
          refine ⟨.ref a, .ref a, PySem.W.mg_of X G e, rfl, fun H => ?_⟩
          have sz : its.size = 1 := by rw [← Array.length_toList, e3]; rfl
          exact .tup (xs := [.str "in"]) (.inr ⟨_, its, n, e2, rfl, rfl, by rw [sz]; decide, by rw [e3]; exact .cons ⟨tk, rfl⟩ .nil⟩) (.cons (.str "in") .nil)
        · cases c2
      · cases c
    | _ => simp [inB] at c
  · cases c
end Dl
namespace Gh
open PySem L2 Dl
theorem eq_inW {s : Stp} {v : V} {Φ : D → Prop} (h : Φ (.bl (decide (s = .inn)))) : wEqW v (.tup [.str "in"]) (dStp s) (.raw v) Φ :=
  ⟨rfl, dStp_plain s, dStp_shaped s, dStp_shaped .inn, by rw [eqv_in]; exact h⟩
end Gh
namespace Gh
open PySem L2 Dl
def top (i : Nat) : Stmt := PySem.Challenge.pw_gatehands_k01_gates_refused.main.body.getD i (.Pass ⟨0, 0, 0, 0⟩)
structure Txt (K : PySem.W.Frag) (mg : Str → Option Value) (cG : Addr) : Prop where
  len : mg "len" = none
  tuple : mg "tuple" = none
  list : mg "list" = none
  range : mg "range" = none
  int : mg "int" = none
  abs : mg "abs" = none
  enumerate : mg "enumerate" = none
  zip : mg "zip" = none
  isinstance : mg "isinstance" = none
  all : mg "all" = none
  bool : mg "bool" = none
  str : mg "str" = none
  dict : mg "dict" = none
  clGate : Cls K cG
  noGate_pairs : NoAttr K cG "pairs"
  noGate_programs : NoAttr K cG "programs"
  noGate_knocks : NoAttr K cG "knocks"
  noGate_insides : NoAttr K cG "insides"
  c_MOST_BOXES : ∃ t, mg "MOST_BOXES" = some (.int 12 t)
  c_MOST_IN_BOX : ∃ t, mg "MOST_IN_BOX" = some (.int 9 t)
  c_MOST_HANDS : ∃ t, mg "MOST_HANDS" = some (.int 4 t)
  c_FEWEST_STEPS : ∃ t, mg "FEWEST_STEPS" = some (.int 2 t)
  c_MOST_STEPS : ∃ t, mg "MOST_STEPS" = some (.int 24 t)
  d_IN : GlW K mg "IN" (.tup [.str "in"])
structure EA where
  BadGate : Addr
  NoHand : Addr
  TooMany : Addr
  TwoWithin : Addr
  OtherGate : Addr
  BadText : Addr
structure ETx (mg : Str → Option Value) (ea : EA) : Prop where
  x_BadGate : mg "BadGate" = some (.ref ea.BadGate)
  x_NoHand : mg "NoHand" = some (.ref ea.NoHand)
  x_TooMany : mg "TooMany" = some (.ref ea.TooMany)
  x_TwoWithin : mg "TwoWithin" = some (.ref ea.TwoWithin)
  x_OtherGate : mg "OtherGate" = some (.ref ea.OtherGate)
  x_BadText : mg "BadText" = some (.ref ea.BadText)
  ValueError : mg "ValueError" = none
structure IsC (K : PySem.W.Frag) (ea : EA) (D : Addr) (b0 b1 b2 b3 b4 b5 : Bool) : Prop where
  c : ExcC K D
  k_ValueError : PySem.W.kitOne K (.ref D) (.type "ValueError") = some true
  k_BadGate : PySem.W.kitOne K (.ref D) (.ref ea.BadGate) = some b0
  k_NoHand : PySem.W.kitOne K (.ref D) (.ref ea.NoHand) = some b1
  k_TooMany : PySem.W.kitOne K (.ref D) (.ref ea.TooMany) = some b2
  k_TwoWithin : PySem.W.kitOne K (.ref D) (.ref ea.TwoWithin) = some b3
  k_OtherGate : PySem.W.kitOne K (.ref D) (.ref ea.OtherGate) = some b4
  k_BadText : PySem.W.kitOne K (.ref D) (.ref ea.BadText) = some b5
def P_is (a : Addr) (word : Str) (ss : List S) (Φ : D → Prop) : Prop := ss = [.d (.raw (.ref a)), .d (.str word)] ∧ Φ (.bl true)
theorem _root_.L2H.RoomH.units {k : Nat} {A : Around} (r : L2H.RoomH k A) : A.units + 64 < cLine := by have := r.un; omega
def PX_init (aBG : Addr) (ss : List S) (Φ : List Str → List D → Prop) (Ψ : XD → Prop) : Prop := ∃ (g : Gt) (b : Bd), ss = [.d (dBoxes g.bs), .d (.lst (g.hs.map dHand))] ∧ g.bs.length ≤ 20 ∧ g.hs.length ≤ 50 ∧ (∀ h ∈ g.hs, h.2.length ≤ 90) ∧ gateB g = some b ∧ Ψ (bgX aBG b)
def dBad (g : Gt) (b : Bd) : D := .tup [dBoxes g.bs, .lst (g.hs.map dHand), .str b.1, .int b.2.1, .int b.2.2]
def P_refused1 (ss : List S) (Φ : D → Prop) : Prop := ∃ (g : Gt) (b : Bd), ss = [.d (dBad g b)] ∧ g.bs.length ≤ 20 ∧ g.hs.length ≤ 50 ∧ (∀ h ∈ g.hs, h.2.length ≤ 90) ∧ gateB g = some b ∧ Φ (.bl true)
def spDice (K : PySem.W.Frag) : Sp := fun vs H Q _ => ∃ (a : Addr) (ns : List Int) (k : Int), vs = [.ref a, .int k] ∧ SqL K H a (ns.map V.int) ∧ ns.length ≤ 63 ∧
  ∀ (p : Addr) (H' : Hp) (ms : List Int), H p = none → Same H H' → H' p = some (.lst (ms.map V.int)) → 2 ≤ ms.length → Q (.ref p) H'
def spLaw (K : PySem.W.Frag) : Sp := fun vs H Q _ => ∃ (a : Addr) (ns : List Int), vs = [.ref a] ∧ SqL K H a (ns.map V.int) ∧ ns.length ≤ 63 ∧ ∀ H', Q (.bl true) H'
theorem rs_dice {p : Addr} {H : Hp} {σ : L2.St} {n : Nat} (hl : σ.length = n + 2) (h1 : σ[1]? = some (some (.ref p))) (hd : DiceAt H p) : RS (some p) [] H E0 ⟨fun _ => False, fun _ => False⟩ σ H (none :: some .dice :: List.replicate n none) := by
  have no : ∀ {i : Nat} {q : Addr} {xs : List D}, (none :: some S.dice :: List.replicate n (none : Option S))[i]? ≠ some (some (.own q xs)) := fun {i q xs} z => by
    rcases i with _ | _ | i
    · cases z
    · cases z
    · have z' : (List.replicate n (none : Option S))[i]? = some (some (.own q xs)) := z
      have := List.eq_of_mem_replicate (List.mem_of_getElem? z')
      cases this
  refine ⟨⟨[], fun _ h => h, fun _ h => .inl h, ⟨?_, fun i s z => ?_, fun i j q xs ys z => absurd z no, fun b hb => (nomatch hb), fun a ha => by cases ha; exact hd, ⟨H, [], Ext.refl H, (fun b hb => nomatch hb), (fun i q xs z => absurd z no), fun _ _ _ _ _ _ z => False.elim z⟩⟩⟩, KD.refl H, fun a ha => by cases ha; exact hd, fun i q xs z => absurd z no, fun _ z => False.elim z, fun b hb => nomatch hb⟩
  · rw [hl]
    show (List.replicate n (none : Option S)).length + 1 + 1 = n + 2
    rw [List.length_replicate]
  · rcases i with _ | _ | i
    · cases z
    · cases z
      exact ⟨_, h1, .dice rfl hd⟩
    · have z' : (List.replicate n (none : Option S))[i]? = some (some s) := z
      have := List.eq_of_mem_replicate (List.mem_of_getElem? z')
      cases this
abbrev s_law_step : Stmt := top 28
abbrev N_law_step : List Str := ["_law_d", "_law_boxes", "_law_many", "_law_box", "_law_most", "_law_numbers", "_law_number"]
theorem sc_law_step : FnScope N_law_step ["_law_d", "_law_boxes", "_law_many"] (defScope s_law_step) := ⟨rfl, rfl, rfl, by decide +kernel, rfl, by decide +kernel, by decide +kernel⟩
abbrev s_law_program : Stmt := top 29
abbrev N_law_program : List Str := ["_law_d", "_law_boxes", "_law_most", "_law_many", "_law_inner_here", "_law_steps", "_law_at"]
theorem sc_law_program : FnScope N_law_program ["_law_d", "_law_boxes", "_law_most"] (defScope s_law_program) := ⟨rfl, rfl, rfl, by decide +kernel, rfl, by decide +kernel, by decide +kernel⟩
abbrev s_law_pair : Stmt := top 30
abbrev N_law_pair : List Str := ["_law_side", "_law_steps"]
theorem sc_law_pair : FnScope N_law_pair ["_law_side"] (defScope s_law_pair) := ⟨rfl, rfl, rfl, by decide +kernel, rfl, by decide +kernel, by decide +kernel⟩
abbrev s_law_bits : Stmt := top 31
abbrev N_law_bits : List Str := ["_law_hand", "_law_many", "_law_steps", "_law_other", "_law_at"]
theorem sc_law_bits : FnScope N_law_bits ["_law_hand", "_law_many"] (defScope s_law_bits) := ⟨rfl, rfl, rfl, by decide +kernel, rfl, by decide +kernel, by decide +kernel⟩
abbrev s_law_counter : Stmt := top 32
abbrev N_law_counter : List Str := ["_law_many", "_law_steps", "_law_box", "_law_at"]
theorem sc_law_counter : FnScope N_law_counter ["_law_many"] (defScope s_law_counter) := ⟨rfl, rfl, rfl, by decide +kernel, rfl, by decide +kernel, by decide +kernel⟩
abbrev s_law_gate : Stmt := top 33
abbrev N_law_gate : List Str := ["_law_d", "_law_way", "_law_many", "_law_boxes", "_law_k", "_law_most", "_law_hands", "_law_hand", "_law_knock", "_law_steps", "_law_at"]
theorem sc_law_gate : FnScope N_law_gate ["_law_d"] (defScope s_law_gate) := ⟨rfl, rfl, rfl, by decide +kernel, rfl, by decide +kernel, by decide +kernel⟩
abbrev s_law_alike : Stmt := top 27
abbrev N_law_alike : List Str := ["_law_found", "_law_due", "_law_name", "_law_k"]
theorem sc_law_alike : FnScope N_law_alike ["_law_found", "_law_due"] (defScope s_law_alike) := ⟨rfl, rfl, rfl, by decide +kernel, rfl, by decide +kernel, by decide +kernel⟩
abbrev s_law_inner : Stmt := top 34
abbrev N_law_inner : List Str := ["_law_t", "_law_hand"]
theorem sc_law_inner : FnScope N_law_inner ["_law_t", "_law_hand"] (defScope s_law_inner) := ⟨rfl, rfl, rfl, by decide +kernel, rfl, by decide +kernel, by decide +kernel⟩
abbrev s_Gate_many : Stmt := inClass (top 15) 3
abbrev N_Gate_many : List Str := ["self"]
theorem sc_Gate_many : FnScope N_Gate_many ["self"] (defScope s_Gate_many) := ⟨rfl, rfl, rfl, by decide +kernel, rfl, by decide +kernel, by decide +kernel⟩
abbrev s_can_be_put : Stmt := top 21
abbrev N_can_be_put : List Str := ["boxes", "box", "number"]
theorem sc_can_be_put : FnScope N_can_be_put ["boxes", "box", "number"] (defScope s_can_be_put) := ⟨rfl, rfl, rfl, by decide +kernel, rfl, by decide +kernel, by decide +kernel⟩
abbrev s_can_be_read : Stmt := top 22
abbrev N_can_be_read : List Str := ["boxes", "box", "numbers", "last", "number"]
theorem sc_can_be_read : FnScope N_can_be_read ["boxes", "box", "numbers"] (defScope s_can_be_read) := ⟨rfl, rfl, rfl, by decide +kernel, rfl, by decide +kernel, by decide +kernel⟩
abbrev s_can_be_step : Stmt := top 20
abbrev N_can_be_step : List Str := ["boxes", "many", "step"]
theorem sc_can_be_step : FnScope N_can_be_step ["boxes", "many", "step"] (defScope s_can_be_step) := ⟨rfl, rfl, rfl, by decide +kernel, rfl, by decide +kernel, by decide +kernel⟩
abbrev s_places_of_in : Stmt := top 23
abbrev N_places_of_in : List Str := ["steps", "number", "step"]
theorem sc_places_of_in : FnScope N_places_of_in ["steps"] (defScope s_places_of_in) := ⟨rfl, rfl, rfl, by decide +kernel, rfl, by decide +kernel, by decide +kernel⟩
abbrev s_law_wrong_step : Stmt := top 36
abbrev N_law_wrong_step : List Str := ["_law_d", "_law_t", "_law_hand", "_law_longer", "_law_boxes", "_law_many", "_law_most", "_law_some"]
theorem sc_law_wrong_step : FnScope N_law_wrong_step ["_law_d", "_law_t", "_law_hand", "_law_longer"] (defScope s_law_wrong_step) := ⟨rfl, rfl, rfl, by decide +kernel, rfl, by decide +kernel, by decide +kernel⟩
abbrev s_law_wrong_hand : Stmt := top 37
abbrev N_law_wrong_hand : List Str := ["_law_d", "_law_t", "_law_hand", "_law_knock", "_law_steps", "_law_inner_here", "_law_way", "_law_at", "_law_longer", "_law_bad", "_law_k"]
theorem sc_law_wrong_hand : FnScope N_law_wrong_hand ["_law_d", "_law_t", "_law_hand"] (defScope s_law_wrong_hand) := ⟨rfl, rfl, rfl, by decide +kernel, rfl, by decide +kernel, by decide +kernel⟩
abbrev s_law_wrong : Stmt := top 38
abbrev N_law_wrong : List Str := ["_law_d", "_law_t", "_law_boxes", "_law_hands", "_law_way", "_law_bad", "_law_hand", "_law_word", "_law_step_here", "_law_later"]
theorem sc_law_wrong : FnScope N_law_wrong ["_law_d", "_law_t"] (defScope s_law_wrong) := ⟨rfl, rfl, rfl, by decide +kernel, rfl, by decide +kernel, by decide +kernel⟩
abbrev s_check_boxes : Stmt := top 16
abbrev N_check_boxes : List Str := ["boxes", "number", "first", "most"]
theorem sc_check_boxes : FnScope N_check_boxes ["boxes"] (defScope s_check_boxes) := ⟨rfl, rfl, rfl, by decide +kernel, rfl, by decide +kernel, by decide +kernel⟩
abbrev s_check_program : Stmt := top 18
abbrev N_check_program : List Str := ["boxes", "hand", "steps", "number", "step"]
theorem sc_check_program : FnScope N_check_program ["boxes", "hand", "steps"] (defScope s_check_program) := ⟨rfl, rfl, rfl, by decide +kernel, rfl, by decide +kernel, by decide +kernel⟩
abbrev s_check_knock : Stmt := top 19
abbrev N_check_knock : List Str := ["hand", "knock", "steps", "places"]
theorem sc_check_knock : FnScope N_check_knock ["hand", "knock", "steps"] (defScope s_check_knock) := ⟨rfl, rfl, rfl, by decide +kernel, rfl, by decide +kernel, by decide +kernel⟩
abbrev s_check_hands : Stmt := top 17
abbrev N_check_hands : List Str := ["boxes", "hands", "number", "knock", "steps"]
theorem sc_check_hands : FnScope N_check_hands ["boxes", "hands"] (defScope s_check_hands) := ⟨rfl, rfl, rfl, by decide +kernel, rfl, by decide +kernel, by decide +kernel⟩
abbrev s_law_is : Stmt := top 35
abbrev N_law_is : List Str := ["_law_e", "_law_word", "_law_kinds", "_law_words", "_law_one"]
theorem sc_law_is : FnScope N_law_is ["_law_e", "_law_word"] (defScope s_law_is) := ⟨rfl, rfl, rfl, by decide +kernel, rfl, by decide +kernel, by decide +kernel⟩
abbrev s_Gate_init : Stmt := inClass (top 15) 0
abbrev N_Gate_init : List Str := ["self", "boxes", "hands", "knock", "steps"]
theorem sc_Gate_init : FnScope N_Gate_init ["self", "boxes", "hands"] (defScope s_Gate_init) := ⟨rfl, rfl, rfl, by decide +kernel, rfl, by decide +kernel, by decide +kernel⟩
abbrev s_Gate_boxes : Stmt := inClass (top 15) 1
abbrev N_Gate_boxes : List Str := ["self"]
theorem sc_Gate_boxes : FnScope N_Gate_boxes ["self"] (defScope s_Gate_boxes) := ⟨rfl, rfl, rfl, by decide +kernel, rfl, by decide +kernel, by decide +kernel⟩
abbrev s_Gate_hands : Stmt := inClass (top 15) 2
abbrev N_Gate_hands : List Str := ["self", "knock", "steps"]
theorem sc_Gate_hands : FnScope N_Gate_hands ["self"] (defScope s_Gate_hands) := ⟨rfl, rfl, rfl, by decide +kernel, rfl, by decide +kernel, by decide +kernel⟩
abbrev s_law_refused : Stmt := top 39
abbrev N_law_refused : List Str := ["_law_bad", "_law_e"]
theorem sc_law_refused : FnScope N_law_refused ["_law_bad"] (defScope s_law_refused) := ⟨rfl, rfl, rfl, by decide +kernel, rfl, by decide +kernel, by decide +kernel⟩
abbrev s_law : Stmt := top 40
abbrev N_law : List Str := ["_law_script", "_law_d", "_law_t", "_law_handed", "_law_gate_here", "_law_turn", "_law_found", "_law_knock", "_law_steps", "_law_one"]
theorem sc_law : FnScope N_law ["_law_script"] (defScope s_law) := ⟨rfl, rfl, rfl, by decide +kernel, rfl, by decide +kernel, by decide +kernel⟩
section
variable {Pr : Program} {w : World} {K : PySem.W.Frag} {mg : Str → Option Value} {base : Heap} {f cG : Addr} {fd : FuncData}
theorem ok_law_step {f_law_off : Addr} {fd_law_off : FuncData} (F : Fun K "_law_step" "_law_step" s_law_step f fd) (T : Txt K mg cG) (G_law_off : Gd Pr w K mg base CX0 1 "_law_off" ["_law_d", "_law_most"] (spD 2 P_off) f_law_off fd_law_off) : FnOk Pr w K mg base CX0 2 f fd ["_law_d", "_law_boxes", "_law_many"] (spD 3 P_step) := by
  refine fn_D F sc_law_step rfl (fun cdv A outer s H Eo hr => ⟨_, _, (dss_cons (ds_set (i := 3) sc_law_step.nd rfl (Or.inl rfl) (de_call G_law_off.ok (hr.mono (by decide)) rfl G_law_off.m G_law_off.kp G_law_off.b (da_dice 0 (da_cons (de_callB (cr_len K) ac_len rfl T.len PySem.boot_len (da_cons (de_var 1) da_nil)) da_nil))))
    (dss_cons (ds_set (i := 4) sc_law_step.nd rfl (Or.inl rfl) (dk_ix K (dk_ix K (de_var 1) (de_var 3)) de_int))
    (dss_cons (ds_if (dt_cmp (opk_eq K hr.units) ar_eqU (de_call G_law_off.ok (hr.mono (by decide)) rfl G_law_off.m G_law_off.kp G_law_off.b (da_dice 0 (da_cons de_int da_nil))) de_int (nomark _))
      (dss_one (ds_ret (de_tup (da_cons de_str (da_cons (de_var 3) (da_cons (de_call G_law_off.ok (hr.mono (by decide)) rfl G_law_off.m G_law_off.kp G_law_off.b (da_dice 0 (da_cons (de_op (opk_add K) ar_addU (de_var 4) de_int) da_nil))) da_nil))))))
      dss_nil)
    (dss_cons (ds_set (i := 5) sc_law_step.nd rfl (Or.inl rfl) (de_callTy (cr_tuple K) ac_tuple rfl T.tuple (by decide +kernel) (da_cons (DF.de (df_lc rfl sc_law_step.nd (own := [("_law_number", 6)]) (di_range1 rfl T.range (da_cons (de_op (opk_add K) ar_addU (de_var 4) de_int) da_nil)) (blkOk_by (own := [("_law_number", 6)]) (N := N_law_step) (sc := defScope s_law_step) (by decide +kernel)) (fun _ _ _ _ _ => (dg_name (i := 6) sc_law_step.nd rfl (Or.inl rfl))) (fun _ _ _ _ _ => (dts_one (dt_cmp (opk_eq K hr.units) ar_eqU (de_call G_law_off.ok (hr.mono (by decide)) rfl G_law_off.m G_law_off.kp G_law_off.b (da_dice 0 (da_cons de_int da_nil))) de_int (nomark _)))) (fun _ _ _ _ _ => (de_var 6)))) da_nil)))
    (dss_cons (ds_if (dt_cmp (opk_eq K hr.units) ar_eqU (de_call G_law_off.ok (hr.mono (by decide)) rfl G_law_off.m G_law_off.kp G_law_off.b (da_dice 0 (da_cons de_int da_nil))) de_int (nomark _))
      (dss_one (ds_set (i := 5) sc_law_step.nd rfl (Or.inl rfl) (de_tupRange1 rfl rfl T.tuple rfl T.range (de_op (opk_add K) ar_addU (de_var 4) de_int))))
      dss_nil)
    (dss_one (ds_ret (de_tup (da_cons de_str (da_cons (de_var 3) (da_cons (de_var 5) (da_cons (de_op (opk_add K) ar_addU de_int (de_call G_law_off.ok (hr.mono (by decide)) rfl G_law_off.m G_law_off.kp G_law_off.b (da_dice 0 (da_cons (de_op op_sub ar_sub (de_var 2) de_int) da_nil)))) da_nil)))))))))))), ?_⟩)
  intro ss Φ hl hP
  obtain ⟨bs, many, rfl, hbs, hlen, hmost, hm, hm2, hQ⟩ := hP
  have hpos : 0 < bs.length := List.length_pos_iff.mpr hbs
  have hml : (bs.map dBox).length = bs.length := List.length_map _
  refine ⟨_, rfl, by rw [hml]; omega, by rw [hml]; omega, fun r r0 r1 => ?_⟩
  rw [hml] at r1
  have hr' : r.toNat < bs.length := by omega
  obtain ⟨b, hb⟩ : ∃ b, bs[r.toNat]? = some b := ⟨_, List.getElem?_eq_getElem hr'⟩
  have hbm := hmost b (List.mem_of_getElem? hb)
  refine ⟨dBox b, atI_i r0 (by rw [List.getElem?_map, hb]; rfl), .int b.2, rfl, ?_⟩
  refine ⟨2, rfl, by decide, by decide, fun r2 _ _ => iteD (fun _ => ?_) (fun _ => ?_)⟩
  · refine ⟨_, rfl, by omega, by omega, fun n n0 n1 => ⟨by simp, ?_⟩⟩
    exact hQ (.put r n) ⟨b, r0, hb, n0, by omega⟩ (by simp)
  · refine ⟨⟨by omega, by omega⟩, by rw [rangeD_len]; omega, fun i acc => ∃ ns : List Int, acc = ns.map .int ∧ Rising ns ∧ (∀ n ∈ ns, 0 ≤ n ∧ n ≤ b.2 ∧ n < (i : Int)), ⟨[], rfl, .nil, fun _ h => nomatch h⟩, ?_, ?_⟩
    · rintro i x acc hx ⟨ns, rfl, hr, hn⟩
      obtain ⟨hi, rfl⟩ := rangeD_at hx
      refine ⟨2, rfl, by decide, by decide, fun r3 _ _ => iteD (fun _ => ?_) (fun _ => ?_)⟩
      · refine ⟨ns ++ [(i : Int)], by simp, ?_, ?_⟩
        · refine List.pairwise_append.mpr ⟨hr, List.pairwise_singleton _ _, fun a ha c hc => ?_⟩
          rw [List.mem_singleton.mp hc]
          exact (hn a ha).2.2
        · intro n hn'
          rcases List.mem_append.mp hn' with h | h
          · have := hn n h
            omega
          · rw [List.mem_singleton.mp h]
            omega
      · exact ⟨ns, rfl, hr, fun n h => by have := hn n h; omega⟩
    · rintro acc ⟨ns, rfl, hr, hn⟩
      have fin : ∀ ms : List Int, Rising ms → (∀ n ∈ ms, 0 ≤ n ∧ n ≤ b.2) → ∀ q : Int, 0 ≤ q → q < many - 1 → Φ (.tup [.str "go", .int r, .tup (ms.map .int), .int (1 + q)]) := fun ms h1 h2 q q0 q1 =>
        hQ (.go r ms (1 + q)) ⟨b, r0, hb, h1, h2, by omega, by omega⟩ (by simp)
      refine ⟨8, rfl, by decide, by decide, fun r4 _ _ => iteD (fun _ => ?_) (fun _ => ?_)⟩
      · refine ⟨⟨by omega, by omega⟩, ?_⟩
        refine ⟨_, rfl, by omega, by omega, fun q q0 q1 => ⟨by simp, ?_⟩⟩
        have e : rangeD 0 (b.2 + 1).toNat = ((List.range (b.2 + 1).toNat).map fun (k : Nat) => (k : Int)).map .int := by
          unfold rangeD
          rw [List.map_map]
          refine List.map_congr_left fun k _ => ?_
          show D.int (0 + (k : Int)) = D.int (k : Int)
          rw [Int.zero_add]
        have g := fin ((List.range (b.2 + 1).toNat).map fun (k : Nat) => (k : Int)) (by
          unfold Rising
          rw [List.pairwise_map]
          exact List.pairwise_lt_range.imp (fun h => by omega)) (fun n hn => by
          obtain ⟨k, hk, rfl⟩ := List.mem_map.mp hn
          have := List.mem_range.mp hk
          omega) q q0 q1
        rw [← e] at g
        exact g
      · refine ⟨_, rfl, by omega, by omega, fun q q0 q1 => ⟨by simp, ?_⟩⟩
        exact fin ns hr (fun n h => by have := hn n h; omega) q q0 q1
theorem ok_law_program {f_law_off : Addr} {fd_law_off : FuncData} {f_law_step : Addr} {fd_law_step : FuncData} (F : Fun K "_law_program" "_law_program" s_law_program f fd) (T : Txt K mg cG) (G_law_off : Gd Pr w K mg base CX0 1 "_law_off" ["_law_d", "_law_most"] (spD 2 P_off) f_law_off fd_law_off) (G_law_step : Gd Pr w K mg base CX0 2 "_law_step" ["_law_d", "_law_boxes", "_law_many"] (spD 3 P_step) f_law_step fd_law_step) : FnOk Pr w K mg base CX0 3 f fd ["_law_d", "_law_boxes", "_law_most"] (spD 3 P_program) := by
  refine fn_D F sc_law_program rfl (fun cdv A outer s H Eo hr => ⟨_, _, (dss_cons (ds_set (i := 3) sc_law_program.nd rfl (Or.inr rfl) (de_op (opk_add K) ar_addU de_int (de_call G_law_off.ok (hr.mono (by decide)) rfl G_law_off.m G_law_off.kp G_law_off.b (da_dice 0 (da_cons (de_op op_sub ar_sub (de_var 2) de_int) da_nil)))))
    (dss_cons (ds_set (i := 4) sc_law_program.nd rfl (Or.inl rfl) (de_op (opk_add K) ar_addU de_int (de_call G_law_off.ok (hr.mono (by decide)) rfl G_law_off.m G_law_off.kp G_law_off.b (da_dice 0 (da_cons (de_op op_sub ar_sub (de_var 3) de_int) da_nil)))))
    (dss_cons (ds_ownLc (i := 5) rfl sc_law_program.nd rfl rfl (sw_true rfl rfl rfl (by decide +kernel)) (own := [("_law_at", 6)]) (di_range1 rfl T.range (da_cons (de_var 3) da_nil)) (blkOk_by (own := [("_law_at", 6)]) (N := N_law_program) (sc := defScope s_law_program) (by decide +kernel)) (fun _ _ _ _ _ => (dg_name (i := 6) sc_law_program.nd rfl (Or.inl rfl))) (fun _ _ _ _ _ => dts_nil) (fun _ _ _ _ _ => (de_call G_law_step.ok (hr.mono (by decide)) rfl G_law_step.m G_law_step.kp G_law_step.b (da_dice 0 (da_cons (de_var 1) (da_cons (de_var 3) da_nil))))))
    (dss_cons (ds_put 5 (de_tup (da_cons de_str da_nil)) (de_var 4))
    (dss_frz 5 (dss_one (ds_ret (de_tup (da_cons (de_op (opk_add K) ar_addU de_int (de_call G_law_off.ok (hr.mono (by decide)) rfl G_law_off.m G_law_off.kp G_law_off.b (da_dice 0 (da_cons (de_var 4) da_nil)))) (da_cons (de_var 5) da_nil)))))))))), ?_⟩)
  intro ss Φ hl hP
  obtain ⟨bs, most, rfl, hb, h2, h24, hQ⟩ := hP
  obtain ⟨hb1, hb12, hbo⟩ := hb
  refine ⟨_, rfl, by omega, by omega, fun r r0 r1 => ?_⟩
  refine ⟨_, rfl, by omega, by omega, fun q q0 q1 => ?_⟩
  have hq : 0 < (1 + q).toNat := by omega
  refine ⟨⟨by omega, by omega⟩, by rw [rangeD_len]; omega, fun i acc => ∃ ss : List Stp, acc = ss.map dStp ∧ ss.length = i ∧ ∀ s ∈ ss, OkStp bs (2 + r) s ∧ s ≠ .inn, ⟨[], rfl, rfl, fun _ h => nomatch h⟩, ?_, ?_⟩
  · rintro i x acc hx ⟨ss, rfl, hs, hok⟩
    refine ⟨bs, _, rfl, fun z => by rw [z] at hb1; exact absurd hb1 (by decide), Nat.le_trans hb12 (by decide), fun b hb => ?_, by omega, by omega, fun s h1 h2 => ?_⟩
    · have := hbo b hb
      exact ⟨Int.le_trans this.1 this.2.1, this.2.2⟩
    · refine ⟨ss ++ [s], by simp, by simp [hs], fun z hz => ?_⟩
      rcases List.mem_append.mp hz with h | h
      · exact hok z h
      · rw [List.mem_singleton.mp h]
        exact ⟨h1, h2⟩
  · rintro acc ⟨ss, rfl, hs, hok⟩ p _
    rw [rangeD_len] at hs
    have hl2 : (ss.map dStp).length = (2 + r).toNat := by rw [List.length_map, hs]
    refine ⟨by simp, (1 + q).toNat, ?_, ?_⟩
    · unfold ixN
      rw [if_pos (by omega), if_pos (by rw [hl2]; omega)]
    refine ⟨id, ?_⟩
    refine ⟨_, rfl, by omega, by omega, fun k k0 k1 => ⟨by simp, ?_⟩⟩
    have e : (ss.map dStp).set (1 + q).toNat (.tup [.str "in"]) = (ss.set (1 + q).toNat .inn).map dStp := by
      rw [List.map_set]
      rfl
    have hlen : (ss.set (1 + q).toNat Stp.inn).length = (2 + r).toNat := by rw [List.length_set, hs]
    have g := hQ (1 + k, ss.set (1 + q).toNat .inn) ⟨?_, ?_, ?_, (1 + q).toNat, hq, ?_, ?_, ?_, ?_⟩ ?_
    · have g' : Φ (.tup [.int (1 + k), .lst ((ss.set (1 + q).toNat Stp.inn).map dStp)]) := g
      rw [← e] at g'
      exact g'
    all_goals (try simp only [hlen])
    · omega
    · omega
    · intro s hs'
      have e2 : (((2 + r).toNat : Nat) : Int) = 2 + r := by omega
      rw [e2]
      rcases List.mem_or_eq_of_mem_set hs' with h | h
      · exact (hok s h).1
      · rw [h]; trivial
    · rw [List.getElem?_set_self (by rw [hs]; omega)]
    · intro j hj
      by_cases hc : (1 + q).toNat = j
      · exact hc.symm
      · rw [List.getElem?_set_ne hc] at hj
        exact absurd rfl (hok _ (List.mem_of_getElem? hj)).2
    · omega
    · omega
    · omega
theorem ok_law_pair (F : Fun K "_law_pair" "_law_pair" s_law_pair f fd) (T : Txt K mg cG) : FnOk Pr w K mg base CX0 1 f fd ["_law_side"] (spD 1 P_pair) := by
  refine fn_D F sc_law_pair rfl (fun cdv A outer s H Eo hr => ⟨_, _, (dss_cons (ds_set (i := 1) sc_law_pair.nd rfl (Or.inl rfl) (DF.de (df_lst (da_cons (de_tup (da_cons de_str (da_cons (de_var 0) (da_cons de_int da_nil)))) (da_cons (de_tup (da_cons de_str (da_cons de_int (da_cons (de_op op_sub ar_sub de_int (de_var 0)) da_nil)))) (da_cons (de_tup (da_cons de_str (da_cons (de_op op_sub ar_sub de_int (de_var 0)) (da_cons (de_tup (da_cons de_int da_nil)) (da_cons de_int da_nil))))) (da_cons (de_tup (da_cons de_str (da_cons de_int (da_cons (de_tup (da_cons (de_op op_sub ar_sub de_int (de_var 0)) da_nil)) (da_cons de_int da_nil))))) da_nil)))))))
    (dss_one (ds_ret (de_tup (da_cons de_int (da_cons (de_op (opk_add K) ar_addU (de_var 1) (DF.de (df_lst (da_cons (de_tup (da_cons de_str da_nil)) (da_cons (de_tup (da_cons de_str (da_cons (de_var 0) (da_cons de_int da_nil)))) da_nil))))) da_nil)))))), ?_⟩)
  intro ss Φ hl hP
  obtain ⟨side, rfl, hQ⟩ := hP
  repeat refine ⟨by simp, ?_⟩
  exact hQ
theorem ok_law_bits (F : Fun K "_law_bits" "_law_bits" s_law_bits f fd) (T : Txt K mg cG) : FnOk Pr w K mg base CX0 1 f fd ["_law_hand", "_law_many"] (spD 2 P_bits) := by
  refine fn_D F sc_law_bits rfl (fun cdv A outer s H Eo hr => ⟨_, _, (dss_cons (ds_own (i := 2) sc_law_bits.nd rfl (Or.inl rfl) (df_lst (da_cons (de_tup (da_cons de_str (da_cons (de_var 0) (da_cons de_int da_nil)))) da_nil)))
    (dss_cons (ds_for (ix := [3]) PassesOwn.never rfl (di_range1 rfl T.range (da_cons (de_var 0) da_nil)) (dg_name (i := 3) sc_law_bits.nd rfl (Or.inl rfl))
      (dss_cons (ds_set (i := 4) sc_law_bits.nd rfl (Or.inl rfl) (de_lenOwn 2 rfl T.len))
      (dss_cons (ds_own (i := 2) sc_law_bits.nd rfl (Or.inl rfl) (df_catOwn 2 (DF.de (df_lst (da_cons (de_tup (da_cons de_str (da_cons (de_var 3) (da_cons (de_tup (da_cons de_int da_nil)) (da_cons (de_op (opk_add K) ar_addU (de_var 4) de_int) da_nil))))) (da_cons (de_tup (da_cons de_str (da_cons (de_var 0) (da_cons de_int da_nil)))) (da_cons (de_tup (da_cons de_str (da_cons (de_var 3) (da_cons (de_tup (da_cons de_int da_nil)) (da_cons (de_op (opk_add K) ar_addU (de_var 4) de_int) da_nil))))) da_nil)))))))
      (dss_one (ds_own (i := 2) sc_law_bits.nd rfl (Or.inl rfl) (df_catOwn 2 (DF.de (df_lst (da_cons (de_tup (da_cons de_str (da_cons (de_var 0) (da_cons de_int da_nil)))) (da_cons (de_tup (da_cons de_str (da_cons (de_var 0) (da_cons (de_tup (da_cons de_int (da_cons de_int da_nil))) (da_cons de_int da_nil))))) da_nil))))))))))
    (dss_cons (ds_for (ix := [3]) PassesOwn.never rfl (di_range2 rfl T.range (da_cons (de_op (opk_add K) ar_addU (de_var 0) de_int) (da_cons (de_var 1) da_nil))) (dg_name (i := 3) sc_law_bits.nd rfl (Or.inl rfl))
      (dss_one (ds_append 2 (de_tup (da_cons de_str (da_cons (de_var 3) (da_cons (de_tup (da_cons de_int da_nil)) (da_cons (de_lenOwn 2 rfl T.len) da_nil))))))))
    (dss_one (ds_ret (de_tup (da_cons de_int (da_cons (DF.de (df_catOwn 2 (DF.de (df_lst (da_cons (de_tup (da_cons de_str da_nil)) (da_cons (de_tup (da_cons de_str (da_cons (de_var 0) (da_cons de_int da_nil)))) da_nil)))))) da_nil)))))))), ?_⟩)
  intro ss Φ hl hP
  obtain ⟨h, m, rfl, hh, hm, hQ⟩ := hP
  have hA : ∀ i, (bitsA h i).length = 1 + 5 * i := by
    intro i
    induction i with
    | zero => rfl
    | succ i ih =>
      show (bitsA h i ++ [_, _, _] ++ [_, _]).length = _
      rw [List.length_append, List.length_append, ih]
      simp
      omega
  have hB : ∀ k, (bitsB (bitsA h h) (h + 1) k).length = 1 + 5 * h + k := by
    intro k
    induction k with
    | zero => exact hA h
    | succ k ih =>
      show (bitsB (bitsA h h) (h + 1) k ++ [_]).length = _
      rw [List.length_append, ih]
      simp
      omega
  repeat refine ⟨by simp, ?_⟩
  refine fun p _ => ?_
  refine ⟨⟨by omega, by omega⟩, fun i l => ∃ p a b, l = [some (.d (.int h)), some (.d (.int m)), some (.own p ((bitsA h i).map dStp)), a, b], ⟨p, _, _, rfl⟩, ?_, ?_⟩
  · rintro i x l' hx ⟨p, a, b, rfl⟩
    obtain ⟨hi, rfl⟩ := rangeD_at hx
    have hi' : i < h := by omega
    repeat refine ⟨by first | (simp; done) | (simp [hA]; omega), ?_⟩
    refine fun p1 _ => ?_
    repeat refine ⟨by first | (simp; done) | (simp [hA]; omega), ?_⟩
    refine fun p2 _ => ?_
    refine ⟨p2, some (.d (.int i)), some (.d (.int (bitsA h i).length)), ?_⟩
    have e : (bitsA h (i + 1)).map dStp = ((bitsA h i).map dStp ++ [dStp (.go i [0] ((bitsA h i).length + 5)), dStp (.put h 0), dStp (.go i [1] ((bitsA h i).length + 2))]) ++ [dStp (.put h 1), dStp (.go h [0, 1] 1)] := by
      show (bitsA h i ++ _ ++ _).map dStp = _
      rw [List.map_append, List.map_append]
      rfl
    rw [e]
    simp [setS, dStp]
  · rintro l' ⟨p, a, b, rfl⟩
    rw [rangeD_len]
    have eh : ((h : Int)).toNat = h := by omega
    rw [eh]
    refine ⟨⟨by omega, by omega, by omega, by omega⟩, fun i l => ∃ p a b, l = [some (.d (.int h)), some (.d (.int m)), some (.own p ((bitsB (bitsA h h) (h + 1) i).map dStp)), a, b], ⟨p, _, _, rfl⟩, ?_, ?_⟩
    · rintro i x l' hx ⟨p, a, b, rfl⟩
      obtain ⟨hi, rfl⟩ := rangeD_at hx
      have hi' : h + 1 + i < m := by omega
      repeat refine ⟨by first | (simp; done) | (simp [hB]; omega), ?_⟩
      refine ⟨p, some (.d (.int (h + 1 + i))), b, ?_⟩
      have e : (bitsB (bitsA h h) (h + 1) (i + 1)).map dStp = (bitsB (bitsA h h) (h + 1) i).map dStp ++ [dStp (.go ((h + 1 + i : Nat) : Int) [1] (bitsB (bitsA h h) (h + 1) i).length)] := by
        show (bitsB (bitsA h h) (h + 1) i ++ _).map dStp = _
        rw [List.map_append]
        rfl
      rw [e]
      simp [setS, dStp]
    · rintro l' ⟨p, a, b, rfl⟩
      rw [rangeD_len]
      have ek : ((m : Int) - ((h : Int) + 1)).toNat = m - (h + 1) := by omega
      rw [ek]
      repeat refine ⟨by first | (simp; done) | (simp [hB]; omega), ?_⟩
      have e : dHand (bitsH h m) = .tup [.int 1, .lst ((bitsB (bitsA h h) (h + 1) (m - (h + 1))).map dStp ++ [.tup [.str "in"], .tup [.str "put", .int h, .int 0]])] := by
        unfold dHand bitsH
        simp [dStp]
      rw [e] at hQ
      exact hQ
theorem ok_law_counter (F : Fun K "_law_counter" "_law_counter" s_law_counter f fd) (T : Txt K mg cG) : FnOk Pr w K mg base CX0 1 f fd ["_law_many"] (spD 1 P_counter) := by
  refine fn_D F sc_law_counter rfl (fun cdv A outer s H Eo hr => ⟨_, _, (dss_cons (ds_set (i := 1) sc_law_counter.nd rfl (Or.inl rfl) (DF.de (df_lst (da_cons (de_tup (da_cons de_str (da_cons de_int (da_cons (de_tup da_nil) (da_cons de_int da_nil))))) da_nil))))
    (dss_cons (ds_for (ix := [2]) PassesOwn.never rfl (di_range1 rfl T.range (da_cons (de_var 0) da_nil)) (dg_name (i := 2) sc_law_counter.nd rfl (Or.inl rfl))
      (dss_cons (ds_set (i := 3) sc_law_counter.nd rfl (Or.inl rfl) (de_callB (cr_len K) ac_len rfl T.len PySem.boot_len (da_cons (de_var 1) da_nil)))
      (dss_one (ds_set (i := 1) sc_law_counter.nd rfl (Or.inl rfl) (de_op (opk_add K) ar_addU (de_var 1) (DF.de (df_lst (da_cons (de_tup (da_cons de_str (da_cons (de_var 2) (da_cons (de_tup (da_cons de_int da_nil)) (da_cons (de_op (opk_add K) ar_addU (de_var 3) de_int) da_nil))))) (da_cons (de_tup (da_cons de_str (da_cons (de_var 2) (da_cons de_int da_nil)))) (da_cons (de_tup (da_cons de_str (da_cons (de_var 2) (da_cons (de_tup (da_cons de_int (da_cons de_int da_nil))) (da_cons de_int da_nil))))) (da_cons (de_tup (da_cons de_str (da_cons (de_var 2) (da_cons de_int da_nil)))) da_nil)))))))))))
    (dss_one (ds_ret (de_tup (da_cons (de_op (opk_mul K) ar_mulU (DF.de (df_lst (da_cons (de_tup (da_cons de_int (da_cons de_int da_nil))) da_nil))) (de_var 0)) (da_cons (DF.de (df_lst (da_cons (de_tup (da_cons de_int (da_cons (de_op (opk_add K) ar_addU (de_var 1) (DF.de (df_lst (da_cons (de_tup (da_cons de_str da_nil)) da_nil)))) da_nil))) da_nil))) da_nil))))))), ?_⟩)
  intro ss Φ hl hP
  obtain ⟨m, rfl, hm, hQ⟩ := hP
  have hlen : ∀ i, (cntA i).length = 1 + 4 * i := by
    intro i
    induction i with
    | zero => rfl
    | succ i ih =>
      show (cntA i ++ [_, _, _, _]).length = _
      rw [List.length_append, ih]
      simp
      omega
  refine ⟨by simp, ?_⟩
  refine ⟨by simp, ?_⟩
  refine ⟨by simp, ?_⟩
  refine ⟨⟨by omega, by omega⟩, fun i l => ∃ a b, l = [some (.d (.int m)), some (.d (.lst ((cntA i).map dStp))), a, b], ⟨_, _, rfl⟩, ?_, ?_⟩
  · rintro i x l' hx ⟨a, b, rfl⟩
    obtain ⟨hi, rfl⟩ := rangeD_at hx
    repeat refine ⟨by first | (simp; done) | (simp [hlen]; omega), ?_⟩
    refine ⟨some (.d (.int i)), some (.d (.int (cntA i).length)), ?_⟩
    have e : (cntA (i + 1)).map dStp = (cntA i).map dStp ++ [dStp (.go i [1] ((cntA i).length + 3)), dStp (.put i 1), dStp (.go i [0, 1] 1), dStp (.put i 0)] := by
      show (cntA i ++ _).map dStp = _
      rw [List.map_append]
      rfl
    rw [e]
    simp [setS, dStp]
  · rintro l' ⟨a, b, rfl⟩
    rw [rangeD_len]
    refine ⟨by simp, ?_⟩
    refine ⟨by simp, ?_⟩
    refine ⟨⟨by omega, by omega, by simp; omega⟩, ?_⟩
    repeat refine ⟨by first | (simp; done) | (simp [hlen]; omega), ?_⟩
    have e : dGate (counterG m) = .tup [.lst (List.replicate m [D.tup [.int 0, .int 1]]).flatten, .lst [.tup [.int 1, .lst ((cntA m).map dStp ++ [.tup [.str "in"]])]]] := by
      have e1 : (List.replicate m [D.tup [.int 0, .int 1]]).flatten = (List.replicate m ((0, 1) : Box)).map dBox := by
        rw [List.map_replicate]
        clear hQ hm hl
        induction m with
        | zero => rfl
        | succ k ih =>
          rw [List.replicate_succ, List.flatten_cons, ih, List.replicate_succ]
          rfl
      rw [e1]
      unfold dGate counterG dBoxes dHand
      simp [dStp]
    rw [e] at hQ
    exact hQ
theorem ok_law_gate {f_law_off : Addr} {fd_law_off : FuncData} {f_law_step : Addr} {fd_law_step : FuncData} {f_law_program : Addr} {fd_law_program : FuncData} {f_law_pair : Addr} {fd_law_pair : FuncData} {f_law_bits : Addr} {fd_law_bits : FuncData} {f_law_counter : Addr} {fd_law_counter : FuncData} (F : Fun K "_law_gate" "_law_gate" s_law_gate f fd) (T : Txt K mg cG) (G_law_off : Gd Pr w K mg base CX0 1 "_law_off" ["_law_d", "_law_most"] (spD 2 P_off) f_law_off fd_law_off) (G_law_step : Gd Pr w K mg base CX0 2 "_law_step" ["_law_d", "_law_boxes", "_law_many"] (spD 3 P_step) f_law_step fd_law_step) (G_law_program : Gd Pr w K mg base CX0 3 "_law_program" ["_law_d", "_law_boxes", "_law_most"] (spD 3 P_program) f_law_program fd_law_program) (G_law_pair : Gd Pr w K mg base CX0 1 "_law_pair" ["_law_side"] (spD 1 P_pair) f_law_pair fd_law_pair) (G_law_bits : Gd Pr w K mg base CX0 1 "_law_bits" ["_law_hand", "_law_many"] (spD 2 P_bits) f_law_bits fd_law_bits) (G_law_counter : Gd Pr w K mg base CX0 1 "_law_counter" ["_law_many"] (spD 1 P_counter) f_law_counter fd_law_counter) : FnOk Pr w K mg base CX0 4 f fd ["_law_d"] (spD 1 P_gate) := by
  refine fn_D F sc_law_gate rfl (fun cdv A outer s H Eo hr => ⟨_, _, (dss_cons (ds_if (dt_cmp (opk_eq K hr.units) ar_eqU (de_call G_law_off.ok (hr.mono (by decide)) rfl G_law_off.m G_law_off.kp G_law_off.b (da_dice 0 (da_cons de_int da_nil))) de_int (nomark _))
      (dss_one (ds_ret (de_call G_law_counter.ok (hr.mono (by decide)) rfl G_law_counter.m G_law_counter.kp G_law_counter.b (da_cons (de_op (opk_add K) ar_addU de_int (de_call G_law_off.ok (hr.mono (by decide)) rfl G_law_off.m G_law_off.kp G_law_off.b (da_dice 0 (da_cons de_int da_nil)))) da_nil))))
      dss_nil)
    (dss_cons (ds_set (i := 1) sc_law_gate.nd rfl (Or.inr rfl) (de_call G_law_off.ok (hr.mono (by decide)) rfl G_law_off.m G_law_off.kp G_law_off.b (da_dice 0 (da_cons de_int da_nil))))
    (dss_cons (ds_if (dt_cmp op_lt ar_lt (de_var 1) de_int (nomark _))
      (dss_cons (ds_set (i := 2) sc_law_gate.nd rfl (Or.inr rfl) (dk_ix K (DF.de (df_lst (da_cons de_int (da_cons de_int (da_cons de_int (da_cons de_int da_nil)))))) (de_call G_law_off.ok (hr.mono (by decide)) rfl G_law_off.m G_law_off.kp G_law_off.b (da_dice 0 (da_cons de_int da_nil)))))
      (dss_cons (ds_own (i := 3) sc_law_gate.nd rfl (Or.inr rfl) (df_lst da_nil))
      (dss_cons (ds_for (ix := [4]) PassesOwn.never rfl (di_range1 rfl T.range (da_cons (de_op (opk_add K) ar_addU de_int (de_call G_law_off.ok (hr.mono (by decide)) rfl G_law_off.m G_law_off.kp G_law_off.b (da_dice 0 (da_cons (dk_ix K (DF.de (df_lst (da_cons de_int (da_cons de_int (da_cons de_int (da_cons de_int (da_cons de_int da_nil))))))) (de_var 2)) da_nil)))) da_nil)) (dg_name (i := 4) sc_law_gate.nd rfl (Or.inl rfl))
        (dss_cons (ds_set (i := 5) sc_law_gate.nd rfl (Or.inl rfl) (de_call G_law_off.ok (hr.mono (by decide)) rfl G_law_off.m G_law_off.kp G_law_off.b (da_dice 0 (da_cons (dk_ix K (DF.de (df_lst (da_cons de_int (da_cons de_int (da_cons de_int (da_cons de_int (da_cons de_int da_nil))))))) (de_var 2)) da_nil))))
        (dss_one (ds_append 3 (de_tup (da_cons (de_call G_law_off.ok (hr.mono (by decide)) rfl G_law_off.m G_law_off.kp G_law_off.b (da_dice 0 (da_cons (de_op (opk_add K) ar_addU (de_var 5) de_int) da_nil))) (da_cons (de_var 5) da_nil)))))))
      (dss_frz 3 (dss_one (ds_ret (de_tup (da_cons (de_var 3) (da_cons (DF.de (df_lc rfl sc_law_gate.nd (own := [("_law_hand", 7)]) (di_range1 rfl T.range (da_cons (de_var 2) da_nil)) (blkOk_by (own := [("_law_hand", 7)]) (N := N_law_gate) (sc := defScope s_law_gate) (by decide +kernel)) (fun _ _ _ _ _ => (dg_name (i := 7) sc_law_gate.nd rfl (Or.inl rfl))) (fun _ _ _ _ _ => dts_nil) (fun _ _ _ _ _ => (de_call G_law_program.ok (hr.mono (by decide)) rfl G_law_program.m G_law_program.kp G_law_program.b (da_dice 0 (da_cons (de_var 3) (da_cons (dk_ix K (DF.de (df_lst (da_cons de_int (da_cons de_int (da_cons de_int (da_cons de_int (da_cons de_int da_nil))))))) (de_var 2)) da_nil))))))) da_nil)))))))))
      dss_nil)
    (dss_cons (ds_if (dt_cmp (opk_eq K hr.units) ar_eqU (de_var 1) de_int (nomark _))
      (dss_cons (ds_set (i := 3) sc_law_gate.nd rfl (Or.inr rfl) (DF.de (df_lst (da_cons (de_tup (da_cons de_int (da_cons (de_call G_law_off.ok (hr.mono (by decide)) rfl G_law_off.m G_law_off.kp G_law_off.b (da_dice 0 (da_cons (dk_ix K (DF.de (df_lst (da_cons de_int (da_cons de_int da_nil)))) (de_callTy call_int1 ac_int rfl T.int (by decide +kernel) (da_cons (de_cmp (opk_eq K hr.units) ar_eqU (de_call G_law_off.ok (hr.mono (by decide)) rfl G_law_off.m G_law_off.kp G_law_off.b (da_dice 0 (da_cons de_int da_nil))) de_int (nomark _)) da_nil))) da_nil))) da_nil))) da_nil))))
      (dss_one (ds_ret (de_tup (da_cons (de_var 3) (da_cons (DF.de (df_lc rfl sc_law_gate.nd (own := [("_law_hand", 7)]) (di_range1 rfl T.range (da_cons de_int da_nil)) (blkOk_by (own := [("_law_hand", 7)]) (N := N_law_gate) (sc := defScope s_law_gate) (by decide +kernel)) (fun _ _ _ _ _ => (dg_name (i := 7) sc_law_gate.nd rfl (Or.inl rfl))) (fun _ _ _ _ _ => dts_nil) (fun _ _ _ _ _ => (de_call G_law_program.ok (hr.mono (by decide)) rfl G_law_program.m G_law_program.kp G_law_program.b (da_dice 0 (da_cons (de_var 3) (da_cons de_int da_nil))))))) da_nil))))))
      dss_nil)
    (dss_cons (ds_set (i := 2) sc_law_gate.nd rfl (Or.inr rfl) (de_op (opk_add K) ar_addU de_int (de_callTy call_int1 ac_int rfl T.int (by decide +kernel) (da_cons (de_and (de_cmp (opk_eq K hr.units) ar_eqU (de_var 1) de_int (nomark _)) (de_one (de_cmp (opk_eq K hr.units) ar_eqU (de_call G_law_off.ok (hr.mono (by decide)) rfl G_law_off.m G_law_off.kp G_law_off.b (da_dice 0 (da_cons de_int da_nil))) de_int (nomark _)))) da_nil))))
    (dss_cons (ds_set (i := 3) sc_law_gate.nd rfl (Or.inr rfl) (de_op (opk_mul K) ar_mulU (DF.de (df_lst (da_cons (de_tup (da_cons de_int (da_cons de_int da_nil))) da_nil))) (dk_ix K (DF.de (df_lst (da_cons de_int (da_cons (de_var 2) da_nil)))) (de_callTy call_int1 ac_int rfl T.int (by decide +kernel) (da_cons (de_cmp (opk_eq K hr.units) ar_eqU (de_var 1) de_int (nomark _)) da_nil)))))
    (dss_cons (ds_setLc (i := 6) rfl sc_law_gate.nd rfl rfl (sw_true rfl rfl rfl (by decide +kernel)) (own := [("_law_hand", 7)]) (di_range1 rfl T.range (da_cons (de_var 2) da_nil)) (blkOk_by (own := [("_law_hand", 7)]) (N := N_law_gate) (sc := defScope s_law_gate) (by decide +kernel)) (fun _ _ _ _ _ => (dg_name (i := 7) sc_law_gate.nd rfl (Or.inl rfl))) (fun _ _ _ _ _ => dts_nil) (fun _ _ _ _ _ => (dk_ix K (DF.de (df_lst (da_cons (de_call G_law_pair.ok (hr.mono (by decide)) rfl G_law_pair.m G_law_pair.kp G_law_pair.b (da_cons (de_op op_mod ar_mod (de_var 7) de_int) da_nil)) (da_cons (de_call G_law_bits.ok (hr.mono (by decide)) rfl G_law_bits.m G_law_bits.kp G_law_bits.b (da_cons (de_var 7) (da_cons (de_var 2) da_nil))) da_nil)))) (de_callTy call_int1 ac_int rfl T.int (by decide +kernel) (da_cons (de_cmp (opk_eq K hr.units) ar_eqU (de_var 1) de_int (nomark _)) da_nil)))))
    (dss_cons (ds_if (dt_cmp (opk_eq K hr.units) ar_eqU (de_call G_law_off.ok (hr.mono (by decide)) rfl G_law_off.m G_law_off.kp G_law_off.b (da_dice 0 (da_cons de_int da_nil))) de_int (nomark _))
      (dss_cons (ds_set (i := 7) sc_law_gate.nd rfl (Or.inl rfl) (de_call G_law_off.ok (hr.mono (by decide)) rfl G_law_off.m G_law_off.kp G_law_off.b (da_dice 0 (da_cons (de_var 2) da_nil))))
      (dss_cons (ds_asg (ix := [8, 9]) (dk_ix K (de_var 6) (de_var 7)) (dk_tup (n := 2) K rfl (dgs_cons (dg_name (i := 8) sc_law_gate.nd rfl (Or.inl rfl)) (dgs_cons (dg_name (i := 9) sc_law_gate.nd rfl (Or.inl rfl)) dgs_nil))))
      (dss_cons (ds_set (i := 10) sc_law_gate.nd rfl (Or.inl rfl) (de_call G_law_off.ok (hr.mono (by decide)) rfl G_law_off.m G_law_off.kp G_law_off.b (da_dice 0 (da_cons (de_callB (cr_len K) ac_len rfl T.len PySem.boot_len (da_cons (de_var 9) da_nil)) da_nil))))
      (dss_cons (ds_if (dt_cmp (opk_ne K hr.units) ar_neU (dk_ix K (de_var 9) (de_var 10)) (de_tup (da_cons de_str da_nil)) (nomark _))
        (dss_one (ds_set (i := 9) sc_law_gate.nd rfl (Or.inl rfl) (de_op (opk_add K) ar_addU (de_op (opk_add K) ar_addU (dk_sl K (de_var 9) do_none (do_some (de_var 10))) (DF.de (df_lst (da_cons (de_call G_law_step.ok (hr.mono (by decide)) rfl G_law_step.m G_law_step.kp G_law_step.b (da_dice 0 (da_cons (de_var 3) (da_cons (de_callB (cr_len K) ac_len rfl T.len PySem.boot_len (da_cons (de_var 9) da_nil)) da_nil)))) da_nil)))) (dk_sl K (de_var 9) (do_some (de_op (opk_add K) ar_addU (de_var 10) de_int)) do_none))))
        dss_nil)
      (dss_one (ds_set (i := 6) sc_law_gate.nd rfl (Or.inl rfl) (de_op (opk_add K) ar_addU (de_op (opk_add K) ar_addU (dk_sl K (de_var 6) do_none (do_some (de_var 7))) (DF.de (df_lst (da_cons (de_tup (da_cons (de_var 8) (da_cons (de_var 9) da_nil))) da_nil)))) (dk_sl K (de_var 6) (do_some (de_op (opk_add K) ar_addU (de_var 7) de_int)) do_none))))))))
      dss_nil)
    (dss_one (ds_ret (de_tup (da_cons (de_var 3) (da_cons (de_var 6) da_nil))))))))))))), ?_⟩)
  intro ss Φ hl hP
  obtain ⟨rfl, hQ⟩ := hP
  refine ⟨14, rfl, by decide, by decide, fun r0 _ _ => iteD (fun _ => ?_) (fun _ => ?_)⟩
  · refine ⟨5, rfl, by decide, by decide, fun r1 a1 b1 => ?_⟩
    have e : (1 + r1) = (((1 + r1).toNat : Nat) : Int) := by omega
    exact ⟨(1 + r1).toNat, congrArg (fun z => [S.d (D.int z)]) e, by omega, hQ _ (counter_ok _ (by omega) (by omega))⟩
  refine ⟨5, rfl, by decide, by decide, fun way w0 w1 => iteD (fun hw => ?_) (fun hw => ?_)⟩
  · refine ⟨by simp, 4, rfl, by decide, by decide, fun r2 a2 b2 => ?_⟩
    obtain ⟨n, hn, n1, n4⟩ : ∃ n : Nat, L2.atI [D.int 2, .int 1, .int 3, .int 4] r2 = some (.int n) ∧ 1 ≤ n ∧ n ≤ 4 := by
      rcases (show r2 = 0 ∨ r2 = 1 ∨ r2 = 2 ∨ r2 = 3 by omega) with rfl | rfl | rfl | rfl
      · exact ⟨2, rfl, by decide, by decide⟩
      · exact ⟨1, rfl, by decide, by decide⟩
      · exact ⟨3, rfl, by decide, by decide⟩
      · exact ⟨4, rfl, by decide, by decide⟩
    obtain ⟨v1, hv1, v10, v11⟩ : ∃ v : Int, L2.atI [D.int 3, .int 3, .int 3, .int 2, .int 1] (n : Int) = some (.int v) ∧ 1 ≤ v ∧ v ≤ 3 := by
      rcases (show n = 1 ∨ n = 2 ∨ n = 3 ∨ n = 4 by omega) with rfl | rfl | rfl | rfl
      · exact ⟨3, rfl, by decide, by decide⟩
      · exact ⟨3, rfl, by decide, by decide⟩
      · exact ⟨2, rfl, by decide, by decide⟩
      · exact ⟨1, rfl, by decide, by decide⟩
    obtain ⟨v2, hv2, v20, v21⟩ : ∃ v : Int, L2.atI [D.int 3, .int 3, .int 3, .int 2, .int 3] (n : Int) = some (.int v) ∧ 1 ≤ v ∧ v ≤ 3 := by
      rcases (show n = 1 ∨ n = 2 ∨ n = 3 ∨ n = 4 by omega) with rfl | rfl | rfl | rfl
      · exact ⟨3, rfl, by decide, by decide⟩
      · exact ⟨3, rfl, by decide, by decide⟩
      · exact ⟨2, rfl, by decide, by decide⟩
      · exact ⟨3, rfl, by decide, by decide⟩
    obtain ⟨v3, hv3, v30, v31⟩ : ∃ v : Int, L2.atI [D.int 6, .int 6, .int 6, .int 5, .int 3] (n : Int) = some (.int v) ∧ 2 ≤ v ∧ v ≤ 6 := by
      rcases (show n = 1 ∨ n = 2 ∨ n = 3 ∨ n = 4 by omega) with rfl | rfl | rfl | rfl
      · exact ⟨6, rfl, by decide, by decide⟩
      · exact ⟨6, rfl, by decide, by decide⟩
      · exact ⟨5, rfl, by decide, by decide⟩
      · exact ⟨3, rfl, by decide, by decide⟩
    refine ⟨_, hn, ?_⟩
    refine ⟨by simp, fun p _ => ?_⟩
    refine ⟨by simp, _, hv1, v1, rfl, by omega, by omega, fun q q0 q1 => ?_⟩
    refine ⟨⟨by omega, by omega⟩, fun i l => ∃ (p : Addr) (bs : List Box) (a b : Option S), l = [some .dice, some (.d (.int way)), some (.d (.int n)), some (.own p (bs.map dBox)), a, b, none, none, none, none, none] ∧ bs.length = i ∧ ∀ b ∈ bs, OkBox b, ⟨p, [], none, none, rfl, rfl, fun _ h => nomatch h⟩, ?_, ?_⟩
    · rintro i x l' hx ⟨p, bs, a, b, rfl, hbl, hbo⟩
      obtain ⟨hi, rfl⟩ := rangeD_at hx
      refine ⟨by simp, _, hv2, v2, rfl, by omega, by omega, fun mo m0 m1 => ?_⟩
      refine ⟨_, rfl, by omega, by omega, fun fi f0 f1 => ?_⟩
      refine ⟨by simp, by rw [List.length_map]; omega, p, bs ++ [(fi, mo)], some (.d (.int (0 + i))), some (.d (.int mo)), by simp [setS, dBox], by simp [hbl], fun z hz => ?_⟩
      rcases List.mem_append.mp hz with h | h
      · exact hbo z h
      · rw [List.mem_singleton.mp h]
        exact ⟨f0, by show fi ≤ mo; omega, by show mo ≤ 9; omega⟩
    · rintro l' ⟨p, bs, a, b, rfl, hbl, hbo⟩
      rw [rangeD_len] at hbl
      have okb : OkBoxes bs := ⟨by omega, by omega, hbo⟩
      refine ⟨id, ?_⟩
      refine ⟨⟨by omega, by omega⟩, by rw [rangeD_len]; omega, fun i acc => ∃ hs : List Hand, acc = hs.map dHand ∧ hs.length = i ∧ ∀ h ∈ hs, OkHand bs h, ⟨[], rfl, rfl, fun _ h => nomatch h⟩, ?_, ?_⟩
      · rintro i x acc hx ⟨hs, rfl, hsl, hsok⟩
        refine ⟨by simp, _, hv3, bs, v3, rfl, okb, by omega, by omega, fun h hh _ => ?_⟩
        refine ⟨hs ++ [h], by simp, by simp [hsl], fun z hz => ?_⟩
        rcases List.mem_append.mp hz with w | w
        · exact hsok z w
        · rw [List.mem_singleton.mp w]; exact hh
      · rintro acc ⟨hs, rfl, hsl, hsok⟩
        rw [rangeD_len] at hsl
        exact ⟨by simp, hQ ⟨bs, hs⟩ ⟨okb, by show 1 ≤ hs.length; omega, by show hs.length ≤ 4; omega, hsok⟩⟩
  refine iteD (fun hw2 => ?_) (fun hw2 => ?_)
  · refine ⟨by simp, 3, rfl, by decide, by decide, fun r3 _ _ => ?_⟩
    obtain ⟨v, hv, hv0, hv1⟩ : ∃ v : Int, L2.atI [D.int 3, .int 10] (if (decide (r3 = 0)) = true then 1 else 0) = some (.int v) ∧ 1 ≤ v ∧ v ≤ 10 := by
      by_cases h : r3 = 0
      · rw [decide_eq_true h]; exact ⟨10, rfl, by decide, by decide⟩
      · rw [decide_eq_false h]; exact ⟨3, rfl, by decide, by decide⟩
    refine ⟨_, hv, v, rfl, by omega, by omega, fun mo m0 m1 => ?_⟩
    refine ⟨by simp, by simp, ?_⟩
    have okb : OkBoxes [(0, mo)] := ⟨by simp, by simp, fun b hb => by rw [List.mem_singleton.mp hb]; exact ⟨Int.le_refl 0, m0, by show mo ≤ 9; omega⟩⟩
    refine ⟨⟨by omega, by omega⟩, by rw [rangeD_len]; omega, fun i acc => ∃ hs : List Hand, acc = hs.map dHand ∧ hs.length = i ∧ ∀ h ∈ hs, OkHand [(0, mo)] h, ⟨[], rfl, rfl, fun _ h => nomatch h⟩, ?_, ?_⟩
    · rintro i x acc hx ⟨hs, rfl, hsl, hsok⟩
      refine ⟨[(0, mo)], 6, rfl, okb, by decide, by decide, fun h hh _ => ?_⟩
      refine ⟨hs ++ [h], by simp, by simp [hsl], fun z hz => ?_⟩
      rcases List.mem_append.mp hz with w | w
      · exact hsok z w
      · rw [List.mem_singleton.mp w]; exact hh
    · rintro acc ⟨hs, rfl, hsl, hsok⟩
      rw [rangeD_len] at hsl
      have hsl : hs.length = 2 := hsl
      exact ⟨by simp, hQ ⟨[(0, mo)], hs⟩ ⟨okb, by show 1 ≤ hs.length; omega, by show hs.length ≤ 4; omega, hsok⟩⟩
  rcases (show way = 3 ∨ way = 4 by omega) with rfl | rfl
  · -- two hands, the boxes of a pair
    refine ⟨by simp, by simp, by simp, D.int 3, rfl, ⟨by decide, by decide, by decide⟩, ?_⟩
    refine ⟨⟨by decide, by decide⟩, by rw [rangeD_len]; decide, fun i acc => ∃ hs : List Hand, acc = hs.map dHand ∧ hs.length = i ∧ ∀ h ∈ hs, OkHand [(0, 1), (0, 1), (0, 1)] h, ⟨[], rfl, rfl, fun _ h => nomatch h⟩, ?_, ?_⟩
    · rintro i x acc hx ⟨hs, rfl, hsl, hsok⟩
      obtain ⟨hi, rfl⟩ := rangeD_at hx
      have hi : i < 2 := hi
      refine ⟨by show (0 : Int) < 2; decide, _, rfl, ?_⟩
      refine ⟨i, 2, ?_, hi, by decide, ?_⟩
      · rw [Int.zero_add]; rfl
      refine ⟨by simp, dHand (pairH ((0 + (i : Int)) % 2)), rfl, hs ++ [pairH ((0 + (i : Int)) % 2)], by simp, by simp [hsl], fun z hz => ?_⟩
      rcases List.mem_append.mp hz with w | w
      · exact hsok z w
      · rw [List.mem_singleton.mp w]
        exact pair_ok _ (by omega)
    · rintro acc ⟨hs, rfl, hsl, hok⟩
      have hsl : hs.length = 2 := hsl
      have h1 : 1 ≤ hs.length := by omega
      have h4 : hs.length ≤ 4 := by omega
      refine ⟨2, rfl, by decide, by decide, fun r8 _ _ => iteD (fun _ => ?_) (fun _ => ?_)⟩
      · refine ⟨(2 : Int), rfl, by decide, by decide, fun hd hd0 hd1 => ?_⟩
        have hd1 : hd < (2 : Int) := hd1
        obtain ⟨x, hx⟩ : ∃ x, hs[hd.toNat]? = some x := ⟨_, List.getElem?_eq_getElem (by omega)⟩
        have hxm := hok x (List.mem_of_getElem? hx)
        have hx24 := hxm.len24
        have hx2 := hxm.len2
        have hxl : (x.2.map dStp).length = x.2.length := List.length_map _
        refine ⟨dHand x, atI_i hd0 (by rw [List.getElem?_map, hx]; rfl), rfl, ?_⟩
        refine ⟨_, rfl, by rw [hxl]; omega, by rw [hxl]; omega, fun ap ap0 ap1 => ?_⟩
        rw [hxl] at ap1
        obtain ⟨y, hy⟩ : ∃ y, x.2[ap.toNat]? = some y := ⟨_, List.getElem?_eq_getElem (by omega)⟩
        refine ⟨dStp y, atI_i ap0 (by rw [List.getElem?_map, hy]; rfl), by simp, ?_⟩
        show wNeU (dStp y) (.tup [.str "in"]) _
        refine ne_in ?_
        have last : ∀ z : Hand, OkHand [(0, 1), (0, 1), (0, 1)] z → Φ (.tup [dBoxes [(0, 1), (0, 1), (0, 1)], .lst ((hs.set hd.toNat z).map dHand)]) := fun z hz => hQ ⟨[(0, 1), (0, 1), (0, 1)], hs.set hd.toNat z⟩ ⟨(box01_ok (m := 3) (by decide) (by decide)), by simpa using h1, by simpa using h4, fun q hq => by
          rcases List.mem_or_eq_of_mem_set hq with w | w
          · exact hok q w
          · rw [w]; exact hz⟩
        have cutH : ∀ z : D, cutG (hs.map dHand) none (some hd) ++ [z] ++ cutG (hs.map dHand) (some (hd + 1)) none = (hs.map dHand).set hd.toNat z := fun z => cut_set hd0 (by rw [List.length_map]; omega) z
        have setH : ∀ z : Hand, (hs.map dHand).set hd.toNat (dHand z) = (hs.set hd.toNat z).map dHand := fun z => by rw [List.map_set]
        have lenH : ∀ lo hi, (cutG (hs.map dHand) lo hi).length ≤ 4 := fun lo hi => Nat.le_trans (cut_len1 lo hi) (by rw [List.length_map]; exact h4)
        have lenS : ∀ lo hi, (cutG (x.2.map dStp) lo hi).length ≤ 24 := fun lo hi => Nat.le_trans (cut_len1 lo hi) (by rw [List.length_map]; omega)
        refine iteN (fun hyn => ?_) (fun _ => ?_)
        · refine ⟨[(0, 1), (0, 1), (0, 1)], _, rfl, (by simp), (by simp), fun b hb => ?_, by rw [hxl]; omega, by rw [hxl]; omega, fun st hst hsn => ?_⟩
          · have := (box01_ok (m := 3) (by decide) (by decide)).2.2 b hb
            exact ⟨Int.le_trans this.1 this.2.1, this.2.2⟩
          rw [hxl] at hst
          have cutS : cutG (x.2.map dStp) none (some ap) ++ [dStp st] ++ cutG (x.2.map dStp) (some (ap + 1)) none = (x.2.set ap.toNat st).map dStp := by
            rw [cut_set ap0 (by rw [List.length_map]; omega), List.map_set]
          have a1 := lenS none (some ap)
          have a2 := lenS (some (ap + 1)) none
          have a3 := lenH none (some hd)
          have a4 := lenH (some (hd + 1)) none
          refine ⟨by simp, by simp; omega, by simp; omega, ?_⟩
          refine ⟨by simp, by simp, by simp; omega, by simp; omega, by simp, ?_⟩
          have g := last (x.1, x.2.set ap.toNat st) (ok_changed hxm hy hyn hst hsn)
          rw [← setH, ← cutH] at g
          have e : dHand (x.1, x.2.set ap.toNat st) = .tup [.int x.1, .lst (cutG (x.2.map dStp) none (some ap) ++ [dStp st] ++ cutG (x.2.map dStp) (some (ap + 1)) none)] := by
            rw [cutS]
            rfl
          rw [e] at g
          exact g
        · have a3 := lenH none (some hd)
          have a4 := lenH (some (hd + 1)) none
          refine ⟨by simp, by simp, by simp; omega, by simp; omega, by simp, ?_⟩
          have g := last x hxm
          rw [← setH, ← cutH] at g
          exact g
      · exact ⟨by simp, hQ ⟨[(0, 1), (0, 1), (0, 1)], hs⟩ ⟨(box01_ok (m := 3) (by decide) (by decide)), h1, h4, hok⟩⟩
  · -- two or three hands by bits
    refine ⟨3, rfl, by decide, by decide, fun r5 _ _ => ?_⟩
    rcases (show r5 = 0 ∨ r5 = 1 ∨ r5 = 2 by omega) with rfl | rfl | rfl
    · refine ⟨by simp, by simp, by simp, D.int 3, rfl, ⟨by decide, by decide, by decide⟩, ?_⟩
      refine ⟨⟨by decide, by decide⟩, by rw [rangeD_len]; decide, fun i acc => ∃ hs : List Hand, acc = hs.map dHand ∧ hs.length = i ∧ ∀ h ∈ hs, OkHand (List.replicate 3 (0, 1)) h, ⟨[], rfl, rfl, fun _ h => nomatch h⟩, ?_, ?_⟩
      · rintro i x acc hx ⟨hs, rfl, hsl, hsok⟩
        obtain ⟨hi, rfl⟩ := rangeD_at hx
        have hi : i < 3 := hi
        refine ⟨by show (0 : Int) < 2; decide, _, rfl, ?_⟩
        refine ⟨i, 3, ?_, hi, by decide, ?_⟩
        · rw [Int.zero_add]; rfl
        refine ⟨by simp, dHand (bitsH i 3), rfl, hs ++ [bitsH i 3], by simp, by simp [hsl], fun z hz => ?_⟩
        rcases List.mem_append.mp hz with w | w
        · exact hsok z w
        · rw [List.mem_singleton.mp w]
          exact bits_ok 3 (by decide) (by decide) i hi
      · rintro acc ⟨hs, rfl, hsl, hok⟩
        have hsl : hs.length = 3 := hsl
        have h1 : 1 ≤ hs.length := by omega
        have h4 : hs.length ≤ 4 := by omega
        refine ⟨2, rfl, by decide, by decide, fun r8 _ _ => iteD (fun _ => ?_) (fun _ => ?_)⟩
        · refine ⟨(3 : Int), rfl, by decide, by decide, fun hd hd0 hd1 => ?_⟩
          have hd1 : hd < (3 : Int) := hd1
          obtain ⟨x, hx⟩ : ∃ x, hs[hd.toNat]? = some x := ⟨_, List.getElem?_eq_getElem (by omega)⟩
          have hxm := hok x (List.mem_of_getElem? hx)
          have hx24 := hxm.len24
          have hx2 := hxm.len2
          have hxl : (x.2.map dStp).length = x.2.length := List.length_map _
          refine ⟨dHand x, atI_i hd0 (by rw [List.getElem?_map, hx]; rfl), rfl, ?_⟩
          refine ⟨_, rfl, by rw [hxl]; omega, by rw [hxl]; omega, fun ap ap0 ap1 => ?_⟩
          rw [hxl] at ap1
          obtain ⟨y, hy⟩ : ∃ y, x.2[ap.toNat]? = some y := ⟨_, List.getElem?_eq_getElem (by omega)⟩
          refine ⟨dStp y, atI_i ap0 (by rw [List.getElem?_map, hy]; rfl), by simp, ?_⟩
          show wNeU (dStp y) (.tup [.str "in"]) _
          refine ne_in ?_
          have last : ∀ z : Hand, OkHand (List.replicate 3 (0, 1)) z → Φ (.tup [dBoxes (List.replicate 3 (0, 1)), .lst ((hs.set hd.toNat z).map dHand)]) := fun z hz => hQ ⟨(List.replicate 3 (0, 1)), hs.set hd.toNat z⟩ ⟨(box01_ok (m := 3) (by decide) (by decide)), by simpa using h1, by simpa using h4, fun q hq => by
            rcases List.mem_or_eq_of_mem_set hq with w | w
            · exact hok q w
            · rw [w]; exact hz⟩
          have cutH : ∀ z : D, cutG (hs.map dHand) none (some hd) ++ [z] ++ cutG (hs.map dHand) (some (hd + 1)) none = (hs.map dHand).set hd.toNat z := fun z => cut_set hd0 (by rw [List.length_map]; omega) z
          have setH : ∀ z : Hand, (hs.map dHand).set hd.toNat (dHand z) = (hs.set hd.toNat z).map dHand := fun z => by rw [List.map_set]
          have lenH : ∀ lo hi, (cutG (hs.map dHand) lo hi).length ≤ 4 := fun lo hi => Nat.le_trans (cut_len1 lo hi) (by rw [List.length_map]; exact h4)
          have lenS : ∀ lo hi, (cutG (x.2.map dStp) lo hi).length ≤ 24 := fun lo hi => Nat.le_trans (cut_len1 lo hi) (by rw [List.length_map]; omega)
          refine iteN (fun hyn => ?_) (fun _ => ?_)
          · refine ⟨(List.replicate 3 (0, 1)), _, rfl, (by simp), (by simp), fun b hb => ?_, by rw [hxl]; omega, by rw [hxl]; omega, fun st hst hsn => ?_⟩
            · have := (box01_ok (m := 3) (by decide) (by decide)).2.2 b hb
              exact ⟨Int.le_trans this.1 this.2.1, this.2.2⟩
            rw [hxl] at hst
            have cutS : cutG (x.2.map dStp) none (some ap) ++ [dStp st] ++ cutG (x.2.map dStp) (some (ap + 1)) none = (x.2.set ap.toNat st).map dStp := by
              rw [cut_set ap0 (by rw [List.length_map]; omega), List.map_set]
            have a1 := lenS none (some ap)
            have a2 := lenS (some (ap + 1)) none
            have a3 := lenH none (some hd)
            have a4 := lenH (some (hd + 1)) none
            refine ⟨by simp, by simp; omega, by simp; omega, ?_⟩
            refine ⟨by simp, by simp, by simp; omega, by simp; omega, by simp, ?_⟩
            have g := last (x.1, x.2.set ap.toNat st) (ok_changed hxm hy hyn hst hsn)
            rw [← setH, ← cutH] at g
            have e : dHand (x.1, x.2.set ap.toNat st) = .tup [.int x.1, .lst (cutG (x.2.map dStp) none (some ap) ++ [dStp st] ++ cutG (x.2.map dStp) (some (ap + 1)) none)] := by
              rw [cutS]
              rfl
            rw [e] at g
            exact g
          · have a3 := lenH none (some hd)
            have a4 := lenH (some (hd + 1)) none
            refine ⟨by simp, by simp, by simp; omega, by simp; omega, by simp, ?_⟩
            have g := last x hxm
            rw [← setH, ← cutH] at g
            exact g
        · exact ⟨by simp, hQ ⟨(List.replicate 3 (0, 1)), hs⟩ ⟨(box01_ok (m := 3) (by decide) (by decide)), h1, h4, hok⟩⟩
    · refine ⟨by simp, by simp, by simp, D.int 2, rfl, ⟨by decide, by decide, by decide⟩, ?_⟩
      refine ⟨⟨by decide, by decide⟩, by rw [rangeD_len]; decide, fun i acc => ∃ hs : List Hand, acc = hs.map dHand ∧ hs.length = i ∧ ∀ h ∈ hs, OkHand (List.replicate 2 (0, 1)) h, ⟨[], rfl, rfl, fun _ h => nomatch h⟩, ?_, ?_⟩
      · rintro i x acc hx ⟨hs, rfl, hsl, hsok⟩
        obtain ⟨hi, rfl⟩ := rangeD_at hx
        have hi : i < 2 := hi
        refine ⟨by show (0 : Int) < 2; decide, _, rfl, ?_⟩
        refine ⟨i, 2, ?_, hi, by decide, ?_⟩
        · rw [Int.zero_add]; rfl
        refine ⟨by simp, dHand (bitsH i 2), rfl, hs ++ [bitsH i 2], by simp, by simp [hsl], fun z hz => ?_⟩
        rcases List.mem_append.mp hz with w | w
        · exact hsok z w
        · rw [List.mem_singleton.mp w]
          exact bits_ok 2 (by decide) (by decide) i hi
      · rintro acc ⟨hs, rfl, hsl, hok⟩
        have hsl : hs.length = 2 := hsl
        have h1 : 1 ≤ hs.length := by omega
        have h4 : hs.length ≤ 4 := by omega
        refine ⟨2, rfl, by decide, by decide, fun r8 _ _ => iteD (fun _ => ?_) (fun _ => ?_)⟩
        · refine ⟨(2 : Int), rfl, by decide, by decide, fun hd hd0 hd1 => ?_⟩
          have hd1 : hd < (2 : Int) := hd1
          obtain ⟨x, hx⟩ : ∃ x, hs[hd.toNat]? = some x := ⟨_, List.getElem?_eq_getElem (by omega)⟩
          have hxm := hok x (List.mem_of_getElem? hx)
          have hx24 := hxm.len24
          have hx2 := hxm.len2
          have hxl : (x.2.map dStp).length = x.2.length := List.length_map _
          refine ⟨dHand x, atI_i hd0 (by rw [List.getElem?_map, hx]; rfl), rfl, ?_⟩
          refine ⟨_, rfl, by rw [hxl]; omega, by rw [hxl]; omega, fun ap ap0 ap1 => ?_⟩
          rw [hxl] at ap1
          obtain ⟨y, hy⟩ : ∃ y, x.2[ap.toNat]? = some y := ⟨_, List.getElem?_eq_getElem (by omega)⟩
          refine ⟨dStp y, atI_i ap0 (by rw [List.getElem?_map, hy]; rfl), by simp, ?_⟩
          show wNeU (dStp y) (.tup [.str "in"]) _
          refine ne_in ?_
          have last : ∀ z : Hand, OkHand (List.replicate 2 (0, 1)) z → Φ (.tup [dBoxes (List.replicate 2 (0, 1)), .lst ((hs.set hd.toNat z).map dHand)]) := fun z hz => hQ ⟨(List.replicate 2 (0, 1)), hs.set hd.toNat z⟩ ⟨(box01_ok (m := 2) (by decide) (by decide)), by simpa using h1, by simpa using h4, fun q hq => by
            rcases List.mem_or_eq_of_mem_set hq with w | w
            · exact hok q w
            · rw [w]; exact hz⟩
          have cutH : ∀ z : D, cutG (hs.map dHand) none (some hd) ++ [z] ++ cutG (hs.map dHand) (some (hd + 1)) none = (hs.map dHand).set hd.toNat z := fun z => cut_set hd0 (by rw [List.length_map]; omega) z
          have setH : ∀ z : Hand, (hs.map dHand).set hd.toNat (dHand z) = (hs.set hd.toNat z).map dHand := fun z => by rw [List.map_set]
          have lenH : ∀ lo hi, (cutG (hs.map dHand) lo hi).length ≤ 4 := fun lo hi => Nat.le_trans (cut_len1 lo hi) (by rw [List.length_map]; exact h4)
          have lenS : ∀ lo hi, (cutG (x.2.map dStp) lo hi).length ≤ 24 := fun lo hi => Nat.le_trans (cut_len1 lo hi) (by rw [List.length_map]; omega)
          refine iteN (fun hyn => ?_) (fun _ => ?_)
          · refine ⟨(List.replicate 2 (0, 1)), _, rfl, (by simp), (by simp), fun b hb => ?_, by rw [hxl]; omega, by rw [hxl]; omega, fun st hst hsn => ?_⟩
            · have := (box01_ok (m := 2) (by decide) (by decide)).2.2 b hb
              exact ⟨Int.le_trans this.1 this.2.1, this.2.2⟩
            rw [hxl] at hst
            have cutS : cutG (x.2.map dStp) none (some ap) ++ [dStp st] ++ cutG (x.2.map dStp) (some (ap + 1)) none = (x.2.set ap.toNat st).map dStp := by
              rw [cut_set ap0 (by rw [List.length_map]; omega), List.map_set]
            have a1 := lenS none (some ap)
            have a2 := lenS (some (ap + 1)) none
            have a3 := lenH none (some hd)
            have a4 := lenH (some (hd + 1)) none
            refine ⟨by simp, by simp; omega, by simp; omega, ?_⟩
            refine ⟨by simp, by simp, by simp; omega, by simp; omega, by simp, ?_⟩
            have g := last (x.1, x.2.set ap.toNat st) (ok_changed hxm hy hyn hst hsn)
            rw [← setH, ← cutH] at g
            have e : dHand (x.1, x.2.set ap.toNat st) = .tup [.int x.1, .lst (cutG (x.2.map dStp) none (some ap) ++ [dStp st] ++ cutG (x.2.map dStp) (some (ap + 1)) none)] := by
              rw [cutS]
              rfl
            rw [e] at g
            exact g
          · have a3 := lenH none (some hd)
            have a4 := lenH (some (hd + 1)) none
            refine ⟨by simp, by simp, by simp; omega, by simp; omega, by simp, ?_⟩
            have g := last x hxm
            rw [← setH, ← cutH] at g
            exact g
        · exact ⟨by simp, hQ ⟨(List.replicate 2 (0, 1)), hs⟩ ⟨(box01_ok (m := 2) (by decide) (by decide)), h1, h4, hok⟩⟩
    · refine ⟨by simp, by simp, by simp, D.int 2, rfl, ⟨by decide, by decide, by decide⟩, ?_⟩
      refine ⟨⟨by decide, by decide⟩, by rw [rangeD_len]; decide, fun i acc => ∃ hs : List Hand, acc = hs.map dHand ∧ hs.length = i ∧ ∀ h ∈ hs, OkHand (List.replicate 2 (0, 1)) h, ⟨[], rfl, rfl, fun _ h => nomatch h⟩, ?_, ?_⟩
      · rintro i x acc hx ⟨hs, rfl, hsl, hsok⟩
        obtain ⟨hi, rfl⟩ := rangeD_at hx
        have hi : i < 2 := hi
        refine ⟨by show (0 : Int) < 2; decide, _, rfl, ?_⟩
        refine ⟨i, 2, ?_, hi, by decide, ?_⟩
        · rw [Int.zero_add]; rfl
        refine ⟨by simp, dHand (bitsH i 2), rfl, hs ++ [bitsH i 2], by simp, by simp [hsl], fun z hz => ?_⟩
        rcases List.mem_append.mp hz with w | w
        · exact hsok z w
        · rw [List.mem_singleton.mp w]
          exact bits_ok 2 (by decide) (by decide) i hi
      · rintro acc ⟨hs, rfl, hsl, hok⟩
        have hsl : hs.length = 2 := hsl
        have h1 : 1 ≤ hs.length := by omega
        have h4 : hs.length ≤ 4 := by omega
        refine ⟨2, rfl, by decide, by decide, fun r8 _ _ => iteD (fun _ => ?_) (fun _ => ?_)⟩
        · refine ⟨(2 : Int), rfl, by decide, by decide, fun hd hd0 hd1 => ?_⟩
          have hd1 : hd < (2 : Int) := hd1
          obtain ⟨x, hx⟩ : ∃ x, hs[hd.toNat]? = some x := ⟨_, List.getElem?_eq_getElem (by omega)⟩
          have hxm := hok x (List.mem_of_getElem? hx)
          have hx24 := hxm.len24
          have hx2 := hxm.len2
          have hxl : (x.2.map dStp).length = x.2.length := List.length_map _
          refine ⟨dHand x, atI_i hd0 (by rw [List.getElem?_map, hx]; rfl), rfl, ?_⟩
          refine ⟨_, rfl, by rw [hxl]; omega, by rw [hxl]; omega, fun ap ap0 ap1 => ?_⟩
          rw [hxl] at ap1
          obtain ⟨y, hy⟩ : ∃ y, x.2[ap.toNat]? = some y := ⟨_, List.getElem?_eq_getElem (by omega)⟩
          refine ⟨dStp y, atI_i ap0 (by rw [List.getElem?_map, hy]; rfl), by simp, ?_⟩
          show wNeU (dStp y) (.tup [.str "in"]) _
          refine ne_in ?_
          have last : ∀ z : Hand, OkHand (List.replicate 2 (0, 1)) z → Φ (.tup [dBoxes (List.replicate 2 (0, 1)), .lst ((hs.set hd.toNat z).map dHand)]) := fun z hz => hQ ⟨(List.replicate 2 (0, 1)), hs.set hd.toNat z⟩ ⟨(box01_ok (m := 2) (by decide) (by decide)), by simpa using h1, by simpa using h4, fun q hq => by
            rcases List.mem_or_eq_of_mem_set hq with w | w
            · exact hok q w
            · rw [w]; exact hz⟩
          have cutH : ∀ z : D, cutG (hs.map dHand) none (some hd) ++ [z] ++ cutG (hs.map dHand) (some (hd + 1)) none = (hs.map dHand).set hd.toNat z := fun z => cut_set hd0 (by rw [List.length_map]; omega) z
          have setH : ∀ z : Hand, (hs.map dHand).set hd.toNat (dHand z) = (hs.set hd.toNat z).map dHand := fun z => by rw [List.map_set]
          have lenH : ∀ lo hi, (cutG (hs.map dHand) lo hi).length ≤ 4 := fun lo hi => Nat.le_trans (cut_len1 lo hi) (by rw [List.length_map]; exact h4)
          have lenS : ∀ lo hi, (cutG (x.2.map dStp) lo hi).length ≤ 24 := fun lo hi => Nat.le_trans (cut_len1 lo hi) (by rw [List.length_map]; omega)
          refine iteN (fun hyn => ?_) (fun _ => ?_)
          · refine ⟨(List.replicate 2 (0, 1)), _, rfl, (by simp), (by simp), fun b hb => ?_, by rw [hxl]; omega, by rw [hxl]; omega, fun st hst hsn => ?_⟩
            · have := (box01_ok (m := 2) (by decide) (by decide)).2.2 b hb
              exact ⟨Int.le_trans this.1 this.2.1, this.2.2⟩
            rw [hxl] at hst
            have cutS : cutG (x.2.map dStp) none (some ap) ++ [dStp st] ++ cutG (x.2.map dStp) (some (ap + 1)) none = (x.2.set ap.toNat st).map dStp := by
              rw [cut_set ap0 (by rw [List.length_map]; omega), List.map_set]
            have a1 := lenS none (some ap)
            have a2 := lenS (some (ap + 1)) none
            have a3 := lenH none (some hd)
            have a4 := lenH (some (hd + 1)) none
            refine ⟨by simp, by simp; omega, by simp; omega, ?_⟩
            refine ⟨by simp, by simp, by simp; omega, by simp; omega, by simp, ?_⟩
            have g := last (x.1, x.2.set ap.toNat st) (ok_changed hxm hy hyn hst hsn)
            rw [← setH, ← cutH] at g
            have e : dHand (x.1, x.2.set ap.toNat st) = .tup [.int x.1, .lst (cutG (x.2.map dStp) none (some ap) ++ [dStp st] ++ cutG (x.2.map dStp) (some (ap + 1)) none)] := by
              rw [cutS]
              rfl
            rw [e] at g
            exact g
          · have a3 := lenH none (some hd)
            have a4 := lenH (some (hd + 1)) none
            refine ⟨by simp, by simp, by simp; omega, by simp; omega, by simp, ?_⟩
            have g := last x hxm
            rw [← setH, ← cutH] at g
            exact g
        · exact ⟨by simp, hQ ⟨(List.replicate 2 (0, 1)), hs⟩ ⟨(box01_ok (m := 2) (by decide) (by decide)), h1, h4, hok⟩⟩
theorem st_law_alike {n : Nat} (F : Fun K "_law_alike" "_law_alike" s_law_alike f fd) (T : Txt K mg cG) (G_law_alike : Gd Pr w K mg base CX0 n "_law_alike" ["_law_found", "_law_due"] (spD 2 (P_alike n)) f fd) : FnOk Pr w K mg base CX0 (n + 1) f fd ["_law_found", "_law_due"] (spD 2 (P_alike (n + 1))) := by
  refine fn_D F sc_law_alike rfl (fun cdv A outer s H Eo hr => ⟨_, _, (dss_cons (ds_if (dt_cmp op_isN ar_isN (de_var 1) de_non (nomark _))
      (dss_one (ds_ret (de_cmp op_isN ar_isN (de_var 0) de_non (nomark _))))
      dss_nil)
    (dss_cons (ds_if (dt_val (dk_isi K .bool (de_var 1) rfl T.isinstance rfl T.bool))
      (dss_one (ds_ret (de_and (dk_isi K .bool (de_var 0) rfl T.isinstance rfl T.bool) (de_one (de_cmp (opk_eq K hr.units) ar_eqU (de_var 0) (de_var 1) (nomark _))))))
      dss_nil)
    (dss_cons (ds_if (dt_val (dk_isi K .int (de_var 1) rfl T.isinstance rfl T.int))
      (dss_one (ds_ret (de_and (dk_isi K .int (de_var 0) rfl T.isinstance rfl T.int) (de_and (de_not (dk_isi K .bool (de_var 0) rfl T.isinstance rfl T.bool)) (de_one (de_cmp (opk_eq K hr.units) ar_eqU (de_var 0) (de_var 1) (nomark _)))))))
      dss_nil)
    (dss_cons (ds_if (dt_val (dk_isi K .str (de_var 1) rfl T.isinstance rfl T.str))
      (dss_one (ds_ret (de_and (dk_isi K .str (de_var 0) rfl T.isinstance rfl T.str) (de_one (de_cmp (opk_eq K hr.units) ar_eqU (de_var 0) (de_var 1) (nomark _))))))
      dss_nil)
    (dss_cons (ds_if (dt_val (dk_isi K .dict (de_var 1) rfl T.isinstance rfl T.dict))
      (dss_cons ds_never
      (dss_one ds_never))
      dss_nil)
    (dss_cons (ds_if (DW.pt (dw_or (dt_cmp (opk_ne K hr.units) ar_neU (dk_isi K .tuple (de_var 1) rfl T.isinstance rfl T.tuple) (dk_isi K .tuple (de_var 0) rfl T.isinstance rfl T.tuple) (nomark _)) (dw_or1 (dt_cmp (opk_ne K hr.units) ar_neU (dk_isi K .list (de_var 1) rfl T.isinstance rfl T.list) (dk_isi K .list (de_var 0) rfl T.isinstance rfl T.list) (nomark _)))))
      (dss_one (ds_ret de_bl))
      dss_nil)
    (dss_cons (ds_if (dt_cmp (opk_ne K hr.units) ar_neU (de_callB (cr_len K) ac_len rfl T.len PySem.boot_len (da_cons (de_var 0) da_nil)) (de_callB (cr_len K) ac_len rfl T.len PySem.boot_len (da_cons (de_var 1) da_nil)) (nomark _))
      (dss_one (ds_ret de_bl))
      dss_nil)
    (dss_one (ds_ret (de_callB (crk_all K rfl) ac_all rfl T.all (by decide +kernel) (da_cons (DF.de (df_lc rfl sc_law_alike.nd (own := [("_law_k", 3)]) (di_range1 rfl T.range (da_cons (de_callB (cr_len K) ac_len rfl T.len PySem.boot_len (da_cons (de_var 1) da_nil)) da_nil)) (blkOk_by (own := [("_law_k", 3)]) (N := N_law_alike) (sc := defScope s_law_alike) (by decide +kernel)) (fun _ _ _ _ _ => (dg_name (i := 3) sc_law_alike.nd rfl (Or.inl rfl))) (fun _ _ _ _ _ => dts_nil) (fun _ _ _ _ _ => (de_call G_law_alike.ok (hr.mono (Nat.le_refl _)) rfl G_law_alike.m G_law_alike.kp G_law_alike.b (da_cons (dk_ix K (de_var 0) (de_var 3)) (da_cons (dk_ix K (de_var 1) (de_var 3)) da_nil)))))) da_nil))))))))))), ?_⟩)
  intro ss Φ hl hP
  obtain ⟨a, rfl, hv, hQ⟩ := hP
  cases a with
  | obj => exact hv.elim
  | raw => exact hv.elim
  | non => exact hQ
  | bl b => show Φ (.bl (decide (b = b))); rw [decide_eq_true rfl]; exact hQ
  | int i => show Φ (.bl (decide (i = i))); rw [decide_eq_true rfl]; exact hQ
  | str x => show Φ (.bl (decide (x = x))); rw [decide_eq_true rfl]; exact hQ
  | lst xs =>
    obtain ⟨hlen, hx⟩ := hv
    refine iteN (fun z => absurd rfl z) (fun _ => ?_)
    refine ⟨⟨by omega, by omega⟩, by rw [rangeD_len]; omega, fun i acc => acc = List.replicate i (.bl true), rfl, ?_, ?_⟩
    · rintro i x acc hi rfl
      obtain ⟨hi, rfl⟩ := rangeD_at hi
      have hi : i < xs.length := by omega
      have e := List.getElem?_eq_getElem hi
      refine ⟨xs[i], atI_i (by omega) (by rw [← e]; congr 1; omega), xs[i], atI_i (by omega) (by rw [← e]; congr 1; omega), ?_⟩
      exact ⟨xs[i], rfl, hx _ (List.getElem_mem hi), List.replicate_succ'.symm⟩
    · rintro acc rfl
      refine ⟨List.replicate (rangeD 0 (xs.length : Int).toNat).length true, by rw [List.map_replicate], ?_⟩
      have e : ∀ m : Nat, (List.replicate m true).all id = true := fun m => by induction m with
        | zero => rfl
        | succ m ih => rw [List.replicate_succ, List.all_cons, ih]; rfl
      rw [e]
      exact hQ
  | tup xs =>
    obtain ⟨hlen, hx⟩ := hv
    refine iteN (fun z => absurd rfl z) (fun _ => ?_)
    refine ⟨⟨by omega, by omega⟩, by rw [rangeD_len]; omega, fun i acc => acc = List.replicate i (.bl true), rfl, ?_, ?_⟩
    · rintro i x acc hi rfl
      obtain ⟨hi, rfl⟩ := rangeD_at hi
      have hi : i < xs.length := by omega
      have e := List.getElem?_eq_getElem hi
      refine ⟨xs[i], atI_i (by omega) (by rw [← e]; congr 1; omega), xs[i], atI_i (by omega) (by rw [← e]; congr 1; omega), ?_⟩
      exact ⟨xs[i], rfl, hx _ (List.getElem_mem hi), List.replicate_succ'.symm⟩
    · rintro acc rfl
      refine ⟨List.replicate (rangeD 0 (xs.length : Int).toNat).length true, by rw [List.map_replicate], ?_⟩
      have e : ∀ m : Nat, (List.replicate m true).all id = true := fun m => by induction m with
        | zero => rfl
        | succ m ih => rw [List.replicate_succ, List.all_cons, ih]; rfl
      rw [e]
      exact hQ

theorem ok_law_alike (F : Fun K "_law_alike" "_law_alike" s_law_alike f fd) (T : Txt K mg cG) (m : mg "_law_alike" = some (.ref f)) (kp : PySem.W.keepIn K (.ref f) = true) (b : Binds K fd ["_law_found", "_law_due"] []) : ∀ n : Nat, FnOk Pr w K mg base CX0 n f fd ["_law_found", "_law_due"] (spD 2 (P_alike n))
  | 0 => ⟨fun vs H Q E h => by obtain ⟨_, _, _, _, _, _, _, _, _, ⟨_, _, z, _⟩, _⟩ := h; exact z.elim, fun A outer s H args us vs Q E _ _ _ _ h => by obtain ⟨_, _, _, _, _, _, _, _, _, ⟨_, _, z, _⟩, _⟩ := h; exact z.elim⟩
  | n + 1 => st_law_alike F T ⟨ok_law_alike F T m kp b n, m, kp, b⟩
theorem ok_law_inner (F : Fun K "_law_inner" "_law_inner" s_law_inner f fd) (T : Txt K mg cG) : FnOk Pr w K mg base CX0 1 f fd ["_law_t", "_law_hand"] (spD 2 P_inner) := by
  refine fn_D F sc_law_inner rfl (fun cdv A outer s H Eo hr => ⟨_, _, (dss_one (ds_ret (dk_index K (Dl.Room.u65 hr) (dk_ix K (dk_ix K (dk_ix K (de_var 0) de_int) (de_var 1)) de_int) (de_tup (da_cons de_str da_nil))))), ?_⟩)
  intro ss Φ hl hP
  obtain ⟨g, i, h, rfl, og, hi, hQ⟩ := hP
  have oh := og.hs h (List.mem_of_getElem? hi)
  obtain ⟨a1, a2, a3, _⟩ := inAt_ok oh
  refine ⟨.lst (g.hs.map dHand), rfl, dHand h, atI_map hi, .lst (h.2.map dStp), rfl, by simp, ?_⟩
  refine ⟨⟨steps_plain _, by simp [D.plain, D.plains], steps_shaped _, dStp_shaped .inn⟩, inAt h, dStp .inn, by rw [List.getElem?_map, a1]; rfl, ?_, ?_, hQ⟩
  · show PyData.eqv (dStp .inn).py (D.tup [.str "in"]).py = true
    rw [eqv_in]
    rfl
  · intro m z' hm hz
    obtain ⟨s, hs, rfl⟩ := map_at hz
    show PyData.eqv (dStp s).py (D.tup [.str "in"]).py = false
    rw [eqv_in]
    refine decide_eq_false fun e => ?_
    subst e
    exact absurd (a3 m hs) (Nat.ne_of_lt hm)
theorem ok_Gate_many (F : Fun K "many" "Gate.many" s_Gate_many f fd) (T : Txt K mg cG) : FnOk Pr w K mg base CX0 1 f fd ["self"] (spD 1 (PP_Gate_many cG)) := by
  refine fn_D F sc_Gate_many rfl (fun cdv A outer s H Eo hr => ⟨_, _, (dss_one (ds_ret (de_callB (cr_len K) ac_len rfl T.len PySem.boot_len (da_cons (dk_fld K T.clGate T.noGate_programs (de_var 0)) da_nil)))), ?_⟩)
  intro ss Φ hl hP
  obtain ⟨g, rfl, hQ⟩ := hP
  refine ⟨rfl, dProgs g, rfl, ?_⟩
  show Φ (.int ((g.hs.map fun h => D.tup (h.2.map dStp)).length : Nat))
  rw [List.length_map]
  exact hQ
theorem ok_can_be_put (F : Fun K "can_be_put" "can_be_put" s_can_be_put f fd) (T : Txt K mg cG) : FnOk Pr w K mg base CX0 1 f fd ["boxes", "box", "number"] (spD 3 PP_can_be_put) := by
  refine fn_D F sc_can_be_put rfl (fun cdv A outer s H Eo hr => ⟨_, _, (dss_one (ds_ret (de_and (de_chain op_le ar_le op_lt ar_lt de_int (de_var 1) (de_callB (cr_len K) ac_len rfl T.len PySem.boot_len (da_cons (de_var 0) da_nil))) (de_one (de_chain op_le ar_le op_le ar_le de_int (de_var 2) (dk_ix K (dk_ix K (de_var 0) (de_var 1)) de_int)))))), ?_⟩)
  intro ss Φ hl hP
  obtain ⟨bs, b, n, rfl, hlen, hQ⟩ := hP
  have hml : (bs.map dBox).length = bs.length := List.length_map _
  refine iteD (fun h0 => ?_) (fun h0 => ?_)
  · refine iteD (fun h1 => ?_) (fun h1 => ?_)
    · rw [hml] at h1
      have hb : b.toNat < bs.length := by omega
      obtain ⟨x, ex⟩ : ∃ x, bs[b.toNat]? = some x := ⟨_, List.getElem?_eq_getElem hb⟩
      have e : okStpB bs 0 (.put b n) = decide (0 ≤ n ∧ n ≤ x.2) := by
        simp only [okStpB, ex]
        by_cases h : 0 ≤ n ∧ n ≤ x.2
        · rw [decide_eq_true h, decide_eq_true ⟨h0, h⟩]
        · rw [decide_eq_false h, decide_eq_false fun z => h z.2]
      rw [e] at hQ
      refine iteD (fun h2 => ?_) (fun h2 => ?_)
      · refine ⟨dBox x, atI_mapI h0 ex, .int x.2, rfl, ?_⟩
        have e2 : decide (0 ≤ n ∧ n ≤ x.2) = decide (n ≤ x.2) := by
          by_cases h : n ≤ x.2
          · rw [decide_eq_true h, decide_eq_true ⟨h2, h⟩]
          · rw [decide_eq_false h, decide_eq_false fun z => h z.2]
        rw [e2] at hQ
        exact hQ
      · rw [decide_eq_false fun z => h2 z.1] at hQ
        exact hQ
    · have e : okStpB bs 0 (.put b n) = false := by
        rw [hml] at h1
        have : bs[b.toNat]? = none := List.getElem?_eq_none (by omega)
        simp only [okStpB, this]
      rw [e] at hQ
      exact hQ
  · have e : okStpB bs 0 (.put b n) = false := by
      cases e : bs[b.toNat]? with
      | none => simp only [okStpB, e]
      | some x =>
        simp only [okStpB, e]
        exact decide_eq_false fun z => h0 z.1
    rw [e] at hQ
    exact hQ
theorem ok_can_be_read (F : Fun K "can_be_read" "can_be_read" s_can_be_read f fd) (T : Txt K mg cG) : FnOk Pr w K mg base CX0 1 f fd ["boxes", "box", "numbers"] (spD 3 PP_can_be_read) := by
  refine fn_D F sc_can_be_read rfl (fun cdv A outer s H Eo hr => ⟨_, _, (dss_cons (ds_if (dt_not (dt_chain op_le ar_le op_lt ar_lt de_int (de_var 1) (de_callB (cr_len K) ac_len rfl T.len PySem.boot_len (da_cons (de_var 0) da_nil))))
      (dss_one (ds_ret de_bl))
      dss_nil)
    (dss_cons (ds_set (i := 3) sc_can_be_read.nd rfl (Or.inl rfl) (de_neg de_int))
    (dss_cons (ds_for (ix := [4]) PassesOwn.never rfl (dk_seq K (de_var 2)) (dg_name (i := 4) sc_can_be_read.nd rfl (Or.inl rfl))
      (dss_cons (ds_if (dt_not (dt_chain op_lt ar_lt op_le ar_le (de_var 3) (de_var 4) (dk_ix K (dk_ix K (de_var 0) (de_var 1)) de_int)))
        (dss_one (ds_ret de_bl))
        dss_nil)
      (dss_one (ds_set (i := 3) sc_can_be_read.nd rfl (Or.inl rfl) (de_var 4)))))
    (dss_one (ds_ret de_bl))))), ?_⟩)
  intro ss Φ hl hP
  obtain ⟨bs, b, ns, rfl, hlen, hQ⟩ := hP
  have hml : (bs.map dBox).length = bs.length := List.length_map _
  have no : ¬ (0 ≤ b ∧ b < (bs.length : Int)) → rdB bs b ns = false := fun h => by
    by_cases h0 : 0 ≤ b
    · have : bs[b.toNat]? = none := List.getElem?_eq_none (by omega)
      simp only [rdB, this]
    · cases e : bs[b.toNat]? with
      | none => simp only [rdB, e]
      | some x =>
        simp only [rdB, e]
        exact decide_eq_false fun z => h0 z.1
  have bad : ∀ {b' : Bool}, b' = false → Φ (.bl (rdB bs b ns)) → rdB bs b ns = b' → Φ (.bl false) := fun {b'} e h h' => by rw [h', e] at h; exact h
  refine iteD (fun h0 => ?_) (fun h0 => ?_)
  · refine iteN (fun h1 => ?_) (fun h1 => ?_)
    rotate_left
    · rw [hml] at h1
      have hb : b.toNat < bs.length := by omega
      obtain ⟨x, ex⟩ : ∃ x, bs[b.toNat]? = some x := ⟨_, List.getElem?_eq_getElem hb⟩
      have er : rdB bs b ns = decide (ns.Pairwise (· < ·) ∧ ∀ n ∈ ns, 0 ≤ n ∧ n ≤ x.2) := by
        simp only [rdB, ex]
        by_cases h : ns.Pairwise (· < ·) ∧ ∀ n ∈ ns, 0 ≤ n ∧ n ≤ x.2
        · rw [decide_eq_true h, decide_eq_true ⟨h0, h⟩]
        · rw [decide_eq_false h, decide_eq_false fun z => h z.2]
      refine ⟨fun i l => ∃ (last : Int) (a : Option S), l = [some (.d (dBoxes bs)), some (.d (.int b)), some (.d (dInts ns)), some (.d (.int last)), a] ∧ (ns.take i).Pairwise (· < ·) ∧ (∀ n ∈ ns.take i, 0 ≤ n ∧ n ≤ last ∧ n ≤ x.2) ∧ -1 ≤ last ∧ (i = 0 → last = -1) ∧ (0 < i → last ∈ ns.take i), ⟨-1, none, rfl, .nil, fun _ h => absurd h (by simp), Int.le_refl _, fun _ => rfl, fun h => absurd h (Nat.lt_irrefl _)⟩, ?_, ?_⟩
      · rintro i y l' hy ⟨last, a, rfl, hpw, hle, h1l, hz, hin⟩
        obtain ⟨n, en, rfl⟩ := map_at hy
        have et : ns.take (i + 1) = ns.take i ++ [n] := by rw [List.take_add_one, en]; rfl
        refine iteD (fun h2 => ?_) (fun h2 => ?_)
        · refine ⟨dBox x, atI_mapI h0 ex, .int x.2, rfl, ?_⟩
          refine iteN (fun h3 => ?_) (fun h3 => ?_)
          · refine bad rfl hQ ?_
            rw [er]
            exact decide_eq_false fun z => h3 (z.2 n (List.mem_of_getElem? en)).2
          · refine ⟨n, some (.d (.int n)), rfl, ?_, ?_, by omega, fun z => absurd z (Nat.succ_ne_zero _), fun _ => by rw [et]; simp⟩
            · rw [et]
              refine List.pairwise_append.mpr ⟨hpw, List.pairwise_singleton _ _, fun u hu v hv => ?_⟩
              rw [List.mem_singleton.mp hv]
              have := hle u hu
              omega
            · intro m hm
              rw [et] at hm
              rcases List.mem_append.mp hm with w | w
              · have := hle m w
                omega
              · rw [List.mem_singleton.mp w]
                omega
        · refine L2.iteT ?_
          refine bad rfl hQ ?_
          rw [er]
          refine decide_eq_false fun z => h2 ?_
          rcases Nat.eq_zero_or_pos i with h | h
          · rw [hz h]
            have := (z.2 n (List.mem_of_getElem? en)).1
            omega
          · have hl := hin h
            have p := z.1
            have : (ns.take (i + 1)).Pairwise (· < ·) := p.sublist (List.take_sublist _ _)
            rw [et] at this
            exact (List.pairwise_append.mp this).2.2 last hl n (List.mem_singleton_self _)
      · rintro l' ⟨last, a, rfl, hpw, hle, h1l, hz, hin⟩
        rw [List.length_map, List.take_length] at hpw hle
        have : rdB bs b ns = true := by
          rw [er]
          exact decide_eq_true ⟨hpw, fun n hn => ⟨(hle n hn).1, (hle n hn).2.2⟩⟩
        rw [this] at hQ
        exact hQ
    · rw [hml] at h1
      exact bad rfl hQ (no fun z => h1 z.2)
  · exact bad rfl hQ (no fun z => h0 z.1)
theorem ok_can_be_step {f_can_be_put : Addr} {fd_can_be_put : FuncData} {f_can_be_read : Addr} {fd_can_be_read : FuncData} (F : Fun K "can_be_step" "can_be_step" s_can_be_step f fd) (T : Txt K mg cG) (G_can_be_put : Gd Pr w K mg base CX0 1 "can_be_put" ["boxes", "box", "number"] (spD 3 PP_can_be_put) f_can_be_put fd_can_be_put) (G_can_be_read : Gd Pr w K mg base CX0 1 "can_be_read" ["boxes", "box", "numbers"] (spD 3 PP_can_be_read) f_can_be_read fd_can_be_read) : FnOk Pr w K mg base CX0 2 f fd ["boxes", "many", "step"] (spD 3 PP_can_be_step) := by
  refine fn_D F sc_can_be_step rfl (fun cdv A outer s H Eo hr => ⟨_, _, (dss_cons (ds_if (dt_cmp (opk_eq K hr.units) ar_eqU (dk_ix K (de_var 2) de_int) de_str (nomark _))
      (dss_one (ds_ret (de_call G_can_be_put.ok (hr.mono (by decide)) rfl G_can_be_put.m G_can_be_put.kp G_can_be_put.b (da_cons (de_var 0) (da_cons (dk_ix K (de_var 2) de_int) (da_cons (dk_ix K (de_var 2) de_int) da_nil))))))
      dss_nil)
    (dss_cons (ds_if (dt_cmp (opk_eq K hr.units) ar_eqU (dk_ix K (de_var 2) de_int) de_str (nomark _))
      (dss_one (ds_ret (de_and (de_call G_can_be_read.ok (hr.mono (by decide)) rfl G_can_be_read.m G_can_be_read.kp G_can_be_read.b (da_cons (de_var 0) (da_cons (dk_ix K (de_var 2) de_int) (da_cons (dk_ix K (de_var 2) de_int) da_nil)))) (de_one (de_chain op_le ar_le op_lt ar_lt de_int (dk_ix K (de_var 2) de_int) (de_var 1))))))
      dss_nil)
    (dss_one (ds_ret (de_cmp (opk_eq K hr.units) (ar_eqW T.d_IN) (de_var 2) (de_globW T.d_IN) (nomark _)))))), ?_⟩)
  intro ss Φ hl hP
  obtain ⟨bs, many, s, rfl, hlen, hQ⟩ := hP
  cases s with
  | put b n =>
    refine ⟨.str "put", rfl, .int b, rfl, .int n, rfl, bs, b, n, rfl, hlen, ?_⟩
    exact hQ
  | go b ns a =>
    rw [okStpB_go] at hQ
    refine ⟨.str "go", rfl, ?_⟩
    refine ⟨.str "go", rfl, .int b, rfl, dInts ns, rfl, bs, b, ns, rfl, hlen, ?_⟩
    show if rdB bs b ns = true then _ else _
    by_cases h : rdB bs b ns = true
    · rw [if_pos h]
      rw [h, Bool.true_and] at hQ
      refine ⟨.int a, rfl, iteD (fun h1 => ?_) (fun h1 => ?_)⟩
      · have e : decide (1 ≤ a ∧ a < many) = decide (a < many) := by
          by_cases h2 : a < many
          · rw [decide_eq_true h2, decide_eq_true ⟨h1, h2⟩]
          · rw [decide_eq_false h2, decide_eq_false fun z => h2 z.2]
        rw [e] at hQ
        exact hQ
      · rw [decide_eq_false fun z => h1 z.1] at hQ
        exact hQ
    · rw [if_neg h]
      have h' : rdB bs b ns = false := by simpa using h
      rw [h', Bool.false_and] at hQ
      exact hQ
  | inn =>
    refine ⟨.str "in", rfl, ?_⟩
    refine ⟨.str "in", rfl, ?_⟩
    show wEqW _ (.tup [.str "in"]) (dStp .inn) (.raw _) _
    exact eq_inW hQ
theorem ok_places_of_in (F : Fun K "places_of_in" "places_of_in" s_places_of_in f fd) (T : Txt K mg cG) : FnOk Pr w K mg base CX0 1 f fd ["steps"] (spD 1 PP_places_of_in) := by
  refine fn_D F sc_places_of_in rfl (fun cdv A outer s H Eo hr => ⟨_, _, (dss_one (ds_ret (DF.de (df_lc rfl sc_places_of_in.nd (own := [("number", 1), ("step", 2)]) (dk_enum K rfl T.enumerate (da_cons (de_var 0) da_nil)) (blkOk_by (own := [("number", 1), ("step", 2)]) (N := N_places_of_in) (sc := defScope s_places_of_in) (by decide +kernel)) (fun _ _ _ _ _ => (dk_tup (n := 2) K rfl (dgs_cons (dg_name (i := 1) sc_places_of_in.nd rfl (Or.inl rfl)) (dgs_cons (dg_name (i := 2) sc_places_of_in.nd rfl (Or.inl rfl)) dgs_nil)))) (fun _ _ _ _ _ => (dts_one (dt_cmp (opk_eq K hr.units) (ar_eqW T.d_IN) (de_var 2) (de_globW T.d_IN) (nomark _)))) (fun _ _ _ _ _ => (de_var 1)))))), ?_⟩)
  intro ss Φ hl hP
  obtain ⟨l, rfl, hlen, hQ⟩ := hP
  refine ⟨by rw [enumD_len, List.length_map]; omega, fun i acc => acc = insD l i, rfl, ?_, ?_⟩
  · rintro i x acc hx rfl
    obtain ⟨y, hy, rfl⟩ := enumD_at hx
    obtain ⟨s, es, rfl⟩ := map_at hy
    refine ⟨rfl, ?_⟩
    refine eq_inW (s := s) (v := T.d_IN.choose) (Φ := fun d => match d with
      | .bl k => if k = true then insD l i ++ [.int (i : Int)] = insD l (i + 1) else insD l i = insD l (i + 1)
      | _ => False) (iteD (fun h1 => ?_) (fun h1 => ?_))
    · exact insD_yes (by rw [es, h1])
    · exact insD_no (by rw [es]; exact fun z => h1 (Option.some.inj z))
  · rintro acc rfl
    rw [enumD_len, List.length_map]
    exact hQ
theorem ok_law_wrong_step {f_law_off : Addr} {fd_law_off : FuncData} (F : Fun K "_law_wrong_step" "_law_wrong_step" s_law_wrong_step f fd) (T : Txt K mg cG) (G_law_off : Gd Pr w K mg base CX0 1 "_law_off" ["_law_d", "_law_most"] (spD 2 P_off) f_law_off fd_law_off) : FnOk Pr w K mg base CX0 2 f fd ["_law_d", "_law_t", "_law_hand", "_law_longer"] (spD 4 P_wrong_step) := by
  refine fn_D F sc_law_wrong_step rfl (fun cdv A outer s H Eo hr => ⟨_, _, (dss_cons (ds_par rfl sc_law_wrong_step.nd (i := 4) (j := 5) rfl rfl (by decide) rfl rfl (da_cons (de_callB (cr_len K) ac_len rfl T.len PySem.boot_len (da_cons (dk_ix K (de_var 1) de_int) da_nil)) (da_cons (de_op (opk_add K) ar_addU (de_callB (cr_len K) ac_len rfl T.len PySem.boot_len (da_cons (dk_ix K (dk_ix K (dk_ix K (de_var 1) de_int) (de_var 2)) de_int) da_nil)) (de_var 3)) da_nil)))
    (dss_cons (ds_set (i := 6) sc_law_wrong_step.nd rfl (Or.inl rfl) (dk_ix K (dk_ix K (dk_ix K (de_var 1) de_int) de_int) de_int))
    (dss_cons (ds_set (i := 7) sc_law_wrong_step.nd rfl (Or.inl rfl) (DF.de (df_lst (da_cons (de_tup (da_cons de_str (da_cons (de_var 4) (da_cons de_int da_nil)))) (da_cons (de_tup (da_cons de_str (da_cons (de_neg de_int) (da_cons de_int da_nil)))) (da_cons (de_tup (da_cons de_str (da_cons de_int (da_cons (de_op (opk_add K) ar_addU (de_var 6) de_int) da_nil)))) (da_cons (de_tup (da_cons de_str (da_cons de_int (da_cons (de_neg de_int) da_nil)))) (da_cons (de_tup (da_cons de_str (da_cons (de_var 4) (da_cons (de_tup da_nil) (da_cons de_int da_nil))))) da_nil))))))))
    (dss_cons (ds_set (i := 7) sc_law_wrong_step.nd rfl (Or.inl rfl) (de_op (opk_add K) ar_addU (de_var 7) (DF.de (df_lst (da_cons (de_tup (da_cons de_str (da_cons de_int (da_cons (de_tup (da_cons (de_op (opk_add K) ar_addU (de_var 6) de_int) da_nil)) (da_cons de_int da_nil))))) (da_cons (de_tup (da_cons de_str (da_cons de_int (da_cons (de_tup (da_cons (de_neg de_int) da_nil)) (da_cons de_int da_nil))))) (da_cons (de_tup (da_cons de_str (da_cons de_int (da_cons (de_tup (da_cons de_int (da_cons de_int da_nil))) (da_cons de_int da_nil))))) (da_cons (de_tup (da_cons de_str (da_cons de_int (da_cons (de_tup da_nil) (da_cons de_int da_nil))))) da_nil))))))))
    (dss_cons (ds_set (i := 7) sc_law_wrong_step.nd rfl (Or.inl rfl) (de_op (opk_add K) ar_addU (de_var 7) (DF.de (df_lst (da_cons (de_tup (da_cons de_str (da_cons de_int (da_cons (de_tup da_nil) (da_cons (de_var 5) da_nil))))) (da_cons (de_tup (da_cons de_str (da_cons de_int (da_cons (de_op (opk_add K) ar_addU (de_tupDown rfl rfl T.tuple rfl T.range (de_var 6) (de_neg de_int) (de_neg de_int)) (de_op (opk_mulZ K) ar_mulZ (de_tup (da_cons de_int da_nil)) (de_callTy call_int1 ac_int rfl T.int (by decide +kernel) (da_cons (de_cmp (opk_eq K hr.units) ar_eqU (de_var 6) de_int (nomark _)) da_nil)))) (da_cons de_int da_nil))))) da_nil))))))
    (dss_cons (ds_set (i := 7) sc_law_wrong_step.nd rfl (Or.inl rfl) (de_op (opk_add K) ar_addU (de_var 7) (DF.de (df_lst (da_cons (de_tup (da_cons de_str (da_cons de_int (da_cons (de_tup da_nil) (da_cons (de_op (opk_add K) ar_addU (de_var 5) de_int) da_nil))))) (da_cons (de_tup (da_cons de_str (da_cons de_int (da_cons (de_tup da_nil) (da_cons (de_neg de_int) da_nil))))) (da_cons (de_tup (da_cons de_str (da_cons (de_neg de_int) (da_cons (de_tup da_nil) (da_cons de_int da_nil))))) da_nil)))))))
    (dss_cons (ds_set (i := 7) sc_law_wrong_step.nd rfl (Or.inl rfl) (de_op (opk_add K) ar_addU (de_var 7) (DF.de (df_lst (da_cons (de_tup (da_cons de_str (da_cons de_int (da_cons (de_tupRange1 rfl rfl T.tuple rfl T.range (de_op (opk_add K) ar_addU (de_var 6) de_int)) (da_cons de_int da_nil))))) (da_cons (de_tup (da_cons de_str (da_cons de_int (da_cons (de_op (opk_add K) ar_addU (de_tup (da_cons (de_neg de_int) da_nil)) (de_tupRange1 rfl rfl T.tuple rfl T.range (de_op (opk_add K) ar_addU (de_var 6) de_int))) (da_cons de_int da_nil))))) da_nil))))))
    (dss_one (ds_ret (dk_ix K (de_var 7) (de_call G_law_off.ok (hr.mono (by decide)) rfl G_law_off.m G_law_off.kp G_law_off.b (da_dice 0 (da_cons de_int da_nil))))))))))))), ?_⟩)
  intro ss Φ hl hP
  obtain ⟨g, i, lo, h, rfl, og, eh, hlo, hQ⟩ := hP
  have hbs := og.bs
  obtain ⟨b0, eb⟩ : ∃ b0, g.bs[0]? = some b0 := ⟨_, List.getElem?_eq_getElem (by have := hbs.1; omega)⟩
  have ob := hbs.2.2 b0 (List.mem_of_getElem? eb)
  obtain ⟨o1, o2, o3⟩ := ob
  have hbl := hbs.1
  have hsl : (h.2.map dStp).length = h.2.length := List.length_map _
  have hbm : (g.bs.map dBox).length = g.bs.length := List.length_map _
  have hi : i < g.hs.length := (List.getElem?_eq_some_iff.mp eh).1
  have oh := og.hs h (List.mem_of_getElem? eh)
  have hl2 := oh.len2
  have hl23 := oh.len24
  refine ⟨dBoxes g.bs, rfl, .lst (g.hs.map dHand), rfl, dHand h, atI_map eh, .lst (h.2.map dStp), rfl, ?_⟩
  refine ⟨dBoxes g.bs, rfl, dBox b0, atI_mapI (by decide) eb, .int b0.2, rfl, ?_⟩
  refine ⟨by simp, by simp, by simp, by simp, by simp, by simp, by simp, ?_⟩
  refine ⟨by simp, by simp, by simp, by simp, by simp, by simp, by simp, by simp, by simp, by simp, ?_⟩
  refine ⟨by simp, by simp, b0.2, ⟨rfl, rfl, rfl⟩, ⟨by omega, by omega⟩, by simp, ⟨by simp, ?_, ?_, by simp⟩, ?_, by simp, by simp, ?_, ?_⟩
  · split <;> omega
  · split <;> omega
  · unfold downD
    rw [List.length_map, List.length_range]
    by_cases hz : b0.2 = 0
    · rw [if_pos (decide_eq_true hz)]
      simp
      omega
    · rw [if_neg (by rw [decide_eq_false hz]; exact Bool.false_ne_true)]
      simp
      omega
  · simp
  refine ⟨by simp, by simp, by simp, by simp, by simp, by simp, by simp, by simp, ?_⟩
  refine ⟨⟨by omega, by omega⟩, by simp, by simp, ⟨by omega, by omega⟩, by rw [rangeD_len]; simp; omega, by simp, by simp, by simp, ?_⟩
  refine ⟨16, rfl, by decide, by decide, fun r r0 r1 => ?_⟩
  have is0 : ∀ x : Box, g.bs[(0 : Int).toNat]? = some x → x = b0 := fun x z => by
    have z2 : g.bs[0]? = some x := z
    rw [eb] at z2
    exact (Option.some.inj z2).symm
  have isN : ∀ x : Box, g.bs[((g.bs.length : Nat) : Int).toNat]? ≠ some x := fun x z => by
    rw [Int.toNat_natCast, List.getElem?_eq_none (Nat.le_refl _)] at z
    cases z
  have hr : r = 0 ∨ r = 1 ∨ r = 2 ∨ r = 3 ∨ r = 4 ∨ r = 5 ∨ r = 6 ∨ r = 7 ∨ r = 8 ∨ r = 9 ∨ r = 10 ∨ r = 11 ∨ r = 12 ∨ r = 13 ∨ r = 14 ∨ r = 15 := by omega
  rcases hr with rfl | rfl | rfl | rfl | rfl | rfl | rfl | rfl | rfl | rfl | rfl | rfl | rfl | rfl | rfl | rfl
  · refine ⟨_, rfl, ?_⟩
    rw [hbm]
    exact hQ (.put g.bs.length 0) (bad_put fun x _ z => absurd z (isN x))
  · exact ⟨_, rfl, hQ (.put (-1) 0) (bad_put fun x z _ => absurd z (by decide))⟩
  · exact ⟨_, rfl, hQ (.put 0 (b0.2 + 1)) (bad_put fun x _ z q => by rw [is0 x z] at q; omega)⟩
  · exact ⟨_, rfl, hQ (.put 0 (-1)) (bad_put fun x _ z q => by omega)⟩
  · refine ⟨_, rfl, ?_⟩
    rw [hbm]
    exact hQ (.go g.bs.length [] 1) (bad_go fun x _ z => absurd z (isN x))
  · exact ⟨_, rfl, hQ (.go 0 [b0.2 + 1] 1) (bad_go fun x _ z q => by
      have := q.2.1 _ (List.mem_singleton.mpr rfl)
      rw [is0 x z] at this
      omega)⟩
  · exact ⟨_, rfl, hQ (.go 0 [-1] 1) (bad_go fun x _ z q => by
      have := q.2.1 _ (List.mem_singleton.mpr rfl)
      omega)⟩
  · exact ⟨_, rfl, hQ (.go 0 [0, 0] 1) (bad_go fun x _ z q => absurd q.1 (by decide))⟩
  · exact ⟨_, rfl, hQ (.go 0 [] 0) (bad_go fun x _ z q => by omega)⟩
  · refine ⟨_, rfl, ?_⟩
    rw [hsl]
    exact hQ (.go 0 [] (h.2.length + lo)) (bad_go fun x _ z q => by omega)
  · refine ⟨_, rfl, ?_⟩
    have e : downD b0.2 ++ (List.replicate (if decide (b0.2 = 0) = true then (1 : Int) else 0).toNat [D.int 0]).flatten = (downI b0.2 ++ if b0.2 = 0 then [0] else []).map .int := by
      rw [downI_D, List.map_append]
      by_cases hz : b0.2 = 0
      · rw [if_pos (decide_eq_true hz), if_pos hz]
        rfl
      · rw [if_neg (by rw [decide_eq_false hz]; exact Bool.false_ne_true), if_neg hz]
        rfl
    show Φ (.tup [.str "go", .int 0, .tup (downD b0.2 ++ (List.replicate (if decide (b0.2 = 0) = true then (1 : Int) else 0).toNat [D.int 0]).flatten), .int 1])
    rw [e]
    exact hQ (.go 0 (downI b0.2 ++ if b0.2 = 0 then [0] else []) 1) (bad_go fun x _ z q => down_bad (by omega) q.1)
  · refine ⟨_, rfl, ?_⟩
    rw [hsl]
    exact hQ (.go 0 [] (h.2.length + lo + 5)) (bad_go fun x _ z q => by omega)
  · exact ⟨_, rfl, hQ (.go 0 [] (-1)) (bad_go fun x _ z q => by omega)⟩
  · exact ⟨_, rfl, hQ (.go (-1) [] 1) (bad_go fun x z _ q => absurd z (by decide))⟩
  · refine ⟨_, rfl, ?_⟩
    show Φ (.tup [.str "go", .int 0, .tup (rangeD 0 (b0.2 + 2).toNat), .int 1])
    rw [upI_D]
    exact hQ (.go 0 (upI (b0.2 + 2).toNat) 1) (bad_go fun x _ z q => by
      have := q.2.1 _ (up_mem (n := (b0.2 + 2).toNat) (i := (b0.2 + 1).toNat) (by omega))
      rw [is0 x z] at this
      omega)
  · refine ⟨_, rfl, ?_⟩
    show Φ (.tup [.str "go", .int 0, .tup ([D.int (-1)] ++ rangeD 0 (b0.2 + 1).toNat), .int 1])
    rw [upI_D]
    exact hQ (.go 0 (-1 :: upI (b0.2 + 1).toNat) 1) (bad_go fun x _ z q => by
      have := q.2.1 _ List.mem_cons_self
      omega)
theorem ok_law_wrong_hand {f_law_off : Addr} {fd_law_off : FuncData} {f_law_inner : Addr} {fd_law_inner : FuncData} {f_law_wrong_step : Addr} {fd_law_wrong_step : FuncData} (F : Fun K "_law_wrong_hand" "_law_wrong_hand" s_law_wrong_hand f fd) (T : Txt K mg cG) (G_law_off : Gd Pr w K mg base CX0 1 "_law_off" ["_law_d", "_law_most"] (spD 2 P_off) f_law_off fd_law_off) (G_law_inner : Gd Pr w K mg base CX0 1 "_law_inner" ["_law_t", "_law_hand"] (spD 2 P_inner) f_law_inner fd_law_inner) (G_law_wrong_step : Gd Pr w K mg base CX0 2 "_law_wrong_step" ["_law_d", "_law_t", "_law_hand", "_law_longer"] (spD 4 P_wrong_step) f_law_wrong_step fd_law_wrong_step) : FnOk Pr w K mg base CX0 3 f fd ["_law_d", "_law_t", "_law_hand"] (spD 3 P_wrong_hand) := by
  refine fn_D F sc_law_wrong_hand rfl (fun cdv A outer s H Eo hr => ⟨_, _, (dss_cons (ds_asg (ix := [3, 4]) (dk_ix K (dk_ix K (de_var 1) de_int) (de_var 2)) (dk_tup (n := 2) K rfl (dgs_cons (dg_name (i := 3) sc_law_wrong_hand.nd rfl (Or.inl rfl)) (dgs_cons (dg_name (i := 4) sc_law_wrong_hand.nd rfl (Or.inl rfl)) dgs_nil))))
    (dss_cons (ds_set (i := 5) sc_law_wrong_hand.nd rfl (Or.inl rfl) (de_call G_law_inner.ok (hr.mono (by decide)) rfl G_law_inner.m G_law_inner.kp G_law_inner.b (da_cons (de_var 1) (da_cons (de_var 2) da_nil))))
    (dss_cons (ds_set (i := 6) sc_law_wrong_hand.nd rfl (Or.inl rfl) (de_call G_law_off.ok (hr.mono (by decide)) rfl G_law_off.m G_law_off.kp G_law_off.b (da_dice 0 (da_cons de_int da_nil))))
    (dss_cons (ds_if (dt_cmp op_lt ar_lt (de_var 6) de_int (nomark _))
      (dss_one (ds_ret (dk_ix K (DF.de (df_lst (da_cons (de_tup (da_cons (de_tup (da_cons de_int (da_cons (DF.de (df_lst da_nil)) da_nil))) (da_cons de_str (da_cons de_int da_nil)))) (da_cons (de_tup (da_cons (de_tup (da_cons de_int (da_cons (DF.de (df_lst (da_cons (de_tup (da_cons de_str da_nil)) da_nil))) da_nil))) (da_cons de_str (da_cons de_int da_nil)))) (da_cons (de_tup (da_cons (de_tup (da_cons de_int (da_cons (de_op (opk_mul K) ar_mulU (DF.de (df_lst (da_cons (de_tup (da_cons de_str da_nil)) da_nil))) de_int) da_nil))) (da_cons de_str (da_cons de_int da_nil)))) da_nil))))) (de_var 6))))
      dss_nil)
    (dss_cons (ds_if (dt_cmp (opk_eq K hr.units) ar_eqU (de_var 6) de_int (nomark _))
      (dss_one (ds_ret (de_tup (da_cons (de_tup (da_cons (de_var 3) (da_cons (de_op (opk_add K) ar_addU (de_op (opk_add K) ar_addU (dk_sl K (de_var 4) do_none (do_some (de_var 5))) (DF.de (df_lst (da_cons (de_tup (da_cons de_str (da_cons de_int (da_cons de_int da_nil)))) da_nil)))) (dk_sl K (de_var 4) (do_some (de_op (opk_add K) ar_addU (de_var 5) de_int)) do_none)) da_nil))) (da_cons de_str (da_cons de_int da_nil))))))
      dss_nil)
    (dss_cons (ds_if (dt_cmp (opk_eq K hr.units) ar_eqU (de_var 6) de_int (nomark _))
      (dss_one (ds_ret (de_tup (da_cons (de_tup (da_cons (de_var 3) (da_cons (de_op (opk_add K) ar_addU (dk_sl K (de_var 4) do_none (do_some de_int)) (DF.de (df_lst (da_cons (de_tup (da_cons de_str da_nil)) da_nil)))) da_nil))) (da_cons de_str (da_cons de_int da_nil))))))
      dss_nil)
    (dss_cons (ds_if (dt_cmp (opk_eq K hr.units) ar_eqU (de_var 6) de_int (nomark _))
      (dss_one (ds_ret (de_tup (da_cons (de_tup (da_cons de_int (da_cons (DF.de (df_lst (da_cons (de_tup (da_cons de_str da_nil)) (da_cons (de_tup (da_cons de_str (da_cons de_int (da_cons de_int da_nil)))) da_nil)))) da_nil))) (da_cons de_str (da_cons de_int da_nil))))))
      dss_nil)
    (dss_cons (ds_if (dt_cmp (opk_eq K hr.units) ar_eqU (de_var 6) de_int (nomark _))
      (dss_one (ds_ret (de_tup (da_cons (de_tup (da_cons (dk_ix K (DF.de (df_lst (da_cons de_int (da_cons (de_op (opk_add K) ar_addU (de_var 5) de_int) (da_cons (de_neg de_int) da_nil))))) (de_call G_law_off.ok (hr.mono (by decide)) rfl G_law_off.m G_law_off.kp G_law_off.b (da_dice 0 (da_cons de_int da_nil)))) (da_cons (de_var 4) da_nil))) (da_cons de_str (da_cons de_int da_nil))))))
      dss_nil)
    (dss_cons (ds_set (i := 7) sc_law_wrong_hand.nd rfl (Or.inl rfl) (de_call G_law_off.ok (hr.mono (by decide)) rfl G_law_off.m G_law_off.kp G_law_off.b (da_dice 0 (da_cons (de_callB (cr_len K) ac_len rfl T.len PySem.boot_len (da_cons (de_var 4) da_nil)) da_nil))))
    (dss_cons (ds_set (i := 8) sc_law_wrong_hand.nd rfl (Or.inr rfl) (de_call G_law_off.ok (hr.mono (by decide)) rfl G_law_off.m G_law_off.kp G_law_off.b (da_dice 0 (da_cons de_int da_nil))))
    (dss_cons (ds_setLc (i := 9) rfl sc_law_wrong_hand.nd rfl rfl (sw_true rfl rfl rfl (by decide +kernel)) (own := [("_law_k", 10)]) (di_range1 rfl T.range (da_cons de_int da_nil)) (blkOk_by (own := [("_law_k", 10)]) (N := N_law_wrong_hand) (sc := defScope s_law_wrong_hand) (by decide +kernel)) (fun _ _ _ _ _ => (dg_name (i := 10) sc_law_wrong_hand.nd rfl (Or.inl rfl))) (fun _ _ _ _ _ => dts_nil) (fun _ _ _ _ _ => (de_call G_law_wrong_step.ok (hr.mono (by decide)) rfl G_law_wrong_step.m G_law_wrong_step.kp G_law_wrong_step.b (da_dice 0 (da_cons (de_var 1) (da_cons (de_var 2) (da_cons (de_var 8) da_nil)))))))
    (dss_one (ds_ret (de_tup (da_cons (de_tup (da_cons de_int (da_cons (de_op (opk_add K) ar_addU (de_op (opk_add K) ar_addU (de_op (opk_add K) ar_addU (dk_sl K (de_var 4) do_none (do_some (de_var 7))) (dk_sl K (de_var 9) do_none (do_some de_int))) (dk_sl K (de_var 4) (do_some (de_op (opk_add K) ar_addU (de_var 7) de_int)) do_none)) (de_op (opk_mul K) ar_mulU (dk_sl K (de_var 9) (do_some de_int) do_none) (de_var 8))) da_nil))) (da_cons de_str (da_cons (de_var 7) da_nil))))))))))))))))), ?_⟩)
  intro ss Φ hl hP
  obtain ⟨g, i, h, rfl, og, eh, hQ⟩ := hP
  have hi : i < g.hs.length := (List.getElem?_eq_some_iff.mp eh).1
  have oh := og.hs h (List.mem_of_getElem? eh)
  have hl2 := oh.len2
  have hl23 := oh.len24
  have h4 := og.h4
  have hsl : (h.2.map dStp).length = h.2.length := List.length_map _
  obtain ⟨a1, a2, a3, a4, a5⟩ := inAt_ok oh
  have hin : inAt h < h.2.length := (List.getElem?_eq_some_iff.mp a1).1
  have hins : inns h.2 = [inAt h] := inns_of a1 a3
  have allok : ∀ (m : Int), (h.2.length : Int) ≤ m → ∀ s ∈ h.2, okStpB g.bs m s = true := fun m hm s hs => okStpB_mono hm (okStpB_of (oh.ok s hs))
  have cl : ∀ lo hi, (cutG (h.2.map dStp) lo hi).length ≤ 24 := fun lo hi => Nat.le_trans (cut_len1 lo hi) (by rw [hsl]; omega)
  refine ⟨.lst (g.hs.map dHand), rfl, dHand h, atI_map eh, rfl, ?_⟩
  refine ⟨g, i, h, rfl, og, eh, ?_⟩
  refine ⟨14, rfl, by decide, by decide, fun r r0 r1 => ?_⟩
  refine iteD (fun w3 => ?_) (fun w3 => ?_)
  · refine ⟨by simp, by simp, by simp, by simp, by simp, by simp, by simp, by simp, by simp, ⟨by decide, by decide, by simp⟩, by simp, by simp, by simp, ?_⟩
    have hr : r = 0 ∨ r = 1 ∨ r = 2 := by omega
    rcases hr with rfl | rfl | rfl
    · exact ⟨_, rfl, hQ (1, []) "steps" 0 (by simp) (steps_bad (by simp))⟩
    · exact ⟨_, rfl, hQ (1, [.inn]) "steps" 0 (by simp) (steps_bad (by simp))⟩
    · exact ⟨_, rfl, hQ (1, List.replicate 25 .inn) "steps" 0 (by simp) (steps_bad (by simp))⟩
  refine iteD (fun w => ?_) (fun w4 => ?_)
  · have c1 := cl none (some (inAt h : Int))
    have c2 := cl (some ((inAt h : Int) + 1)) none
    refine ⟨by simp, by simp, by simp; omega, by simp; omega, by simp, by simp, ?_⟩
    have e : cutG (h.2.map dStp) none (some (inAt h : Int)) ++ [dStp (.put 0 0)] ++ cutG (h.2.map dStp) (some ((inAt h : Int) + 1)) none = (h.2.set (inAt h) (.put 0 0)).map dStp := by
      rw [cut_set (Int.natCast_nonneg _) (by rw [hsl, Int.toNat_natCast]; exact hin), Int.toNat_natCast, List.map_set]
    have gg := hQ (h.1, h.2.set (inAt h) (.put 0 0)) "in" 0 (by show (h.2.set _ _).length ≤ 90; rw [List.length_set]; omega) (handB_knock (progB_ok (by show 2 ≤ (h.2.set _ _).length; rw [List.length_set]; omega) (by show (h.2.set _ _).length ≤ 24; rw [List.length_set]; omega) fun s hs => by
      rcases List.mem_or_eq_of_mem_set hs with q | q
      · exact allok _ (by show _ ≤ ((h.2.set (inAt h) (Stp.put 0 0)).length : Int); rw [List.length_set]; exact Int.le_refl _) s q
      · rw [q]; exact put00 og.bs) (knock_in fun k z => by
        have hn : inns (h.2.set (inAt h) (.put 0 0)) = [] := inns_none fun j q => by
          by_cases hj : inAt h = j
          · rw [hj, List.getElem?_set_self (by omega)] at q
            cases q
          · rw [List.getElem?_set_ne hj] at q
            exact hj (a3 j q).symm
        have z2 : inns (h.2.set (inAt h) (.put 0 0)) = [k + 1] := z
        rw [hn] at z2
        cases z2))
    have e2 : dHand (h.1, h.2.set (inAt h) (.put 0 0)) = .tup [.int h.1, .lst (cutG (h.2.map dStp) none (some (inAt h : Int)) ++ [dStp (.put 0 0)] ++ cutG (h.2.map dStp) (some ((inAt h : Int) + 1)) none)] := by
      rw [e]
      rfl
    rw [e2] at gg
    exact gg
  refine iteD (fun w => ?_) (fun w5 => ?_)
  · have c1 := cl none (some 23)
    refine ⟨by simp, by simp, by simp; omega, by simp, by simp, ?_⟩
    have gg := hQ (h.1, h.2 ++ [.inn]) "in" 0 (by show (h.2 ++ [Stp.inn]).length ≤ 90; simp; omega) (handB_knock (progB_ok (by show 2 ≤ (h.2 ++ [Stp.inn]).length; simp; omega) (by show (h.2 ++ [Stp.inn]).length ≤ 24; simp; omega) fun s hs => by
      rcases List.mem_append.mp hs with q | q
      · exact allok _ (by show _ ≤ ((h.2 ++ [Stp.inn]).length : Int); simp; omega) s q
      · rw [List.mem_singleton.mp q]; rfl) (knock_in fun k z => by
        have z2 : inns (h.2 ++ [.inn]) = [k + 1] := z
        rw [inns_snoc hins] at z2
        exact absurd (congrArg List.length z2) (by simp)))
    have e2 : dHand (h.1, h.2 ++ [.inn]) = .tup [.int h.1, .lst (cutG (h.2.map dStp) none (some 23) ++ [.tup [.str "in"]])] := by
      rw [cut_all (by rw [hsl]; omega)]
      show D.tup [.int h.1, .lst ((h.2 ++ [Stp.inn]).map dStp)] = _
      rw [List.map_append]
      rfl
    rw [e2] at gg
    exact gg
  refine iteD (fun w => ?_) (fun w6 => ?_)
  · refine ⟨by simp, by simp, by simp, by simp, by simp, ?_⟩
    exact hQ (1, [.inn, .put 0 0]) "in" 0 (by simp) (handB_knock (progB_ok (by simp) (by simp) fun s hs => by
      rcases List.mem_cons.mp hs with q | q
      · rw [q]; rfl
      · rw [List.mem_singleton.mp q]; exact put00 og.bs) (knock_in fun k z => by
        have z2 : inns [Stp.inn, .put 0 0] = [k + 1] := z
        have e : inns [Stp.inn, .put 0 0] = [0] := by decide +kernel
        rw [e] at z2
        cases z2))
  refine iteD (fun w => ?_) (fun w7 => ?_)
  · refine ⟨by simp, 3, rfl, by decide, by decide, fun q q0 q1 => ?_⟩
    have e1 : progB g.bs (i : Int) h.2 = none := progB_ok hl2 (by omega) (allok _ (Int.le_refl _))
    have hq : q = 0 ∨ q = 1 ∨ q = 2 := by omega
    rcases hq with rfl | rfl | rfl
    · exact ⟨_, rfl, by simp, by simp, hQ (0, h.2) "knock" 0 (by show h.2.length ≤ 90; omega) (handB_knock e1 (knock_bad hins a2 (by omega)))⟩
    · exact ⟨_, rfl, by simp, by simp, hQ ((inAt h : Int) + 1, h.2) "knock" 0 (by show h.2.length ≤ 90; omega) (handB_knock e1 (knock_bad hins a2 (by omega)))⟩
    · exact ⟨_, rfl, by simp, by simp, hQ (-1, h.2) "knock" 0 (by show h.2.length ≤ 90; omega) (handB_knock e1 (knock_bad hins a2 (by omega)))⟩
  refine ⟨_, rfl, by rw [hsl]; omega, by rw [hsl]; omega, fun ap ap0 ap1 => ?_⟩
  rw [hsl] at ap1
  refine ⟨2, rfl, by decide, by decide, fun lo0 l0 l1 => ?_⟩
  obtain ⟨lo, rfl⟩ : ∃ lo : Nat, lo0 = (lo : Int) := ⟨lo0.toNat, by omega⟩
  refine ⟨⟨by decide, by decide⟩, by rw [rangeD_len]; decide, fun k acc => ∃ st : List Stp, acc = st.map dStp ∧ st.length = k ∧ ∀ s ∈ st, okStpB g.bs ((h.2.length : Int) + lo) s = false, ⟨[], rfl, rfl, fun _ z => nomatch z⟩, ?_, ?_⟩
  · rintro k x acc hx ⟨st, rfl, hk, hb⟩
    refine ⟨g, i, lo, h, rfl, og, eh, by omega, fun s hs => ⟨st ++ [s], by simp, by simp [hk], fun z hz => ?_⟩⟩
    rcases List.mem_append.mp hz with q | q
    · exact hb z q
    · rw [List.mem_singleton.mp q]; exact hs
  rintro acc ⟨st, rfl, hk, hb⟩
  rw [rangeD_len] at hk
  obtain ⟨s1, s2, rfl⟩ : ∃ s1 s2, st = [s1, s2] := by
    have hk2 : st.length = 2 := hk
    match st, hk2 with
    | [a, b], _ => exact ⟨a, b, rfl⟩
  have hs1 := hb s1 List.mem_cons_self
  have c1 := cl none (some ap)
  have c2 := cl (some (ap + 1)) none
  have hb1 : cutG ([s1, s2].map dStp) none (some 1) = [dStp s1] := rfl
  have hb2 : cutG ([s1, s2].map dStp) (some 1) none = [dStp s2] := rfl
  refine ⟨by rw [hb1]; simp; omega, by rw [hb1]; simp; omega, ⟨by omega, by omega, by rw [hb2]; simp; omega⟩, ?_, by simp, by simp, ?_⟩
  · rw [hb1, hb2]
    have hlo : lo = 0 ∨ lo = 1 := by omega
    rcases hlo with rfl | rfl <;> (simp; omega)
  · obtain ⟨a, rfl⟩ : ∃ a : Nat, ap = (a : Int) := ⟨ap.toNat, by omega⟩
    have hal : a < h.2.length := by omega
    have hzl : (h.2.set a s1 ++ List.replicate lo s2).length = h.2.length + lo := by rw [List.length_append, List.length_set, List.length_replicate]
    have hlo : lo ≤ 1 := by omega
    have gg := hQ (0, h.2.set a s1 ++ List.replicate lo s2) "step" (a : Int) (by show (h.2.set a s1 ++ List.replicate lo s2).length ≤ 90; rw [hzl]; omega) (handB_prog (step_at (k := a) (s := s1) (by show 2 ≤ (h.2.set a s1 ++ List.replicate lo s2).length; rw [hzl]; omega) (by show (h.2.set a s1 ++ List.replicate lo s2).length ≤ 24; rw [hzl]; omega)
      (by
        show (h.2.set a s1 ++ List.replicate lo s2)[a]? = _
        rw [List.getElem?_append_left (by rw [List.length_set]; exact hal), List.getElem?_set_self hal])
      (by
        show okStpB g.bs ((h.2.set a s1 ++ List.replicate lo s2).length : Int) s1 = false
        rw [hzl, Int.natCast_add]
        exact hs1)
      fun j y hj hy => by
        have hy2 : (h.2.set a s1 ++ List.replicate lo s2)[j]? = some y := hy
        rw [List.getElem?_append_left (by rw [List.length_set]; omega), List.getElem?_set_ne (by omega)] at hy2
        exact allok _ (by show _ ≤ ((h.2.set a s1 ++ List.replicate lo s2).length : Int); rw [hzl]; omega) y (List.mem_of_getElem? hy2)))
    have e2 : dHand (0, h.2.set a s1 ++ List.replicate lo s2) = .tup [.int 0, .lst (cutG (h.2.map dStp) none (some (a : Int)) ++ cutG ([s1, s2].map dStp) none (some 1) ++ cutG (h.2.map dStp) (some ((a : Int) + 1)) none ++ (List.replicate (lo : Int).toNat (cutG ([s1, s2].map dStp) (some 1) none)).flatten)] := by
      rw [hb1, hb2, cut_set (Int.natCast_nonneg _) (by rw [hsl, Int.toNat_natCast]; exact hal), Int.toNat_natCast, Int.toNat_natCast, ← List.map_set]
      show D.tup [.int 0, .lst ((h.2.set a s1 ++ List.replicate lo s2).map dStp)] = _
      rw [List.map_append]
      have h01 : lo = 0 ∨ lo = 1 := by omega
      rcases h01 with rfl | rfl <;> rfl
    rw [e2] at gg
    exact gg
theorem ok_law_wrong {f_law_off : Addr} {fd_law_off : FuncData} {f_law_wrong_hand : Addr} {fd_law_wrong_hand : FuncData} (F : Fun K "_law_wrong" "_law_wrong" s_law_wrong f fd) (T : Txt K mg cG) (G_law_off : Gd Pr w K mg base CX0 1 "_law_off" ["_law_d", "_law_most"] (spD 2 P_off) f_law_off fd_law_off) (G_law_wrong_hand : Gd Pr w K mg base CX0 3 "_law_wrong_hand" ["_law_d", "_law_t", "_law_hand"] (spD 3 P_wrong_hand) f_law_wrong_hand fd_law_wrong_hand) : FnOk Pr w K mg base CX0 4 f fd ["_law_d", "_law_t"] (spD 2 P_wrong) := by
  refine fn_D F sc_law_wrong rfl (fun cdv A outer s H Eo hr => ⟨_, _, (dss_cons (ds_asg (ix := [2, 3]) (de_var 1) (dk_tup (n := 2) K rfl (dgs_cons (dg_name (i := 2) sc_law_wrong.nd rfl (Or.inl rfl)) (dgs_cons (dg_name (i := 3) sc_law_wrong.nd rfl (Or.inl rfl)) dgs_nil))))
    (dss_cons (ds_set (i := 4) sc_law_wrong.nd rfl (Or.inl rfl) (de_call G_law_off.ok (hr.mono (by decide)) rfl G_law_off.m G_law_off.kp G_law_off.b (da_dice 0 (da_cons de_int da_nil))))
    (dss_cons (ds_if (dt_cmp op_lt ar_lt (de_var 4) de_int (nomark _))
      (dss_one (ds_ret (de_tup (da_cons (dk_ix K (DF.de (df_lst (da_cons (DF.de (df_lst da_nil)) (da_cons (de_op (opk_mul K) ar_mulU (DF.de (df_lst (da_cons (de_tup (da_cons de_int (da_cons de_int da_nil))) da_nil))) de_int) da_nil)))) (de_var 4)) (da_cons (de_op (opk_mul K) ar_mulU (de_var 3) de_int) (da_cons de_str (da_cons de_int (da_cons de_int da_nil))))))))
      dss_nil)
    (dss_cons (ds_if (dt_cmp op_lt ar_lt (de_var 4) de_int (nomark _))
      (dss_cons (ds_set (i := 5) sc_law_wrong.nd rfl (Or.inl rfl) (dk_ix K (DF.de (df_lst (da_cons (de_tup (da_cons de_int (da_cons de_int da_nil))) (da_cons (de_tup (da_cons de_int (da_cons de_int da_nil))) (da_cons (de_tup (da_cons (de_neg de_int) (da_cons de_int da_nil))) (da_cons (de_tup (da_cons de_int (da_cons de_int da_nil))) da_nil)))))) (de_call G_law_off.ok (hr.mono (by decide)) rfl G_law_off.m G_law_off.kp G_law_off.b (da_dice 0 (da_cons de_int da_nil)))))
      (dss_one (ds_ret (de_tup (da_cons (de_op (opk_add K) ar_addU (de_var 2) (DF.de (df_lst (da_cons (de_var 5) (da_cons (de_tup (da_cons de_int (da_cons de_int da_nil))) da_nil))))) (da_cons (DF.de (df_lst da_nil)) (da_cons de_str (da_cons de_int (da_cons (de_callB (cr_len K) ac_len rfl T.len PySem.boot_len (da_cons (de_var 2) da_nil)) da_nil)))))))))
      dss_nil)
    (dss_cons (ds_if (dt_cmp (opk_eq K hr.units) ar_eqU (de_var 4) de_int (nomark _))
      (dss_one (ds_ret (de_tup (da_cons (de_var 2) (da_cons (dk_ix K (DF.de (df_lst (da_cons (DF.de (df_lst da_nil)) (da_cons (de_op (opk_mul K) ar_mulU (dk_sl K (de_var 3) do_none (do_some de_int)) de_int) da_nil)))) (de_call G_law_off.ok (hr.mono (by decide)) rfl G_law_off.m G_law_off.kp G_law_off.b (da_dice 0 (da_cons de_int da_nil)))) (da_cons de_str (da_cons de_int (da_cons de_int da_nil))))))))
      dss_nil)
    (dss_cons (ds_set (i := 6) sc_law_wrong.nd rfl (Or.inl rfl) (de_call G_law_off.ok (hr.mono (by decide)) rfl G_law_off.m G_law_off.kp G_law_off.b (da_dice 0 (da_cons (de_callB (cr_len K) ac_len rfl T.len PySem.boot_len (da_cons (de_var 3) da_nil)) da_nil))))
    (dss_cons (ds_asg (ix := [5, 7, 8]) (de_call G_law_wrong_hand.ok (hr.mono (by decide)) rfl G_law_wrong_hand.m G_law_wrong_hand.kp G_law_wrong_hand.b (da_dice 0 (da_cons (de_var 1) (da_cons (de_var 6) da_nil)))) (dk_tup (n := 3) K rfl (dgs_cons (dg_name (i := 5) sc_law_wrong.nd rfl (Or.inl rfl)) (dgs_cons (dg_name (i := 7) sc_law_wrong.nd rfl (Or.inl rfl)) (dgs_cons (dg_name (i := 8) sc_law_wrong.nd rfl (Or.inl rfl)) dgs_nil)))))
    (dss_cons (ds_set (i := 9) sc_law_wrong.nd rfl (Or.inl rfl) (de_op (opk_mul K) ar_mulU (DF.de (df_lst (da_cons (de_tup (da_cons de_int (da_cons (DF.de (df_lst da_nil)) da_nil))) da_nil))) (de_callTy call_int1 ac_int rfl T.int (by decide +kernel) (da_cons (de_and (de_cmp op_lt ar_lt (de_callB (cr_len K) ac_len rfl T.len PySem.boot_len (da_cons (de_var 3) da_nil)) de_int (nomark _)) (de_one (de_cmp (opk_eq K hr.units) ar_eqU (de_call G_law_off.ok (hr.mono (by decide)) rfl G_law_off.m G_law_off.kp G_law_off.b (da_dice 0 (da_cons de_int da_nil))) de_int (nomark _)))) da_nil))))
    (dss_one (ds_ret (de_tup (da_cons (de_var 2) (da_cons (de_op (opk_add K) ar_addU (de_op (opk_add K) ar_addU (de_op (opk_add K) ar_addU (dk_sl K (de_var 3) do_none (do_some (de_var 6))) (DF.de (df_lst (da_cons (de_var 5) da_nil)))) (dk_sl K (de_var 3) (do_some (de_op (opk_add K) ar_addU (de_var 6) de_int)) do_none)) (de_var 9)) (da_cons (de_var 7) (da_cons (de_var 6) (da_cons (de_var 8) da_nil)))))))))))))))), ?_⟩)
  intro ss Φ hl hP
  obtain ⟨g, rfl, og, hQ⟩ := hP
  have h1 := og.h1
  have h4 := og.h4
  have hb10 := og.bs.2.1
  have hb1 := og.bs.1
  have hml : (g.hs.map dHand).length = g.hs.length := List.length_map _
  have hbm : (g.bs.map dBox).length = g.bs.length := List.length_map _
  have h90 : ∀ h ∈ g.hs, h.2.length ≤ 90 := fun h hh => Nat.le_trans (og.hs h hh).len24 (by decide)
  refine ⟨rfl, ?_⟩
  refine ⟨14, rfl, by decide, by decide, fun r r0 r1 => ?_⟩
  refine iteD (fun w2 => ?_) (fun w2 => ?_)
  · have e5 : (List.replicate (5 : Int).toNat (g.hs.map dHand)).flatten = ((List.replicate 5 g.hs).flatten).map dHand := by
      rw [List.map_flatten, List.map_replicate]
      rfl
    have l5 : ((List.replicate 5 g.hs).flatten).length ≤ 50 := by simp; omega
    have m5 : ∀ h ∈ (List.replicate 5 g.hs).flatten, h.2.length ≤ 90 := fun h hh => by
      obtain ⟨q, hq, hh2⟩ := List.mem_flatten.mp hh
      rw [List.eq_of_mem_replicate hq] at hh2
      exact h90 h hh2
    have cm : (-(2 ^ 63) : Int) ≤ 5 ∧ (5 : Int) < 2 ^ 63 ∧ (g.hs.map dHand).length * (5 : Int).toNat ≤ 100000 := ⟨by decide, by decide, by rw [hml]; show g.hs.length * 5 ≤ 100000; omega⟩
    refine ⟨by simp, by simp, by simp, ⟨by decide, by decide, by simp⟩, by simp, ?_⟩
    have hr : r = 0 ∨ r = 1 := by omega
    rcases hr with rfl | rfl
    · refine ⟨_, rfl, cm, by simp, ?_⟩
      rw [e5]
      exact hQ ⟨[], (List.replicate 5 g.hs).flatten⟩ ("boxes", 0, 0) (by simp) l5 m5 rfl
    · refine ⟨_, rfl, cm, by simp, ?_⟩
      rw [e5]
      exact hQ ⟨List.replicate 13 (0, 0), (List.replicate 5 g.hs).flatten⟩ ("boxes", 0, 0) (by simp) l5 m5 rfl
  refine iteD (fun w4 => ?_) (fun w4 => ?_)
  · refine ⟨by simp, by simp, by simp, by simp, by simp, 4, rfl, by decide, by decide, fun q q0 q1 => ?_⟩
    have fin : ∀ b : Box, ¬ (0 ≤ b.1 ∧ b.1 ≤ b.2 ∧ b.2 ≤ 9) → Φ (.tup [.lst (g.bs.map dBox ++ [dBox b, dBox (9, 0)]), .lst [], .str "box", .int 0, .int (g.bs.map dBox).length]) := fun b hb => by
      have gg := hQ ⟨g.bs ++ [b, (9, 0)], []⟩ ("box", 0, (g.bs.length : Int)) (by show (g.bs ++ [b, (9, 0)]).length ≤ 20; simp; omega) (by simp) (fun h hh => nomatch hh) (by
        unfold gateB boxesB
        show (match (if 1 ≤ (g.bs ++ [b, (9, 0)]).length ∧ (g.bs ++ [b, (9, 0)]).length ≤ 12 then firstB boxB 0 (g.bs ++ [b, (9, 0)]) else some (("boxes" : Str), (0 : Int), (0 : Int))) with | some b => some b | none => handsB (g.bs ++ [b, (9, 0)]) []) = _
        rw [if_pos ⟨by simp, by simp; omega⟩, firstB_at (k := g.bs.length) (x := b) (b := (("box" : Str), (0 : Int), (g.bs.length : Int))) (fun i y hi hy => by
          rw [List.getElem?_append_left hi] at hy
          have h4 : 0 ≤ y.1 ∧ y.1 ≤ y.2 ∧ y.2 ≤ 9 := og.bs.2.2 y (List.mem_of_getElem? hy)
          unfold boxB
          rw [if_pos h4]) (by rw [List.getElem?_append_right (Nat.le_refl _), Nat.sub_self]; rfl) (by unfold boxB; rw [if_neg hb, Nat.zero_add])])
      have e : (g.bs ++ [b, (9, 0)]).map dBox = g.bs.map dBox ++ [dBox b, dBox (9, 0)] := by rw [List.map_append]; rfl
      have gg2 : Φ (.tup [.lst ((g.bs ++ [b, (9, 0)]).map dBox), .lst [], .str "box", .int 0, .int (g.bs.length : Int)]) := gg
      rw [e] at gg2
      rw [hbm]
      exact gg2
    have hq : q = 0 ∨ q = 1 ∨ q = 2 ∨ q = 3 := by omega
    rcases hq with rfl | rfl | rfl | rfl
    · exact ⟨_, rfl, by simp, by simp, by rw [hbm]; simp; omega, by simp, by simp, fin (1, 0) (by decide)⟩
    · exact ⟨_, rfl, by simp, by simp, by rw [hbm]; simp; omega, by simp, by simp, fin (0, 10) (by decide)⟩
    · exact ⟨_, rfl, by simp, by simp, by rw [hbm]; simp; omega, by simp, by simp, fin (-1, 3) (by decide)⟩
    · exact ⟨_, rfl, by simp, by simp, by rw [hbm]; simp; omega, by simp, by simp, fin (5, 4) (by decide)⟩
  have handsN : ∀ hs : List Hand, ¬ (1 ≤ hs.length ∧ hs.length ≤ 4) → gateB ⟨g.bs, hs⟩ = some (("hands" : Str), (0 : Int), (0 : Int)) := fun hs hn => by
    unfold gateB handsB
    rw [boxesB_ok og.bs]
    show (if 1 ≤ hs.length ∧ hs.length ≤ 4 then firstB (handB g.bs) 0 hs else some (("hands" : Str), (0 : Int), (0 : Int))) = _
    rw [if_neg hn]
  refine iteD (fun w5 => ?_) (fun w5 => ?_)
  · have ec : cutG (g.hs.map dHand) none (some 1) = (g.hs.take 1).map dHand := by
      rw [cut_to (by decide) (by rw [hml]; exact h1), List.map_take]
      rfl
    have e5 : (List.replicate (5 : Int).toNat ((g.hs.take 1).map dHand)).flatten = ((List.replicate 5 (g.hs.take 1)).flatten).map dHand := by
      rw [List.map_flatten, List.map_replicate]
      rfl
    have l1 : (g.hs.take 1).length = 1 := by rw [List.length_take]; omega
    have l5 : ((List.replicate 5 (g.hs.take 1)).flatten).length = 5 := by simp; omega
    refine ⟨by simp, ⟨by decide, by decide, by rw [ec, List.length_map, l1]; decide⟩, by simp, 2, rfl, by decide, by decide, fun q q0 q1 => ?_⟩
    have hq : q = 0 ∨ q = 1 := by omega
    rcases hq with rfl | rfl
    · exact ⟨_, rfl, by simp, hQ ⟨g.bs, []⟩ ("hands", 0, 0) (by show g.bs.length ≤ 20; omega) (by simp) (fun h hh => nomatch hh) (handsN [] (by simp))⟩
    · refine ⟨_, rfl, by simp, ?_⟩
      rw [ec, e5]
      exact hQ ⟨g.bs, (List.replicate 5 (g.hs.take 1)).flatten⟩ ("hands", 0, 0) (by show g.bs.length ≤ 20; omega) (by show _ ≤ 50; rw [l5]; decide) (fun h hh => by
        obtain ⟨q, hq, hh2⟩ := List.mem_flatten.mp hh
        rw [List.eq_of_mem_replicate hq] at hh2
        exact h90 h (List.mem_of_mem_take hh2)) (handsN _ (by rw [l5]; decide))
  refine ⟨_, rfl, by rw [hml]; omega, by rw [hml]; omega, fun hd d0 d1 => ?_⟩
  rw [hml] at d1
  obtain ⟨i, rfl⟩ : ∃ i : Nat, hd = (i : Int) := ⟨hd.toNat, by omega⟩
  have hi : i < g.hs.length := by omega
  obtain ⟨h, eh⟩ : ∃ h, g.hs[i]? = some h := ⟨_, List.getElem?_eq_getElem hi⟩
  refine ⟨g, i, h, rfl, og, eh, fun z w j hz hbad => ?_⟩
  refine ⟨rfl, ?_⟩
  have c1 : (cutG (g.hs.map dHand) none (some (i : Int))).length ≤ 4 := Nat.le_trans (cut_len1 _ _) (by rw [hml]; exact h4)
  have c2 : (cutG (g.hs.map dHand) (some ((i : Int) + 1)) none).length ≤ 4 := Nat.le_trans (cut_len1 _ _) (by rw [hml]; exact h4)
  have fin : ∀ n : Nat, g.hs.length + n ≤ 4 → Φ (.tup [dBoxes g.bs, .lst (cutG (g.hs.map dHand) none (some (i : Int)) ++ [dHand z] ++ cutG (g.hs.map dHand) (some ((i : Int) + 1)) none ++ List.replicate n (dHand (0, []))), .str w, .int i, .int j]) := fun n hn => by
    rw [cut_set (Int.natCast_nonneg _) (by rw [hml, Int.toNat_natCast]; exact hi), Int.toNat_natCast, ← List.map_set, ← List.map_replicate, ← List.map_append]
    have hlen : (g.hs.set i z ++ List.replicate n (0, [])).length = g.hs.length + n := by rw [List.length_append, List.length_set, List.length_replicate]
    refine hQ ⟨g.bs, g.hs.set i z ++ List.replicate n (0, [])⟩ (w, (i : Int), j) (by show g.bs.length ≤ 20; omega) (by show (g.hs.set i z ++ List.replicate n (0, [])).length ≤ 50; rw [hlen]; omega) (fun y hy => ?_) (gate_hand (bad := z) og.bs (by rw [hlen]; omega) (by rw [hlen]; exact hn) (by rw [List.getElem?_append_left (by rw [List.length_set]; exact hi), List.getElem?_set_self hi]) hbad fun k y hk hy => ?_)
    · have hy2 : y ∈ g.hs.set i z ++ List.replicate n ((0, []) : Hand) := hy
      rcases List.mem_append.mp hy2 with q | q
      · rcases List.mem_or_eq_of_mem_set q with q | q
        · exact h90 y q
        · rw [q]; exact hz
      · rw [List.eq_of_mem_replicate q]
        exact Nat.zero_le _
    · rw [List.getElem?_append_left (by rw [List.length_set]; omega), List.getElem?_set_ne (by omega)] at hy
      exact og.hs y (List.mem_of_getElem? hy)
  refine ⟨by simp, by simp, by simp, ?_⟩
  refine iteD (fun lt => ?_) (fun nlt => ?_)
  · rw [hml] at lt
    refine ⟨2, rfl, by decide, by decide, fun q q0 q1 => ?_⟩
    have hq : q = 0 ∨ q = 1 := by omega
    rcases hq with rfl | rfl
    · refine ⟨⟨by decide, by decide, by decide⟩, by simp, by simp; omega, by simp; omega, ?_, by simp, fin 1 (by omega)⟩
      show (cutG (g.hs.map dHand) none (some (i : Int)) ++ [dHand z] ++ cutG (g.hs.map dHand) (some ((i : Int) + 1)) none).length + 1 ≤ 100000
      simp
      omega
    · refine ⟨⟨by decide, by decide, by decide⟩, by simp, by simp; omega, by simp; omega, ?_, by simp, fin 0 (by omega)⟩
      show (cutG (g.hs.map dHand) none (some (i : Int)) ++ [dHand z] ++ cutG (g.hs.map dHand) (some ((i : Int) + 1)) none).length + 0 ≤ 100000
      simp
      omega
  · refine ⟨⟨by decide, by decide, by decide⟩, by simp, by simp; omega, by simp; omega, ?_, by simp, fin 0 (by omega)⟩
    show (cutG (g.hs.map dHand) none (some (i : Int)) ++ [dHand z] ++ cutG (g.hs.map dHand) (some ((i : Int) + 1)) none).length + 0 ≤ 100000
    simp
    omega
theorem ok_Gate_boxes (F : Fun K "boxes" "Gate.boxes" s_Gate_boxes f fd) (T : Txt K mg cG) : FnOk Pr w K mg base CX0 1 f fd ["self"] (spW 1 (PW_boxes cG)) := by
  refine fn_W F sc_Gate_boxes rfl rfl (fun cdv A outer s H Eo hr => ⟨_, _, (DFN.dn (DF.dfn (dk_listOf K rfl T.list (by decide +kernel) (da_cons (dk_fld K T.clGate T.noGate_pairs (de_var 0)) da_nil)))), ?_⟩)
  intro ss Φ hl hP
  obtain ⟨g, rfl, hQ⟩ := hP
  refine ⟨rfl, .tup (g.bs.map dBox), rfl, ?_⟩
  refine ⟨?_, hQ⟩
  have : ∀ l : List Box, D.flats (l.map dBox) = true := fun l => by
    induction l with
    | nil => rfl
    | cons a r ih => simp [D.flats, D.flat, dBox, ih]
  exact this g.bs
theorem ok_Gate_hands (F : Fun K "hands" "Gate.hands" s_Gate_hands f fd) (T : Txt K mg cG) : FnOk Pr w K mg base CX0 1 f fd ["self"] (spW 1 (PW_hands cG)) := by
  refine fn_W F sc_Gate_hands rfl rfl (fun cdv A outer s H Eo hr => ⟨_, _, (DFN.dn (dfn_lc rfl sc_Gate_hands.nd (own := [("knock", 1), ("steps", 2)]) (di_zip rfl T.zip (da_cons (dk_fld K T.clGate T.noGate_knocks (de_var 0)) (da_cons (dk_fld K T.clGate T.noGate_programs (de_var 0)) da_nil))) (blkOk_by (own := [("knock", 1), ("steps", 2)]) (N := N_Gate_hands) (sc := defScope s_Gate_hands) (by decide +kernel)) (fun _ _ _ _ _ => (dk_tup (n := 2) K rfl (dgs_cons (dg_name (i := 1) sc_Gate_hands.nd rfl (Or.inl rfl)) (dgs_cons (dg_name (i := 2) sc_Gate_hands.nd rfl (Or.inl rfl)) dgs_nil)))) (fun _ _ _ _ _ => dts_nil) (fun _ _ _ _ _ => (dn_tup2 (DE.dn (de_var 1)) (DFN.dn (DF.dfn (dk_listOf K rfl T.list (by decide +kernel) (da_cons (de_var 2) da_nil)))))))), ?_⟩)
  intro ss Φ hl hP
  obtain ⟨g, rfl, h50, hQ⟩ := hP
  have fl : ∀ l : List Stp, D.flats (l.map dStp) = true := fun l => by
    induction l with
    | nil => rfl
    | cons a r ih =>
      have : (dStp a).flat = true := by
        cases a with
        | put b n => simp [dStp, D.flat, D.flats]
        | inn => simp [dStp, D.flat, D.flats]
        | go b ns x =>
          have : ∀ l : List Int, D.flats (l.map D.int) = true := fun l => by
            induction l with
            | nil => rfl
            | cons a r ih => simp [D.flats, D.flat, ih]
          simp [dStp, D.flat, D.flats, this]
      simp [D.flats, this, ih]
  have ml : (g.hs.map fun h => D.int h.1).length = (g.hs.map fun h => D.tup (h.2.map dStp)).length := by rw [List.length_map, List.length_map]
  refine ⟨rfl, .tup (g.hs.map fun h => .int h.1), rfl, ?_⟩
  refine ⟨rfl, dProgs g, rfl, ?_⟩
  refine ⟨ml, ?_⟩
  refine ⟨by rw [zipD_len ml, List.length_map]; omega, fun i acc => acc = (g.hs.take i).map dHand, rfl, ?_, ?_⟩
  · rintro i x acc hx rfl
    obtain ⟨a, b, ha, hb, rfl⟩ := zipD_at hx
    obtain ⟨h, eh, rfl⟩ := map_at ha
    obtain ⟨h', eh', rfl⟩ := map_at hb
    rw [eh] at eh'
    cases eh'
    refine ⟨rfl, ?_⟩
    refine ⟨rfl, ?_⟩
    refine ⟨fl h.2, ?_⟩
    exact (take_map eh).symm
  rintro acc rfl
  rw [zipD_len ml, List.length_map, List.take_length]
  exact hQ
theorem okX_check_boxes {aBG fI : Addr} {fdI : FuncData} (F : Fun K "check_boxes" "check_boxes" s_check_boxes f fd) (T : Txt K mg cG) (B : BGd Pr w K mg base aBG fI fdI "BadGate") : FnOk Pr w K mg base (L2N.CX Pr w) 3 f fd ["boxes"] (spX 1 (PX_check_boxes aBG)) := by
  refine fn_N F sc_check_boxes rfl (fun cdv A outer s H E hr => ⟨_, _, (dss_cons (ds_if (dt_not (dt_chain op_le ar_le op_le ar_le de_int (de_callB (cr_len K) ac_len rfl T.len PySem.boot_len (da_cons (de_var 0) da_nil)) (de_globI rfl T.c_MOST_BOXES.choose_spec)))
      (dss_one (ds_raiseBG rfl (L2N.takes_of rfl rfl rfl rfl) B (hr.mono (by decide)) rfl (da_cons de_str (da_cons de_int (da_cons de_int da_nil)))))
      dss_nil)
    (dss_one (ds_for (ix := [1, 2, 3]) (L2.passes_of rfl) rfl (dk_enum K rfl T.enumerate (da_cons (de_var 0) da_nil)) (dk_tup (n := 2) K rfl (dgs_cons (dg_name (i := 1) sc_check_boxes.nd rfl (Or.inl rfl)) (dgs_cons (dk_tup (n := 2) K rfl (dgs_cons (dg_name (i := 2) sc_check_boxes.nd rfl (Or.inl rfl)) (dgs_cons (dg_name (i := 3) sc_check_boxes.nd rfl (Or.inl rfl)) dgs_nil))) dgs_nil)))
      (dss_one (ds_if (dt_not (dt_chain3 op_le ar_le op_le ar_le op_le ar_le de_int (de_var 2) (de_var 3) (de_globI rfl T.c_MOST_IN_BOX.choose_spec)))
        (dss_one (ds_raiseBG rfl (L2N.takes_of rfl rfl rfl rfl) B (hr.mono (by decide)) rfl (da_cons de_str (da_cons de_int (da_cons (de_var 1) da_nil)))))
        dss_nil))))), ?_⟩)
  intro ss Φ Ψ hl hP
  obtain ⟨bs, rfl, h50, hy, hn⟩ := hP
  have hml : (bs.map dBox).length = bs.length := List.length_map _
  have no : ¬ (1 ≤ bs.length ∧ bs.length ≤ 12) → Ψ (bgX aBG ("boxes", 0, 0)) := fun z => hn _ (by unfold boxesB; rw [if_neg z])
  refine iteD (fun h0 => ?_) (fun h0 => ⟨"boxes", 0, 0, rfl, by decide, by decide, by decide, by decide, by decide, no (by rw [hml] at h0; omega)⟩)
  refine iteN (fun h1 => ⟨"boxes", 0, 0, rfl, by decide, by decide, by decide, by decide, by decide, no (by rw [hml] at h1; omega)⟩) (fun h1 => ?_)
  rw [hml] at h0 h1
  have lok : 1 ≤ bs.length ∧ bs.length ≤ 12 := ⟨by omega, by omega⟩
  have eb : boxesB bs = firstB boxB 0 bs := by unfold boxesB; rw [if_pos lok]
  refine ⟨fun k l => (∀ i y, i < k → bs[i]? = some y → boxB (0 + i) y = none) ∧ ∃ a b c : Option S, l = [some (.d (dBoxes bs)), a, b, c], ⟨fun i y h _ => absurd h (Nat.not_lt_zero i), none, none, none, rfl⟩, ?_, ?_⟩
  · rintro k x l' hx ⟨hI, a, b, c, rfl⟩
    obtain ⟨y, hyE, rfl⟩ := enumD_at hx
    obtain ⟨s, es, rfl⟩ := map_at hyE
    have hk : k < bs.length := (List.getElem?_eq_some_iff.mp es).1
    have bad : ¬ (0 ≤ s.1 ∧ s.1 ≤ s.2 ∧ s.2 ≤ 9) → Ψ (bgX aBG ("box", 0, (k : Int))) := fun z => hn _ (by
      rw [eb]
      refine firstB_at hI es ?_
      unfold boxB
      rw [if_neg z, Nat.zero_add])
    have ra : ¬ (0 ≤ s.1 ∧ s.1 ≤ s.2 ∧ s.2 ≤ 9) → ∃ (w : Str) (i j : Int), [S.d (.str "box"), S.d (.int 0), S.d (.int (k : Int))] = [.d (.str w), .d (.int i), .d (.int j)] ∧ w.length ≤ 100 ∧ 0 ≤ i ∧ i < 100 ∧ 0 ≤ j ∧ j < 100 ∧ Ψ ⟨.ref aBG, some (["step", "hand", "why"], [.int j, .int i, .str w])⟩ :=
      fun z => ⟨"box", 0, (k : Int), rfl, by decide, by decide, by decide, by omega, by omega, bad z⟩
    refine ⟨rfl, rfl, ?_⟩
    refine iteD (fun q1 => ?_) (fun q1 => ra fun z => q1 z.1)
    refine iteD (fun q2 => ?_) (fun q2 => ra fun z => q2 z.2.1)
    refine iteN (fun q3 => ra fun z => q3 z.2.2) (fun q3 => ?_)
    refine ⟨fun i y hiK hyK => ?_, _, _, _, rfl⟩
    by_cases hik : i < k
    · exact hI i y hik hyK
    · have e1 : i = k := by omega
      subst e1
      rw [es] at hyK
      cases hyK
      unfold boxB
      rw [if_pos ⟨q1, q2, q3⟩]
  · rintro l' ⟨hI, a, b, c, rfl⟩
    rw [enumD_len, show (bs.map dBox).length = bs.length from hml] at hI
    exact hy (by
      rw [eb]
      exact firstB_none fun i y h => hI i y (List.getElem?_eq_some_iff.mp h).1 h)
theorem okX_check_program {aBG fI : Addr} {fdI : FuncData} {f_can_be_step : Addr} {fd_can_be_step : FuncData} (F : Fun K "check_program" "check_program" s_check_program f fd) (T : Txt K mg cG) (G_can_be_step : Gd Pr w K mg base CX0 2 "can_be_step" ["boxes", "many", "step"] (spD 3 (PP_can_be_step)) f_can_be_step fd_can_be_step) (B : BGd Pr w K mg base aBG fI fdI "BadGate") : FnOk Pr w K mg base (L2N.CX Pr w) 3 f fd ["boxes", "hand", "steps"] (spX 3 (PX_check_program aBG)) := by
  refine fn_N F sc_check_program rfl (fun cdv A outer s H E hr => ⟨_, _, (dss_cons (ds_if (dt_not (dt_chain op_le ar_le op_le ar_le (de_globI rfl T.c_FEWEST_STEPS.choose_spec) (de_callB (cr_len K) ac_len rfl T.len PySem.boot_len (da_cons (de_var 2) da_nil)) (de_globI rfl T.c_MOST_STEPS.choose_spec)))
      (dss_one (ds_raiseBG rfl (L2N.takes_of rfl rfl rfl rfl) B (hr.mono (by decide)) rfl (da_cons de_str (da_cons (de_var 1) (da_cons de_int da_nil)))))
      dss_nil)
    (dss_one (ds_for (ix := [3, 4]) (L2.passes_of rfl) rfl (dk_enum K rfl T.enumerate (da_cons (de_var 2) da_nil)) (dk_tup (n := 2) K rfl (dgs_cons (dg_name (i := 3) sc_check_program.nd rfl (Or.inl rfl)) (dgs_cons (dg_name (i := 4) sc_check_program.nd rfl (Or.inl rfl)) dgs_nil)))
      (dss_one (ds_if (dt_not (dt_val (de_call G_can_be_step.ok (hr.mono (by decide)) rfl G_can_be_step.m G_can_be_step.kp G_can_be_step.b (da_cons (de_var 0) (da_cons (de_callB (cr_len K) ac_len rfl T.len PySem.boot_len (da_cons (de_var 2) da_nil)) (da_cons (de_var 4) da_nil))))))
        (dss_one (ds_raiseBG rfl (L2N.takes_of rfl rfl rfl rfl) B (hr.mono (by decide)) rfl (da_cons de_str (da_cons (de_var 1) (da_cons (de_var 3) da_nil)))))
        dss_nil))))), ?_⟩)
  intro ss Φ Ψ hl hP
  obtain ⟨bs, l, i, rfl, hbs, hl90, hi, hy, hn⟩ := hP
  have hml : (l.map dStp).length = l.length := List.length_map _
  have no : ¬ (2 ≤ l.length ∧ l.length ≤ 24) → Ψ (bgX aBG ("steps", (i : Int), 0)) := fun z => hn _ (by unfold progB; rw [if_neg z])
  refine iteD (fun h0 => ?_) (fun h0 => ⟨"steps", (i : Int), 0, rfl, by decide, by omega, by omega, by decide, by decide, no (by rw [hml] at h0; omega)⟩)
  refine iteN (fun h1 => ⟨"steps", (i : Int), 0, rfl, by decide, by omega, by omega, by decide, by decide, no (by rw [hml] at h1; omega)⟩) (fun h1 => ?_)
  rw [hml] at h0 h1
  have lok : 2 ≤ l.length ∧ l.length ≤ 24 := ⟨by omega, by omega⟩
  have eb : progB bs i l = firstB (stepB bs l.length i) 0 l := by unfold progB; rw [if_pos lok]
  refine ⟨fun k s => (∀ j y, j < k → l[j]? = some y → stepB bs l.length i (0 + j) y = none) ∧ ∃ a b : Option S, s = [some (.d (dBoxes bs)), some (.d (.int i)), some (.d (.lst (l.map dStp))), a, b], ⟨fun j y h _ => absurd h (Nat.not_lt_zero j), none, none, rfl⟩, ?_, ?_⟩
  · rintro k x l' hx ⟨hI, a, b, rfl⟩
    obtain ⟨y, hyE, rfl⟩ := enumD_at hx
    obtain ⟨s, es, rfl⟩ := map_at hyE
    have hk : k < l.length := (List.getElem?_eq_some_iff.mp es).1
    refine ⟨rfl, bs, _, s, rfl, hbs, ?_⟩
    rw [hml]
    cases q : okStpB bs (l.length : Int) s with
    | false =>
      refine ⟨"step", (i : Int), (k : Int), rfl, by decide, by omega, by omega, by omega, by omega, hn ("step", (i : Int), (k : Int)) ?_⟩
      rw [eb]
      refine firstB_at hI es ?_
      unfold stepB
      rw [q, Nat.zero_add]
      rfl
    | true =>
      refine ⟨fun j y hiK hyK => ?_, _, _, rfl⟩
      by_cases hjk : j < k
      · exact hI j y hjk hyK
      · have e1 : j = k := by omega
        subst e1
        rw [es] at hyK
        cases hyK
        unfold stepB
        rw [q]
        rfl
  · rintro l' ⟨hI, a, b, rfl⟩
    rw [enumD_len, show (l.map dStp).length = l.length from hml] at hI
    exact hy (by
      rw [eb]
      exact firstB_none fun j y h => hI j y (List.getElem?_eq_some_iff.mp h).1 h)
theorem okX_check_knock {aBG fI : Addr} {fdI : FuncData} {f_places_of_in : Addr} {fd_places_of_in : FuncData} (F : Fun K "check_knock" "check_knock" s_check_knock f fd) (T : Txt K mg cG) (G_places_of_in : Gd Pr w K mg base CX0 1 "places_of_in" ["steps"] (spD 1 (PP_places_of_in)) f_places_of_in fd_places_of_in) (B : BGd Pr w K mg base aBG fI fdI "BadGate") : FnOk Pr w K mg base (L2N.CX Pr w) 3 f fd ["hand", "knock", "steps"] (spX 3 (PX_check_knock aBG)) := by
  refine fn_N F sc_check_knock rfl (fun cdv A outer s H E hr => ⟨_, _, (dss_cons (ds_set (i := 3) sc_check_knock.nd rfl (Or.inl rfl) (de_call G_places_of_in.ok (hr.mono (by decide)) rfl G_places_of_in.m G_places_of_in.kp G_places_of_in.b (da_cons (de_var 2) da_nil)))
    (dss_cons (ds_if (DW.pt (dw_or (dt_cmp (opk_ne K hr.units) ar_neU (de_callB (cr_len K) ac_len rfl T.len PySem.boot_len (da_cons (de_var 3) da_nil)) de_int (nomark _)) (dw_or1 (dt_cmp (opk_eq K hr.units) ar_eqU (dk_ix K (de_var 3) de_int) de_int (nomark _)))))
      (dss_one (ds_raiseBG rfl (L2N.takes_of rfl rfl rfl rfl) B (hr.mono (by decide)) rfl (da_cons de_str (da_cons (de_var 0) (da_cons de_int da_nil)))))
      dss_nil)
    (dss_one (ds_if (dt_not (dt_chain op_le ar_le op_le ar_le de_int (de_var 1) (dk_ix K (de_var 3) de_int)))
      (dss_one (ds_raiseBG rfl (L2N.takes_of rfl rfl rfl rfl) B (hr.mono (by decide)) rfl (da_cons de_str (da_cons (de_var 0) (da_cons de_int da_nil)))))
      dss_nil)))), ?_⟩)
  intro ss Φ Ψ hl hP
  obtain ⟨kn, l, i, rfl, hl90, hi, hy, hn⟩ := hP
  have ra : ∀ w : Str, w.length ≤ 100 → Ψ (bgX aBG (w, (i : Int), 0)) → ∃ (w' : Str) (i' j' : Int), [S.d (.str w), S.d (.int (i : Int)), S.d (.int 0)] = [.d (.str w'), .d (.int i'), .d (.int j')] ∧ w'.length ≤ 100 ∧ 0 ≤ i' ∧ i' < 100 ∧ 0 ≤ j' ∧ j' < 100 ∧ Ψ ⟨.ref aBG, some (["step", "hand", "why"], [.int j', .int i', .str w'])⟩ :=
    fun w hw q => ⟨w, (i : Int), 0, rfl, hw, by omega, by omega, by decide, by decide, q⟩
  refine ⟨l, rfl, by omega, ?_⟩
  have e : insD l l.length = (inns l).map fun (k : Nat) => D.int (k : Int) := rfl
  rw [e]
  cases q : inns l with
  | nil => exact ra "in" (by decide) (hn _ (by unfold knockB; rw [q]))
  | cons p r =>
    cases r with
    | cons p2 r2 =>
      exact ra "in" (by decide) (hn _ (by unfold knockB; rw [q]))
    | nil =>
      refine ⟨.int (p : Int), rfl, ?_⟩
      refine iteD (fun h0 => ?_) (fun h0 => ?_)
      · have hp : p = 0 := by omega
        subst hp
        exact ra "in" (by decide) (hn _ (by unfold knockB; rw [q]; rfl))
      · have hp : ¬ p = 0 := fun z => h0 (by rw [z]; rfl)
        have kb : ¬ (1 ≤ kn ∧ kn ≤ (p : Int)) → knockB i kn l = some (("knock" : Str), (i : Int), (0 : Int)) := fun z => by
          unfold knockB
          rw [q]
          show (if p = 0 then some (("in" : Str), (i : Int), (0 : Int)) else if 1 ≤ kn ∧ kn ≤ (p : Int) then none else some (("knock" : Str), (i : Int), (0 : Int))) = _
          rw [if_neg hp, if_neg z]
        refine iteD (fun h1 => ?_) (fun h1 => ra "knock" (by decide) (hn _ (kb fun z => h1 z.1)))
        refine ⟨.int (p : Int), rfl, ?_⟩
        refine iteN (fun h2 => ra "knock" (by decide) (hn _ (kb fun z => h2 z.2))) (fun h2 => ?_)
        refine hy ?_
        unfold knockB
        rw [q]
        show (if p = 0 then some (("in" : Str), (i : Int), (0 : Int)) else if 1 ≤ kn ∧ kn ≤ (p : Int) then none else some (("knock" : Str), (i : Int), (0 : Int))) = _
        rw [if_neg hp, if_pos ⟨h1, h2⟩]
theorem okX_check_hands {aBG fI : Addr} {fdI : FuncData} {f_check_program : Addr} {fd_check_program : FuncData} {f_check_knock : Addr} {fd_check_knock : FuncData} (F : Fun K "check_hands" "check_hands" s_check_hands f fd) (T : Txt K mg cG) (G_check_program : Gd Pr w K mg base (L2N.CX Pr w) 3 "check_program" ["boxes", "hand", "steps"] (spX 3 (PX_check_program aBG)) f_check_program fd_check_program) (G_check_knock : Gd Pr w K mg base (L2N.CX Pr w) 3 "check_knock" ["hand", "knock", "steps"] (spX 3 (PX_check_knock aBG)) f_check_knock fd_check_knock) (B : BGd Pr w K mg base aBG fI fdI "BadGate") : FnOk Pr w K mg base (L2N.CX Pr w) 4 f fd ["boxes", "hands"] (spX 2 (PX_check_hands aBG)) := by
  refine fn_N F sc_check_hands rfl (fun cdv A outer s H E hr => ⟨_, _, (dss_cons (ds_if (dt_not (dt_chain op_le ar_le op_le ar_le de_int (de_callB (cr_len K) ac_len rfl T.len PySem.boot_len (da_cons (de_var 1) da_nil)) (de_globI rfl T.c_MOST_HANDS.choose_spec)))
      (dss_one (ds_raiseBG rfl (L2N.takes_of rfl rfl rfl rfl) B (hr.mono (by decide)) rfl (da_cons de_str (da_cons de_int (da_cons de_int da_nil)))))
      dss_nil)
    (dss_one (ds_for (ix := [2, 3, 4]) (L2.passes_of rfl) rfl (dk_enum K rfl T.enumerate (da_cons (de_var 1) da_nil)) (dk_tup (n := 2) K rfl (dgs_cons (dg_name (i := 2) sc_check_hands.nd rfl (Or.inl rfl)) (dgs_cons (dk_tup (n := 2) K rfl (dgs_cons (dg_name (i := 3) sc_check_hands.nd rfl (Or.inl rfl)) (dgs_cons (dg_name (i := 4) sc_check_hands.nd rfl (Or.inl rfl)) dgs_nil))) dgs_nil)))
      (dss_cons (ds_expr (de_callX G_check_program.ok (hr.mono (by decide)) rfl G_check_program.m G_check_program.kp G_check_program.b (L2N.passes_call (W := fun cls d _ H => E cls d H) (L2N.takes_of rfl rfl rfl rfl) (fun _ _ _ _ h => h)) (da_cons (de_var 0) (da_cons (de_var 2) (da_cons (de_var 4) da_nil)))))
      (dss_one (ds_expr (de_callX G_check_knock.ok (hr.mono (by decide)) rfl G_check_knock.m G_check_knock.kp G_check_knock.b (L2N.passes_call (W := fun cls d _ H => E cls d H) (L2N.takes_of rfl rfl rfl rfl) (fun _ _ _ _ h => h)) (da_cons (de_var 2) (da_cons (de_var 3) (da_cons (de_var 4) da_nil)))))))))), ?_⟩)
  intro ss Φ Ψ hl hP
  obtain ⟨g, rfl, hbs, h50, hst, hy, hn⟩ := hP
  have hml : (g.hs.map dHand).length = g.hs.length := List.length_map _
  have no : ¬ (1 ≤ g.hs.length ∧ g.hs.length ≤ 4) → Ψ (bgX aBG ("hands", 0, 0)) := fun z => hn _ (by unfold handsB; rw [if_neg z])
  refine iteD (fun h0 => ?_) (fun h0 => ⟨"hands", 0, 0, rfl, by decide, by decide, by decide, by decide, by decide, no (by rw [hml] at h0; omega)⟩)
  refine iteN (fun h1 => ⟨"hands", 0, 0, rfl, by decide, by decide, by decide, by decide, by decide, no (by rw [hml] at h1; omega)⟩) (fun h1 => ?_)
  rw [hml] at h0 h1
  have lok : 1 ≤ g.hs.length ∧ g.hs.length ≤ 4 := ⟨by omega, by omega⟩
  have eb : handsB g.bs g.hs = firstB (handB g.bs) 0 g.hs := by unfold handsB; rw [if_pos lok]
  refine ⟨fun k l => (∀ i y, i < k → g.hs[i]? = some y → handB g.bs (0 + i) y = none) ∧ ∃ a b c : Option S, l = [some (.d (dBoxes g.bs)), some (.d (.lst (g.hs.map dHand))), a, b, c], ⟨fun i y h _ => absurd h (Nat.not_lt_zero i), none, none, none, rfl⟩, ?_, ?_⟩
  · rintro k x l' hx ⟨hI, a, b, c, rfl⟩
    obtain ⟨y, hyE, rfl⟩ := enumD_at hx
    obtain ⟨h, eh, rfl⟩ := map_at hyE
    have hk : k < g.hs.length := (List.getElem?_eq_some_iff.mp eh).1
    have hsl := hst h (List.mem_of_getElem? eh)
    have bad : ∀ b, handB g.bs k h = some b → Ψ (bgX aBG b) := fun b q => hn _ (by
      rw [eb]
      refine firstB_at hI eh ?_
      rw [Nat.zero_add]
      exact q)
    refine ⟨rfl, rfl, g.bs, h.2, k, rfl, hbs, hsl, by omega, fun q => ?_, fun b q => bad b ?_⟩
    · refine ⟨h.1, h.2, k, rfl, hsl, by omega, fun q2 => ?_, fun b q2 => bad b ?_⟩
      · refine ⟨fun i y hiK hyK => ?_, _, _, _, rfl⟩
        by_cases hik : i < k
        · exact hI i y hik hyK
        · have e1 : i = k := by omega
          subst e1
          rw [eh] at hyK
          cases hyK
          unfold handB
          rw [Nat.zero_add, q]
          exact q2
      · unfold handB
        rw [q]
        exact q2
    · unfold handB
      rw [q]
  · rintro l' ⟨hI, a, b, c, rfl⟩
    rw [enumD_len, show (g.hs.map dHand).length = g.hs.length from hml] at hI
    exact hy (by
      rw [eb]
      exact firstB_none fun i y h => hI i y (List.getElem?_eq_some_iff.mp h).1 h)
theorem okX_Gate_init {aBG : Addr} {f_check_boxes : Addr} {fd_check_boxes : FuncData} {f_check_hands : Addr} {fd_check_hands : FuncData} {f_places_of_in : Addr} {fd_places_of_in : FuncData} (F : Fun K "__init__" "Gate.__init__" s_Gate_init f fd) (T : Txt K mg cG) (G_check_boxes : Gd Pr w K mg base (L2N.CX Pr w) 3 "check_boxes" ["boxes"] (spX 1 (PX_check_boxes aBG)) f_check_boxes fd_check_boxes) (G_check_hands : Gd Pr w K mg base (L2N.CX Pr w) 4 "check_hands" ["boxes", "hands"] (spX 2 (PX_check_hands aBG)) f_check_hands fd_check_hands) (G_places_of_in : Gd Pr w K mg base CX0 1 "places_of_in" ["steps"] (spD 1 (PP_places_of_in)) f_places_of_in fd_places_of_in) : FnOk Pr w K mg base (L2N.CX Pr w) 5 f fd ["self", "boxes", "hands"] (spInit cG 2 (PX_init aBG)) := by
  refine fn_init F sc_Gate_init rfl (by decide) (fun cdv A outer s H E hr => ⟨_, _, (in_expr (de_callX G_check_boxes.ok (hr.mono (by decide)) rfl G_check_boxes.m G_check_boxes.kp G_check_boxes.b (L2N.passes_call (W := fun cls d _ H => E cls d H) (L2N.takes_of rfl rfl rfl rfl) (fun _ _ _ _ h => h)) (da_cons (de_var 1) da_nil))
    (in_expr (de_callX G_check_hands.ok (hr.mono (by decide)) rfl G_check_hands.m G_check_hands.kp G_check_hands.b (L2N.passes_call (W := fun cls d _ H => E cls d H) (L2N.takes_of rfl rfl rfl rfl) (fun _ _ _ _ h => h)) (da_cons (de_var 1) (da_cons (de_var 2) da_nil)))
    (in_fld K T.clGate T.noGate_pairs (de_callTy (cr_tuple K) ac_tuple rfl T.tuple (by decide +kernel) (da_cons (de_var 1) da_nil))
    (in_fld K T.clGate T.noGate_programs (de_callTy (cr_tuple K) ac_tuple rfl T.tuple (by decide +kernel) (da_cons (DF.de (df_lc rfl sc_Gate_init.nd (own := [("knock", 3), ("steps", 4)]) (dk_seq K (de_var 2)) (blkOk_by (own := [("knock", 3), ("steps", 4)]) (N := N_Gate_init) (sc := defScope s_Gate_init) (by decide +kernel)) (fun _ _ _ _ _ => (dk_tup (n := 2) K rfl (dgs_cons (dg_name (i := 3) sc_Gate_init.nd rfl (Or.inl rfl)) (dgs_cons (dg_name (i := 4) sc_Gate_init.nd rfl (Or.inl rfl)) dgs_nil)))) (fun _ _ _ _ _ => dts_nil) (fun _ _ _ _ _ => (de_callTy (cr_tuple K) ac_tuple rfl T.tuple (by decide +kernel) (da_cons (de_var 4) da_nil))))) da_nil))
    (in_fld K T.clGate T.noGate_knocks (de_callTy (cr_tuple K) ac_tuple rfl T.tuple (by decide +kernel) (da_cons (DF.de (df_lc rfl sc_Gate_init.nd (own := [("knock", 3), ("steps", 4)]) (dk_seq K (de_var 2)) (blkOk_by (own := [("knock", 3), ("steps", 4)]) (N := N_Gate_init) (sc := defScope s_Gate_init) (by decide +kernel)) (fun _ _ _ _ _ => (dk_tup (n := 2) K rfl (dgs_cons (dg_name (i := 3) sc_Gate_init.nd rfl (Or.inl rfl)) (dgs_cons (dg_name (i := 4) sc_Gate_init.nd rfl (Or.inl rfl)) dgs_nil)))) (fun _ _ _ _ _ => dts_nil) (fun _ _ _ _ _ => (de_var 3)))) da_nil))
    (in_fld K T.clGate T.noGate_insides (de_callTy (cr_tuple K) ac_tuple rfl T.tuple (by decide +kernel) (da_cons (DF.de (df_lc rfl sc_Gate_init.nd (own := [("knock", 3), ("steps", 4)]) (dk_seq K (de_var 2)) (blkOk_by (own := [("knock", 3), ("steps", 4)]) (N := N_Gate_init) (sc := defScope s_Gate_init) (by decide +kernel)) (fun _ _ _ _ _ => (dk_tup (n := 2) K rfl (dgs_cons (dg_name (i := 3) sc_Gate_init.nd rfl (Or.inl rfl)) (dgs_cons (dg_name (i := 4) sc_Gate_init.nd rfl (Or.inl rfl)) dgs_nil)))) (fun _ _ _ _ _ => dts_nil) (fun _ _ _ _ _ => (dk_ix K (de_call G_places_of_in.ok (hr.mono (by decide)) rfl G_places_of_in.m G_places_of_in.kp G_places_of_in.b (da_cons (de_var 4) da_nil)) de_int)))) da_nil))
    in_nil)))))), ?_⟩)
  intro ss Φ Ψ hl hP
  obtain ⟨g, b, rfl, hbs, h50, h90, hb, hq⟩ := hP
  unfold gateB at hb
  refine ⟨g.bs, rfl, by omega, fun q => ?_, fun b2 q => ?_⟩
  · rw [q] at hb
    exact ⟨g, rfl, hbs, h50, h90, fun q2 => (by rw [q2] at hb; cases hb), fun b2 q2 => by
      rw [q2] at hb
      cases hb
      exact hq⟩
  · rw [q] at hb
    cases hb
    exact hq
theorem okN_Gate_init {aBG : Addr} {f_check_boxes : Addr} {fd_check_boxes : FuncData} {f_check_hands : Addr} {fd_check_hands : FuncData} {f_places_of_in : Addr} {fd_places_of_in : FuncData} (F : Fun K "__init__" "Gate.__init__" s_Gate_init f fd) (T : Txt K mg cG) (G_check_boxes : Gd Pr w K mg base (L2N.CX Pr w) 3 "check_boxes" ["boxes"] (spX 1 (PX_check_boxes aBG)) f_check_boxes fd_check_boxes) (G_check_hands : Gd Pr w K mg base (L2N.CX Pr w) 4 "check_hands" ["boxes", "hands"] (spX 2 (PX_check_hands aBG)) f_check_hands fd_check_hands) (G_places_of_in : Gd Pr w K mg base CX0 1 "places_of_in" ["steps"] (spD 1 (PP_places_of_in)) f_places_of_in fd_places_of_in) : FnOk Pr w K mg base (L2N.CX Pr w) 5 f fd ["self", "boxes", "hands"] (spInit cG 2 fun ss Φ _ => PN_init ss Φ) := by
  refine fn_init F sc_Gate_init rfl (by decide) (fun cdv A outer s H E hr => ⟨_, _, (in_expr (de_callX G_check_boxes.ok (hr.mono (by decide)) rfl G_check_boxes.m G_check_boxes.kp G_check_boxes.b (L2N.passes_call (W := fun cls d _ H => E cls d H) (L2N.takes_of rfl rfl rfl rfl) (fun _ _ _ _ h => h)) (da_cons (de_var 1) da_nil))
    (in_expr (de_callX G_check_hands.ok (hr.mono (by decide)) rfl G_check_hands.m G_check_hands.kp G_check_hands.b (L2N.passes_call (W := fun cls d _ H => E cls d H) (L2N.takes_of rfl rfl rfl rfl) (fun _ _ _ _ h => h)) (da_cons (de_var 1) (da_cons (de_var 2) da_nil)))
    (in_fld K T.clGate T.noGate_pairs (de_callTy (cr_tuple K) ac_tuple rfl T.tuple (by decide +kernel) (da_cons (de_var 1) da_nil))
    (in_fld K T.clGate T.noGate_programs (de_callTy (cr_tuple K) ac_tuple rfl T.tuple (by decide +kernel) (da_cons (DF.de (df_lc rfl sc_Gate_init.nd (own := [("knock", 3), ("steps", 4)]) (dk_seq K (de_var 2)) (blkOk_by (own := [("knock", 3), ("steps", 4)]) (N := N_Gate_init) (sc := defScope s_Gate_init) (by decide +kernel)) (fun _ _ _ _ _ => (dk_tup (n := 2) K rfl (dgs_cons (dg_name (i := 3) sc_Gate_init.nd rfl (Or.inl rfl)) (dgs_cons (dg_name (i := 4) sc_Gate_init.nd rfl (Or.inl rfl)) dgs_nil)))) (fun _ _ _ _ _ => dts_nil) (fun _ _ _ _ _ => (de_callTy (cr_tuple K) ac_tuple rfl T.tuple (by decide +kernel) (da_cons (de_var 4) da_nil))))) da_nil))
    (in_fld K T.clGate T.noGate_knocks (de_callTy (cr_tuple K) ac_tuple rfl T.tuple (by decide +kernel) (da_cons (DF.de (df_lc rfl sc_Gate_init.nd (own := [("knock", 3), ("steps", 4)]) (dk_seq K (de_var 2)) (blkOk_by (own := [("knock", 3), ("steps", 4)]) (N := N_Gate_init) (sc := defScope s_Gate_init) (by decide +kernel)) (fun _ _ _ _ _ => (dk_tup (n := 2) K rfl (dgs_cons (dg_name (i := 3) sc_Gate_init.nd rfl (Or.inl rfl)) (dgs_cons (dg_name (i := 4) sc_Gate_init.nd rfl (Or.inl rfl)) dgs_nil)))) (fun _ _ _ _ _ => dts_nil) (fun _ _ _ _ _ => (de_var 3)))) da_nil))
    (in_fld K T.clGate T.noGate_insides (de_callTy (cr_tuple K) ac_tuple rfl T.tuple (by decide +kernel) (da_cons (DF.de (df_lc rfl sc_Gate_init.nd (own := [("knock", 3), ("steps", 4)]) (dk_seq K (de_var 2)) (blkOk_by (own := [("knock", 3), ("steps", 4)]) (N := N_Gate_init) (sc := defScope s_Gate_init) (by decide +kernel)) (fun _ _ _ _ _ => (dk_tup (n := 2) K rfl (dgs_cons (dg_name (i := 3) sc_Gate_init.nd rfl (Or.inl rfl)) (dgs_cons (dg_name (i := 4) sc_Gate_init.nd rfl (Or.inl rfl)) dgs_nil)))) (fun _ _ _ _ _ => dts_nil) (fun _ _ _ _ _ => (dk_ix K (de_call G_places_of_in.ok (hr.mono (by decide)) rfl G_places_of_in.m G_places_of_in.kp G_places_of_in.b (da_cons (de_var 4) da_nil)) de_int)))) da_nil))
    in_nil)))))), ?_⟩)
  rintro ss Φ Ψ hl ⟨g, rfl, hbs, h50, h90, hgb, hQ⟩
  have hml : (g.hs.map dHand).length = g.hs.length := List.length_map _
  have step : ∀ (F : Hand → D) (i : Nat) (h : Hand), g.hs[i]? = some h → (g.hs.take i).map F ++ [F h] = (g.hs.take (i + 1)).map F := fun F i h e => (take_map e).symm
  have gb2 := hgb
  unfold gateB at gb2
  refine ⟨g.bs, rfl, by omega, fun qb => ?_, fun b2 q => by rw [q] at gb2; cases gb2⟩
  rw [qb] at gb2
  refine ⟨g, rfl, hbs, h50, h90, fun qh => ?_, fun b2 q => by rw [q] at gb2; cases gb2⟩
  refine ⟨⟨by first | (simp; done) | (simp; decide +kernel), by decide⟩, ?_⟩
  refine ⟨by rw [hml]; omega, fun i acc => acc = (g.hs.take i).map fun h => D.tup (h.2.map dStp), rfl, ?_, ?_⟩
  · rintro i x acc hx rfl
    obtain ⟨h, eh, rfl⟩ := map_at hx
    refine ⟨rfl, ?_⟩
    exact step (fun h => D.tup (h.2.map dStp)) i h eh
  rintro acc rfl
  refine ⟨⟨by first | (simp; done) | (simp; decide +kernel), by decide⟩, ?_⟩
  refine ⟨by rw [hml]; omega, fun i acc => acc = (g.hs.take i).map fun h => D.int h.1, rfl, ?_, ?_⟩
  · rintro i x acc hx rfl
    obtain ⟨h, eh, rfl⟩ := map_at hx
    refine ⟨rfl, ?_⟩
    exact step (fun h => D.int h.1) i h eh
  rintro acc rfl
  refine ⟨⟨by first | (simp; done) | (simp; decide +kernel), by decide⟩, ?_⟩
  refine ⟨by rw [hml]; omega, fun i acc => acc = (g.hs.take i).map fun h => D.int ((inns h.2).headD 0 : Nat), rfl, ?_, ?_⟩
  · rintro i x acc hx rfl
    obtain ⟨h, eh, rfl⟩ := map_at hx
    have h9 := h90 h (List.mem_of_getElem? eh)
    obtain ⟨k, hk⟩ := gateB_hand hgb eh
    refine ⟨rfl, h.2, rfl, by omega, ?_⟩
    have e : insD h.2 h.2.length = [D.int (k : Int)] := by
      show (inns h.2).map (fun (k : Nat) => D.int (k : Int)) = _
      rw [hk]
      rfl
    rw [e]
    refine ⟨.int (k : Int), rfl, ?_⟩
    have e2 : D.int (k : Int) = D.int ((inns h.2).headD 0 : Nat) := by rw [hk]; rfl
    show (g.hs.take i).map _ ++ [D.int (k : Int)] = _
    rw [e2]
    exact step (fun h => D.int ((inns h.2).headD 0 : Nat)) i h eh
  rintro acc rfl
  refine ⟨⟨by first | (simp; done) | (simp; decide +kernel), by decide⟩, ?_⟩
  rw [hml, List.take_length]
  exact hQ
theorem law_rest {f_law_off : Addr} {fd_law_off : FuncData} {f_law_gate : Addr} {fd_law_gate : FuncData} {f_law_alike : Addr} {fd_law_alike : FuncData} {f_law_refused : Addr} {fd_law_refused : FuncData} {f_law_wrong : Addr} {fd_law_wrong : FuncData} {f_Gate_many : Addr} {fd_Gate_many : FuncData} {f_Gate_boxes : Addr} {fd_Gate_boxes : FuncData} {f_Gate_hands : Addr} {fd_Gate_hands : FuncData} {fi : Addr} {fdi : FuncData} (T : Txt K mg cG) (G_law_off : Gd Pr w K mg base CX0 1 "_law_off" ["_law_d", "_law_most"] (spD 2 P_off) f_law_off fd_law_off) (G_law_gate : Gd Pr w K mg base CX0 4 "_law_gate" ["_law_d"] (spD 1 P_gate) f_law_gate fd_law_gate) (G_law_alike : Gd Pr w K mg base CX0 7 "_law_alike" ["_law_found", "_law_due"] (spD 2 (P_alike 7)) f_law_alike fd_law_alike) (G_law_refused : Gd Pr w K mg base CX0 7 "_law_refused" ["_law_bad"] (spD 1 P_refused1) f_law_refused fd_law_refused) (G_law_wrong : Gd Pr w K mg base CX0 4 "_law_wrong" ["_law_d", "_law_t"] (spD 2 P_wrong) f_law_wrong fd_law_wrong) (G_Gate_many : Md Pr w K mg base CX0 1 cG "many" ["self"] (spD 1 (PP_Gate_many cG)) f_Gate_many fd_Gate_many) (G_Gate_boxes : Md Pr w K mg base CX0 1 cG "boxes" ["self"] (spW 1 (PW_boxes cG)) f_Gate_boxes fd_Gate_boxes) (G_Gate_hands : Md Pr w K mg base CX0 1 cG "hands" ["self"] (spW 1 (PW_hands cG)) f_Gate_hands fd_Gate_hands) (mk_Gate : Mk K cG fi) (x_Gate : mg "Gate" = some (.ref cG)) (G_Gate_init : FnOk Pr w K mg base CX0 5 fi fdi ["self", "boxes", "hands"] (spInit cG 2 fun ss Φ _ => PN_init ss Φ)) (b_Gate_init : Binds K fdi ["self", "boxes", "hands"] []) {cdv : Value} {A : Around} {outer : List PySem.Env} {s : Shared} {H : Hp} {Eo : XK} (hr : Room 7 (A.deeper (PyProof.Rows.envOfC "law" (defScope s_law) s.heap.objs.size f cdv))) :
    ∃ t w', DSs ((cxOf CX0 Pr w K mg base N_law "law" (defScope s_law) f cdv A outer s H Eo).nox) E0 (defBody s_law).tail t w' ∧ ∀ Φ : D → Prop, Φ (.bl true) → w' ⟨fun _ => False, fun _ => False⟩ { nx := fun _ => Φ .non, rt := Φ } (none :: some .dice :: List.replicate 8 none) := by
  refine ⟨_, _, (dss_cons (ds_set (i := 2) sc_law.nd rfl (Or.inl rfl) (de_call G_law_gate.ok (hr.mono (by decide)) rfl G_law_gate.m G_law_gate.kp G_law_gate.b (da_dice 1 da_nil)))
    (dss_turns K (fun q => ps_set (i := 3) sc_law.nd rfl (Or.inl rfl) q)
      (fun q => ps_set (i := 4) sc_law.nd rfl (Or.inl rfl) q)
      (fun q => ps_if q (pss_one (ps_ret pe_bl)) pss_nil)
      (fun tb q => ps_for PassesOwn.never rfl (pi_range1 rfl T.range (pa_cons pe_int pa_nil)) (pg_name (i := 5) sc_law.nd rfl (Or.inl rfl)) q)
      (fun q => ps_set (i := 6) sc_law.nd rfl (Or.inl rfl) q)
      (fun q => ps_if q (pss_one (ps_ret pe_bl)) pss_nil)
      (fun q => ps_for PassesOwn.never rfl (pi_list q) (pg_tup (n := 2) rfl (pgs_cons (pg_name (i := 7) sc_law.nd rfl (Or.inl rfl)) (pgs_cons (pg_name (i := 8) sc_law.nd rfl (Or.inl rfl)) pgs_nil))) (pss_one (ps_expr (pe_bm0 PySem.F.plainAttrs_list PySem.F.slot_list_clear PySem.F.type_list_clear mt_clear (pv 8)))))
      (fun q => ps_for PassesOwn.never rfl (pi_list q) (pg_name (i := 9) sc_law.nd rfl (Or.inl rfl)) (pss_one (ps_expr (pe_bm0 PySem.F.plainAttrs_list PySem.F.slot_list_clear PySem.F.type_list_clear mt_clear (pv 9)))))
      (dfn_lst2 (DFN.dn (DF.dfn (dk_listOf K rfl T.list (by decide +kernel) (da_cons (dk_ix K (de_var 2) de_int) da_nil)))) (DFN.dn (dfn_lc rfl sc_law.nd (own := [("_law_knock", 7), ("_law_steps", 8)]) (dk_seq K (dk_ix K (de_var 2) de_int)) (blkOk_by (own := [("_law_knock", 7), ("_law_steps", 8)]) (N := N_law) (sc := defScope s_law) (by decide +kernel)) (fun _ _ _ _ _ => (dk_tup (n := 2) K rfl (dgs_cons (dg_name (i := 7) sc_law.nd rfl (Or.inl rfl)) (dgs_cons (dg_name (i := 8) sc_law.nd rfl (Or.inl rfl)) dgs_nil)))) (fun _ _ _ _ _ => dts_nil) (fun _ _ _ _ _ => (dn_tup2 (DE.dn (de_var 7)) (DFN.dn (DF.dfn (dk_listOf K rfl T.list (by decide +kernel) (da_cons (de_var 8) da_nil)))))))))
      (de_make mk_Gate G_Gate_init (hr.mono (by decide)) rfl x_Gate b_Gate_init pass0 (da_cons (dk_ix K (de_var 3) de_int) (da_cons (dk_ix K (de_var 3) de_int) da_nil)))
      (DW.pt (dw_or (dt_cmp (opk_ne K hr.units) ar_neU (de_var 3) (DF.de (df_lst (da_cons (dk_ix K (de_var 2) de_int) (da_cons (dk_ix K (de_var 2) de_int) da_nil)))) (nomark _)) (dw_or1 (dt_not (dt_val (de_call G_law_alike.ok (hr.mono (by decide)) rfl G_law_alike.m G_law_alike.kp G_law_alike.b (da_cons (de_meth0 (de_var 4) T.clGate G_Gate_many.me G_Gate_many.ok (hr.mono (by decide)) G_Gate_many.b) (da_cons (de_callB (cr_len K) ac_len rfl T.len PySem.boot_len (da_cons (dk_ix K (de_var 2) de_int) da_nil)) da_nil))))))))
      (dfn_lst2 (dn_meth0 (de_var 4) T.clGate G_Gate_boxes.me G_Gate_boxes.ok (hr.mono (by decide)) G_Gate_boxes.b) (dn_meth0 (de_var 4) T.clGate G_Gate_hands.me G_Gate_hands.ok (hr.mono (by decide)) G_Gate_hands.b))
      (dt_not (dt_val (de_call G_law_alike.ok (hr.mono (by decide)) rfl G_law_alike.m G_law_alike.kp G_law_alike.b (da_cons (de_var 6) (da_cons (DF.de (df_lst (da_cons (dk_ix K (de_var 2) de_int) (da_cons (dk_ix K (de_var 2) de_int) da_nil)))) da_nil)))))
      (df_cat (dk_ix K (de_var 6) de_int) (dk_ix K (de_var 3) de_int))
      (df_cat (de_var 6) (de_var 3))
      (dss_cons (ds_expr (de_make mk_Gate G_Gate_init (hr.mono (by decide)) rfl x_Gate b_Gate_init pass0 (da_cons (de_op (opk_mul K) ar_mulU (DF.de (df_lst (da_cons (de_tup (da_cons de_int (da_cons de_int da_nil))) da_nil))) de_int) (da_cons (de_op (opk_mul K) ar_mulU (DF.de (df_lst (da_cons (de_tup (da_cons de_int (da_cons (de_op (opk_add K) ar_addU (de_op (opk_mul K) ar_mulU (DF.de (df_lst (da_cons (de_tup (da_cons de_str (da_cons de_int (da_cons de_int da_nil)))) da_nil))) de_int) (DF.de (df_lst (da_cons (de_tup (da_cons de_str da_nil)) da_nil)))) da_nil))) da_nil))) de_int) da_nil)))) (dss_one (ds_ret (de_call G_law_refused.ok (hr.mono (by decide)) rfl G_law_refused.m G_law_refused.kp G_law_refused.b (da_cons (de_call G_law_wrong.ok (hr.mono (by decide)) rfl G_law_wrong.m G_law_wrong.kp G_law_wrong.b (da_dice 1 (da_cons (de_var 2) da_nil))) da_nil))))))), ?_⟩
  intro Φ hQ
  refine ⟨rfl, fun g og => ?_⟩
  have h1 := og.h1
  have h4 := og.h4
  have hml : (g.hs.map dHand).length = g.hs.length := List.length_map _
  have hK : dKs (g.hs.map fun h => (h.1, h.2.map dStp)) = .lst (g.hs.map dHand) := by
    unfold dKs
    rw [List.map_map]
    rfl
  have b10 := og.bs.2.1
  have e20 : g.bs.length ≤ 20 := by omega
  have e90 : ∀ h ∈ g.hs, h.2.length ≤ 90 := fun h hh => by have := (og.hs h hh).len24; omega
  have fB : ∀ l : List Box, D.flats (l.map dBox) = true := fun l => by
    induction l with
    | nil => rfl
    | cons a r ih => simp [D.flats, D.flat, dBox, ih]
  have fI : ∀ l : List Int, D.flats (l.map D.int) = true := fun l => by
    induction l with
    | nil => rfl
    | cons a r ih => simp [D.flats, D.flat, ih]
  have fS : ∀ l : List Stp, D.flats (l.map dStp) = true := fun l => by
    induction l with
    | nil => rfl
    | cons a r ih =>
      have : (dStp a).flat = true := by
        cases a with
        | put b n => simp [dStp, D.flat, D.flats]
        | inn => simp [dStp, D.flat, D.flats]
        | go b ns x => simp [dStp, D.flat, D.flats, fI]
      simp [D.flats, this, ih]
  have fH : ∀ l : List Hand, D.flats (l.map fun h => D.tup (h.2.map dStp)) = true ∧ D.flats (l.map fun h => D.int h.1) = true ∧ D.flats (l.map fun h => D.int (inAt h)) = true := fun l => by
    induction l with
    | nil => exact ⟨rfl, rfl, rfl⟩
    | cons a r ih => simp [D.flats, D.flat, fS, ih.1, ih.2.1, ih.2.2]
  have lv : Lv 7 (dGP g) := dGP_lv (by omega) (by omega) fun h hh => ⟨by have := e90 h hh; omega, fun s hs => by
    have ok := (og.hs h hh).ok s hs
    cases s with
    | put b n => trivial
    | inn => trivial
    | go b ns a =>
      obtain ⟨x, hx0, hx, hr, hn, _⟩ := ok
      have hx9 := (og.bs.2.2 x (List.mem_of_getElem? hx)).2.2
      have := rising_len ns 0 x.2 hr hn
      show ns.length < 100000
      omega⟩
  have hne : (!PyData.eqv (dGP g).py (dGP g).py) = false := by rw [py_refl]; rfl
  refine ⟨dGate g, g.bs.map dBox, g.hs.map fun h => (h.1, h.2.map dStp), dObj cG g, rfl, by rw [List.length_map]; exact h4, ?_, ?_, ?_, ?_, ?_, ?_, ?_, ?_, ?_⟩
  · simp [dObj, D.flat, D.flats, dProgs, fB, fH]
  · rw [hK]
    refine ⟨dBoxes g.bs, rfl, fB g.bs, ?_⟩
    refine ⟨.lst (g.hs.map dHand), rfl, ?_⟩
    refine ⟨by rw [hml]; omega, fun i acc => acc = (g.hs.take i).map dHand, rfl, ?_, ?_⟩
    · rintro i x acc hx rfl
      obtain ⟨h, eh, rfl⟩ := map_at hx
      refine ⟨rfl, ?_⟩
      refine ⟨rfl, ?_⟩
      refine ⟨fS h.2, ?_⟩
      exact (take_map eh).symm
    · rintro acc rfl
      rw [hml, List.take_length]
  · refine ⟨_, rfl, ?_⟩
    refine ⟨_, rfl, ?_⟩
    refine ⟨g, by rw [hK]; rfl, e20, by omega, e90, gateB_ok og, ?_⟩
    exact gF_ok og
  · rw [hK]
    refine ⟨dBoxes g.bs, rfl, ?_⟩
    refine ⟨.lst (g.hs.map dHand), rfl, ?_⟩
    refine ⟨by show 2 ≤ 100000; omega, ?_⟩
    refine ⟨⟨dGP_plain g, dGP_plain g, dGP_shaped g, dGP_shaped g⟩, ?_⟩
    refine (if_neg (by rw [show (!PyData.eqv (D.lst [D.lst (g.bs.map dBox), D.lst (g.hs.map dHand)]).py (D.lst [dBoxes g.bs, D.lst (g.hs.map dHand)]).py) = false from hne]; exact Bool.false_ne_true)).mpr ?_
    refine ⟨rfl, rfl, g, rfl, ?_⟩
    refine ⟨.lst (g.hs.map dHand), rfl, ?_⟩
    refine ⟨.int g.hs.length, by rw [hml], lv_int 6 _, rfl⟩
  · rw [hK]
    refine ⟨rfl, rfl, g, rfl, ?_⟩
    refine ⟨rfl, rfl, g, rfl, by omega, rfl⟩
  · rw [hK]
    refine ⟨dBoxes g.bs, rfl, ?_⟩
    refine ⟨.lst (g.hs.map dHand), rfl, ?_⟩
    refine ⟨by show 2 ≤ 100000; omega, ?_⟩
    exact ⟨dGP g, rfl, lv, rfl⟩
  · intro v1 v3 r2 r4 l2 l4
    refine ⟨_, rfl, ?_⟩
    refine ⟨_, rfl, ?_⟩
    refine ⟨by rw [List.length_map, List.length_map]; omega, ?_⟩
    show r2.map D.raw ++ r4.map D.raw = _
    rw [List.map_append]
  · intro v1 v2 v3 v4
    exact ⟨by show 2 + 2 ≤ 100000; omega, rfl⟩
  · have mg : gateB ⟨List.replicate 12 (9, 9), List.replicate 4 (1, List.replicate 23 (.put 11 0) ++ [.inn])⟩ = none := by decide +kernel
    have lm : ∀ h ∈ List.replicate 4 ((1, List.replicate 23 (Stp.put 11 0) ++ [Stp.inn]) : Hand), h.2.length ≤ 90 := fun h hh => by
      rw [List.eq_of_mem_replicate hh]
      show (List.replicate 23 (Stp.put 11 0) ++ [Stp.inn]).length ≤ 90
      rw [List.length_append, List.length_replicate]
      show 23 + 1 ≤ 90
      omega
    refine ⟨by show 2 ≤ 100000; omega, ?_⟩
    refine ⟨by show 1 ≤ 100000; omega, ?_⟩
    refine ⟨⟨by decide, by decide, by show 1 * 12 ≤ 100000; omega⟩, ?_⟩
    refine ⟨by show 3 ≤ 100000; omega, ?_⟩
    refine ⟨by show 1 ≤ 100000; omega, ?_⟩
    refine ⟨⟨by decide, by decide, by show 1 * 23 ≤ 100000; omega⟩, ?_⟩
    refine ⟨by show 1 ≤ 100000; omega, ?_⟩
    refine ⟨by show 1 ≤ 100000; omega, ?_⟩
    refine ⟨by show 23 + 1 ≤ 100000; omega, ?_⟩
    refine ⟨by show 2 ≤ 100000; omega, ?_⟩
    refine ⟨by show 1 ≤ 100000; omega, ?_⟩
    refine ⟨⟨by decide, by decide, by show 1 * 4 ≤ 100000; omega⟩, ?_⟩
    refine ⟨⟨List.replicate 12 (9, 9), List.replicate 4 (1, List.replicate 23 (.put 11 0) ++ [.inn])⟩, rfl, by show 12 ≤ 20; omega, by show 4 ≤ 50; omega, lm, mg, ?_⟩
    refine ⟨g, rfl, og, fun z b hz hz2 hz3 hb => ?_⟩
    exact ⟨z, b, rfl, hz, hz2, hz3, hb, hQ⟩
theorem ok_law {f_law_off : Addr} {fd_law_off : FuncData} {f_law_gate : Addr} {fd_law_gate : FuncData} {f_law_alike : Addr} {fd_law_alike : FuncData} {f_law_refused : Addr} {fd_law_refused : FuncData} {f_law_wrong : Addr} {fd_law_wrong : FuncData} {f_Gate_many : Addr} {fd_Gate_many : FuncData} {f_Gate_boxes : Addr} {fd_Gate_boxes : FuncData} {f_Gate_hands : Addr} {fd_Gate_hands : FuncData} {fi : Addr} {fdi : FuncData} {f_dice : Addr} {fd_dice : FuncData} (F : Fun K "law" "law" s_law f fd) (T : Txt K mg cG) (G_law_off : Gd Pr w K mg base CX0 1 "_law_off" ["_law_d", "_law_most"] (spD 2 P_off) f_law_off fd_law_off) (G_law_gate : Gd Pr w K mg base CX0 4 "_law_gate" ["_law_d"] (spD 1 P_gate) f_law_gate fd_law_gate) (G_law_alike : Gd Pr w K mg base CX0 7 "_law_alike" ["_law_found", "_law_due"] (spD 2 (P_alike 7)) f_law_alike fd_law_alike) (G_law_refused : Gd Pr w K mg base CX0 7 "_law_refused" ["_law_bad"] (spD 1 P_refused1) f_law_refused fd_law_refused) (G_law_wrong : Gd Pr w K mg base CX0 4 "_law_wrong" ["_law_d", "_law_t"] (spD 2 P_wrong) f_law_wrong fd_law_wrong) (G_Gate_many : Md Pr w K mg base CX0 1 cG "many" ["self"] (spD 1 (PP_Gate_many cG)) f_Gate_many fd_Gate_many) (G_Gate_boxes : Md Pr w K mg base CX0 1 cG "boxes" ["self"] (spW 1 (PW_boxes cG)) f_Gate_boxes fd_Gate_boxes) (G_Gate_hands : Md Pr w K mg base CX0 1 cG "hands" ["self"] (spW 1 (PW_hands cG)) f_Gate_hands fd_Gate_hands) (mk_Gate : Mk K cG fi) (x_Gate : mg "Gate" = some (.ref cG)) (G_Gate_init : FnOk Pr w K mg base CX0 5 fi fdi ["self", "boxes", "hands"] (spInit cG 2 fun ss Φ _ => PN_init ss Φ)) (b_Gate_init : Binds K fdi ["self", "boxes", "hands"] []) (G_dice : Gd Pr w K mg base CX0 1 "_law_dice" ["_law_script", "_law_k"] (spDice K) f_dice fd_dice) : FnOk Pr w K mg base CX0 8 f fd ["_law_script"] (spLaw K) := by
  refine F.ok sc_law (fun vs H Q E h => ?_) (fun cdv A outer s H vs Q E hr h => ?_)
  · obtain ⟨a, ns, rfl, _⟩ := h
    rfl
  · obtain ⟨t, w', hs, hw⟩ := law_rest (Eo := E) T G_law_off G_law_gate G_law_alike G_law_refused G_law_wrong G_Gate_many G_Gate_boxes G_Gate_hands mk_Gate x_Gate G_Gate_init b_Gate_init hr
    obtain ⟨a, ns, rfl, hS, hl, hQ⟩ := h
    refine ⟨_, pss_cons (ps_set (i := 1) sc_law.nd rfl (Or.inl rfl) (pe_call G_dice.ok (hr.mono (by decide)) rfl G_dice.m G_dice.kp G_dice.b .nil pass0 (pa_cons (pv 0) (pa_cons pe_int pa_nil)))) hs.p, ?_⟩
    refine ⟨.ref a, rfl, a, ns, 0, rfl, hS, hl, fun p H' ms hp hsm hp' h2 => ?_⟩
    exact hs.a (some p) [] H' ⟨fun _ => False, fun _ => False⟩ { nx := fun _ => D.non = .bl true, rt := fun d => d = .bl true } _ ⟨fun _ _ _ _ z => (nomatch z), fun v H2 d _ r hd => by
      subst hd
      cases r
      exact hQ _, fun _ _ _ _ z => False.elim z, fun _ _ _ _ z => False.elim z⟩ _ H' _ (rs_dice rfl rfl ⟨ms, hp', h2⟩) (hw (fun d => d = .bl true) rfl)
end
section
open PySem.Spec PyProof.Rows HotX L2H
variable {Pr : Program} {w : World} {K : PySem.W.Frag} {mg : Str → Option Value} {base : Heap} {f cG : Addr} {fd : FuncData}
theorem ok_law_isO_gate {ea : EA} {D dd : Addr} (F : Fun K "_law_is" "_law_is" s_law_is f fd) (T : Txt K mg cG) (ET : ETx mg ea) (C : IsC K ea D true false false false false false) : FnE Pr w K mg base CX0 1 f fd ["_law_e", "_law_word"] (fun p => L2N.Zn (.ref D) (some dd) p.2) fun a => spO dd 2 (P_is a "gate") := by
  refine fn_DO F sc_law_is rfl (fun cdv A outer s H Eo p hot hz hdd hr => ?_)
  have hc : HotC (cxH CX0 Pr w K mg base N_law_is "_law_is" (defScope s_law_is) f cdv A outer s H Eo p).nox := ⟨p, hot, List.mem_singleton.mpr rfl⟩
  have hp : p ∈ (cxH CX0 Pr w K mg base N_law_is "_law_is" (defScope s_law_is) f cdv A outer s H Eo p).nox.pn := List.mem_singleton.mpr rfl
  have hf : ∃ vs, p.2.data = .fields vs := ⟨_, hot.2.choose_spec.1⟩
  refine ⟨_, _, (dss_cons (ds_set (i := 2) sc_law_is.nd rfl (Or.inl rfl) (DF.de (df_lst (da_cons (de_isO hp C.c hz.zc hf hdd rfl rfl T.isinstance (de_var 0) (pe_glob rfl ET.x_BadGate (v := .ref ea.BadGate) rfl) (fun _ z => z) C.k_BadGate) (da_cons (de_isO hp C.c hz.zc hf hdd rfl rfl T.isinstance (de_var 0) (pe_glob rfl ET.x_NoHand (v := .ref ea.NoHand) rfl) (fun _ z => z) C.k_NoHand) (da_cons (de_isO hp C.c hz.zc hf hdd rfl rfl T.isinstance (de_var 0) (pe_glob rfl ET.x_TooMany (v := .ref ea.TooMany) rfl) (fun _ z => z) C.k_TooMany) (da_cons (de_isO hp C.c hz.zc hf hdd rfl rfl T.isinstance (de_var 0) (pe_glob rfl ET.x_TwoWithin (v := .ref ea.TwoWithin) rfl) (fun _ z => z) C.k_TwoWithin) da_nil)))))))
    (dss_cons (ds_set (i := 2) sc_law_is.nd rfl (Or.inl rfl) (de_op (opk_add K) ar_addU (de_var 2) (DF.de (df_lst (da_cons (de_isO hp C.c hz.zc hf hdd rfl rfl T.isinstance (de_var 0) (pe_glob rfl ET.x_OtherGate (v := .ref ea.OtherGate) rfl) (fun _ z => z) C.k_OtherGate) (da_cons (de_isO hp C.c hz.zc hf hdd rfl rfl T.isinstance (de_var 0) (pe_glob rfl ET.x_BadText (v := .ref ea.BadText) rfl) (fun _ z => z) C.k_BadText) da_nil))))))
    (dss_cons (ds_set (i := 3) sc_law_is.nd rfl (Or.inl rfl) (DF.de (df_lst (da_cons de_str (da_cons de_str (da_cons de_str (da_cons de_str (da_cons de_str (da_cons de_str da_nil)))))))))
    (dss_one (ds_ret (de_and (de_isO hp C.c hz.zc hf hdd rfl rfl T.isinstance (de_var 0) (pe_bltn (v := .ty "ValueError") rfl ET.ValueError (by decide +kernel) rfl) (fun _ z => z) C.k_ValueError) (de_one (de_cmp (opk_eq K hr.units) ar_eqU (de_var 2) (DF.de (df_lcH (own := [("_law_one", 4)]) hc sc_law_is.nd (de_var 3) (blkOk_by (own := [("_law_one", 4)]) (N := N_law_is) (sc := defScope s_law_is) (by decide +kernel)) (fun _ _ _ _ _ => (dg_name (i := 4) sc_law_is.nd rfl (Or.inl rfl))) (fun _ _ _ _ _ => (de_cmp (opk_eq K hr.units) ar_eqU (de_var 1) (de_var 4) (nomark _))))) (nomark _))))))))), ?_⟩
  rintro ss Φ hl ⟨rfl, hQ⟩
  refine ⟨rfl, rfl, rfl, rfl, by simp, ?_⟩
  refine ⟨rfl, rfl, by simp, by simp, ?_⟩
  refine ⟨by simp, ?_⟩
  refine ⟨rfl, ?_⟩
  refine ⟨by simp, fun i acc => acc = (((["gate", "hand", "many", "two", "other", "text"] : List Str).take i).map fun x => decide (("gate" : Str) = x)).map Dl.D.bl, rfl, ?_, ?_⟩
  · rintro i x acc hx rfl
    rcases i with _ | _ | _ | _ | _ | _ | i
    iterate 6 (cases hx; exact rfl)
    cases hx
  · have d : (((["gate", "hand", "many", "two", "other", "text"] : List Str).take 6).map fun x => decide (("gate" : Str) = x)) = [true, false, false, false, false, false] := by decide +kernel
    intro acc h
    have h' : acc = List.map Dl.D.bl [true, false, false, false, false, false] := h.trans (congrArg (List.map Dl.D.bl) d)
    subst h'
    refine ⟨⟨rfl, rfl, rfl, rfl⟩, ?_⟩
    have e : PyData.eqv (Dl.D.lst (List.map Dl.D.bl [true, false, false, false, false, false])).py (Dl.D.lst (List.map Dl.D.bl [true, false, false, false, false, false])).py = true := by rfl
    show Φ (.bl (PyData.eqv (Dl.D.lst (List.map Dl.D.bl [true, false, false, false, false, false])).py (Dl.D.lst (List.map Dl.D.bl [true, false, false, false, false, false])).py))
    rw [e]
    exact hQ
structure GdH (Pr : Program) (w : World) (K : PySem.W.Frag) (mg : Str → Option Value) (base : Heap) (k : Nat) (x : Str) (ps : List Str) (sp : L2.Sp) (f : Addr) (fd : FuncData) : Prop where
  ok : FnH Pr w K mg base CX0 k f fd ps sp
  m : mg x = some (.ref f)
  kp : PySem.W.keepIn K (.ref f) = true
  b : Binds K fd ps []
theorem stH_law_alike {n : Nat} (F : Fun K "_law_alike" "_law_alike" s_law_alike f fd) (T : Txt K mg cG) (G_law_alike : GdH Pr w K mg base n "_law_alike" ["_law_found", "_law_due"] (spD 2 (P_alike n)) f fd) : FnH Pr w K mg base CX0 (n + 1) f fd ["_law_found", "_law_due"] (spD 2 (P_alike (n + 1))) := by
  refine fn_DH F sc_law_alike rfl (fun cdv A outer s H Eo p hot hr => ?_)
  have hc : HotC (cxH CX0 Pr w K mg base N_law_alike "_law_alike" (defScope s_law_alike) f cdv A outer s H Eo p).nox := ⟨p, hot, List.mem_singleton.mpr rfl⟩
  refine ⟨_, _, (dss_cons (ds_if (dt_cmp op_isN ar_isN (de_var 1) de_non (nomark _))
      (dss_one (ds_ret (de_cmp op_isN ar_isN (de_var 0) de_non (nomark _))))
      dss_nil)
    (dss_cons (ds_if (dt_val (dk_isi K .bool (de_var 1) rfl T.isinstance rfl T.bool))
      (dss_one (ds_ret (de_and (dk_isi K .bool (de_var 0) rfl T.isinstance rfl T.bool) (de_one (de_cmp (opk_eq K hr.units) ar_eqU (de_var 0) (de_var 1) (nomark _))))))
      dss_nil)
    (dss_cons (ds_if (dt_val (dk_isi K .int (de_var 1) rfl T.isinstance rfl T.int))
      (dss_one (ds_ret (de_and (dk_isi K .int (de_var 0) rfl T.isinstance rfl T.int) (de_and (de_not (dk_isi K .bool (de_var 0) rfl T.isinstance rfl T.bool)) (de_one (de_cmp (opk_eq K hr.units) ar_eqU (de_var 0) (de_var 1) (nomark _)))))))
      dss_nil)
    (dss_cons (ds_if (dt_val (dk_isi K .str (de_var 1) rfl T.isinstance rfl T.str))
      (dss_one (ds_ret (de_and (dk_isi K .str (de_var 0) rfl T.isinstance rfl T.str) (de_one (de_cmp (opk_eq K hr.units) ar_eqU (de_var 0) (de_var 1) (nomark _))))))
      dss_nil)
    (dss_cons (ds_if (dt_val (dk_isi K .dict (de_var 1) rfl T.isinstance rfl T.dict))
      (dss_cons ds_never
      (dss_one ds_never))
      dss_nil)
    (dss_cons (ds_if (DW.pt (dw_or (dt_cmp (opk_ne K hr.units) ar_neU (dk_isi K .tuple (de_var 1) rfl T.isinstance rfl T.tuple) (dk_isi K .tuple (de_var 0) rfl T.isinstance rfl T.tuple) (nomark _)) (dw_or1 (dt_cmp (opk_ne K hr.units) ar_neU (dk_isi K .list (de_var 1) rfl T.isinstance rfl T.list) (dk_isi K .list (de_var 0) rfl T.isinstance rfl T.list) (nomark _)))))
      (dss_one (ds_ret de_bl))
      dss_nil)
    (dss_cons (ds_if (dt_cmp (opk_ne K hr.units) ar_neU (de_callB (cr_len K) ac_len rfl T.len PySem.boot_len (da_cons (de_var 0) da_nil)) (de_callB (cr_len K) ac_len rfl T.len PySem.boot_len (da_cons (de_var 1) da_nil)) (nomark _))
      (dss_one (ds_ret de_bl))
      dss_nil)
    (dss_one (ds_ret (de_callB (crk_allH K hc) ac_all rfl T.all (by decide +kernel) (da_cons (DF.de (df_lcR (own := [("_law_k", 3)]) hc sc_law_alike.nd rfl T.range (da_cons (de_callB (cr_len K) ac_len rfl T.len PySem.boot_len (da_cons (de_var 1) da_nil)) da_nil) (blkOk_by (own := [("_law_k", 3)]) (N := N_law_alike) (sc := defScope s_law_alike) (by decide +kernel)) (fun _ _ _ _ _ => (dg_name (i := 3) sc_law_alike.nd rfl (Or.inl rfl))) (fun _ _ _ _ _ => (de_callH G_law_alike.ok hr ⟨p, hot, List.mem_singleton.mpr rfl⟩ rfl G_law_alike.m G_law_alike.kp G_law_alike.b (da_cons (dk_ix K (de_var 0) (de_var 3)) (da_cons (dk_ix K (de_var 1) (de_var 3)) da_nil)))))) da_nil))))))))))), ?_⟩
  intro ss Φ hl hP
  obtain ⟨a, rfl, hv, hQ⟩ := hP
  cases a with
  | obj => exact hv.elim
  | raw => exact hv.elim
  | non => exact hQ
  | bl b => show Φ (.bl (decide (b = b))); rw [decide_eq_true rfl]; exact hQ
  | int i => show Φ (.bl (decide (i = i))); rw [decide_eq_true rfl]; exact hQ
  | str x => show Φ (.bl (decide (x = x))); rw [decide_eq_true rfl]; exact hQ
  | lst xs =>
    obtain ⟨hlen, hx⟩ := hv
    refine iteN (fun z => absurd rfl z) (fun _ => ?_)
    refine ⟨⟨by omega, by omega⟩, fun i acc => acc = List.replicate i (.bl true), rfl, ?_, ?_⟩
    · rintro i acc hi rfl
      have hi : i < xs.length := by omega
      have e := List.getElem?_eq_getElem hi
      refine ⟨xs[i], atI_i (by omega) (by rw [← e]; congr 1), xs[i], atI_i (by omega) (by rw [← e]; congr 1), ?_⟩
      exact ⟨xs[i], rfl, hx _ (List.getElem_mem hi), List.replicate_succ'.symm⟩
    · rintro acc rfl
      refine ⟨List.replicate (xs.length : Int).toNat true, by rw [List.map_replicate], ?_⟩
      have e : ∀ m : Nat, (List.replicate m true).all id = true := fun m => by induction m with
        | zero => rfl
        | succ m ih => rw [List.replicate_succ, List.all_cons, ih]; rfl
      rw [e]
      exact hQ
  | tup xs =>
    obtain ⟨hlen, hx⟩ := hv
    refine iteN (fun z => absurd rfl z) (fun _ => ?_)
    refine ⟨⟨by omega, by omega⟩, fun i acc => acc = List.replicate i (.bl true), rfl, ?_, ?_⟩
    · rintro i acc hi rfl
      have hi : i < xs.length := by omega
      have e := List.getElem?_eq_getElem hi
      refine ⟨xs[i], atI_i (by omega) (by rw [← e]; congr 1), xs[i], atI_i (by omega) (by rw [← e]; congr 1), ?_⟩
      exact ⟨xs[i], rfl, hx _ (List.getElem_mem hi), List.replicate_succ'.symm⟩
    · rintro acc rfl
      refine ⟨List.replicate (xs.length : Int).toNat true, by rw [List.map_replicate], ?_⟩
      have e : ∀ m : Nat, (List.replicate m true).all id = true := fun m => by induction m with
        | zero => rfl
        | succ m ih => rw [List.replicate_succ, List.all_cons, ih]; rfl
      rw [e]
      exact hQ

theorem okH_law_alike (F : Fun K "_law_alike" "_law_alike" s_law_alike f fd) (T : Txt K mg cG) (m : mg "_law_alike" = some (.ref f)) (kp : PySem.W.keepIn K (.ref f) = true) (b : Binds K fd ["_law_found", "_law_due"] []) : ∀ n : Nat, FnH Pr w K mg base CX0 n f fd ["_law_found", "_law_due"] (spD 2 (P_alike n))
  | 0 => ⟨fun vs H Q E h => by obtain ⟨_, _, _, _, _, _, _, _, _, ⟨_, _, z, _⟩, _⟩ := h; exact z.elim, fun A outer s H args us vs Q E p _ _ _ _ _ _ h => by obtain ⟨_, _, _, _, _, _, _, _, _, ⟨_, _, z, _⟩, _⟩ := h; exact z.elim⟩
  | n + 1 => stH_law_alike F T ⟨okH_law_alike F T m kp b n, m, kp, b⟩
theorem ok_law_refused1 {ea : EA} {aGE fi f_is f_al : Addr} {fdi fd_is fd_al : FuncData} (F : Fun K "_law_refused" "_law_refused" s_law_refused f fd) (gGE : mg "GateError" = some (.ref aGE)) (kE : PySem.W.exmOne K (.ref ea.BadGate) (.ref aGE) = some true) (XF : XfC K ea.BadGate)
    (n_why : PySem.W.findIn K (.ref ea.BadGate) "why" = some none) (n_hand : PySem.W.findIn K (.ref ea.BadGate) "hand" = some none) (n_step : PySem.W.findIn K (.ref ea.BadGate) "step" = some none)
    (mk_Gate : Mk K cG fi) (x_Gate : mg "Gate" = some (.ref cG)) (GI : FnOk Pr w K mg base (L2N.CX Pr w) 5 fi fdi ["self", "boxes", "hands"] (spInit cG 2 (PX_init ea.BadGate))) (b_GI : Binds K fdi ["self", "boxes", "hands"] [])
    (FI : ∀ dd, FnE Pr w K mg base CX0 1 f_is fd_is ["_law_e", "_law_word"] (fun p => L2N.Zn (.ref ea.BadGate) (some dd) p.2) fun a => spO dd 2 (P_is a "gate")) (mI : mg "_law_is" = some (.ref f_is)) (kI : PySem.W.keepIn K (.ref f_is) = true) (bI : Binds K fd_is ["_law_e", "_law_word"] [])
    (GH : GdH Pr w K mg base 2 "_law_alike" ["_law_found", "_law_due"] (spD 2 (P_alike 2)) f_al fd_al) : FnOk Pr w K mg base CX0 7 f fd ["_law_bad"] (spD 1 P_refused1) := by
  refine fn_D F sc_law_refused rfl (fun cdv A outer s H Eo hr => ⟨_, _, (dss_cons (ds_tryM (i := 1) sc_law_refused.nd rfl rfl ⟨rfl, by decide, .inl gGE⟩ kE mk_Gate GI hr rfl x_Gate b_GI (fun pn xe => (da_cons (dk_ix K (de_var 0) de_int) (da_cons (dk_ix K (de_var 0) de_int) da_nil))) (fun a oe dd fs pn hz hot => (de_and (de_callO (x := "_law_is") (a := a) (oe := oe) (Zp := fun p => L2N.Zn (.ref ea.BadGate) (some dd) p.2) (P := fun a => P_is a "gate") (FI dd) ⟨(hr.mono (by decide : 1 ≤ 6)).dp, (hr.mono (by decide : 1 ≤ 6)).un⟩ hot hz List.mem_cons_self rfl mI kI bI (da_cons (de_var 1) (da_cons de_str da_nil))) (de_one (de_callH (x := "_law_alike") GH.ok ⟨(hr.mono (by decide : 2 ≤ 6)).dp, (hr.mono (by decide : 2 ≤ 6)).un⟩ ⟨_, hot, List.mem_cons_self⟩ rfl GH.m GH.kp GH.b (da_cons (de_tup (da_cons (de_xf (a := a) (oe := oe) XF n_why hz.zc ⟨_, hot.2.choose_spec.1⟩ (de_var 1)) (da_cons (de_xf (a := a) (oe := oe) XF n_hand hz.zc ⟨_, hot.2.choose_spec.1⟩ (de_var 1)) (da_cons (de_xf (a := a) (oe := oe) XF n_step hz.zc ⟨_, hot.2.choose_spec.1⟩ (de_var 1)) da_nil)))) (da_cons (de_tup (da_cons (dk_ix K (de_var 0) de_int) (da_cons (dk_ix K (de_var 0) de_int) (da_cons (dk_ix K (de_var 0) de_int) da_nil)))) da_nil)))))))
    (dss_one (ds_ret de_bl))), ?_⟩)
  intro ss Φ hl hP
  obtain ⟨g, b, rfl, hbs, h50, h90, hb, hQ⟩ := hP
  refine ⟨⟨by show 1 < 2; omega, rfl⟩, ?_⟩
  refine ⟨dBoxes g.bs, rfl, .lst (g.hs.map dHand), rfl, g, b, rfl, hbs, h50, h90, hb, b.1, b.2.1, b.2.2, rfl, fun a => ?_⟩
  refine ⟨trivial, rfl, ?_⟩
  have lv : Lv 2 (.tup [.str b.1, .int b.2.1, .int b.2.2]) := ⟨by show 3 < 100000; omega, fun x hx => by
    rcases List.mem_cons.mp hx with rfl | hx
    · exact trivial
    rcases List.mem_cons.mp hx with rfl | hx
    · exact trivial
    rw [List.mem_singleton.mp hx]
    exact trivial⟩
  refine ⟨rfl, trivial, rfl, trivial, rfl, trivial, by simp, .str b.1, rfl, .int b.2.1, rfl, .int b.2.2, rfl, by simp, _, rfl, lv, hQ⟩
end
section
open PySem.Spec PyProof.Rows NdefX
variable {Pr : Program} {w : World} {K : PySem.W.Frag} {mg : Str → Option Value} {base : Heap} {f cG : Addr} {fd : FuncData}
abbrev s_BadGate_init : Stmt := inClass (top 2) 0
abbrev N_BadGate : List Str := ["self", "why", "hand", "step", "__class__"]
theorem ok_BadGate {C fI cc cda : Addr} {fdI : FuncData} (F : FunC K "__init__" "BadGate.__init__" s_BadGate_init fI fdI cc cda) (T : SupK Pr K C fI cc cda "self") (hm : mg "super" = none)
    (n_why : PySem.W.findIn K (.ref C) "why" = some none) (n_hand : PySem.W.findIn K (.ref C) "hand" = some none) (n_step : PySem.W.findIn K (.ref C) "step" = some none) : FnOk Pr w K mg base CX0 1 fI fdI ["self", "why", "hand", "step"] (spErr C) := by
  refine fn_super F T (nscope_by (N := N_BadGate) (by decide +kernel)) rfl rfl hm rfl (fun _ => rfl) (fun _ => rfl) (fun _ => rfl) (fun _ => rfl) (fun vs H Q E h => by obtain ⟨_, _, _, _, rfl, _⟩ := h; rfl) (fun A outer s H vs Q E hr h => ?_)
  obtain ⟨a, w, i, j, rfl, hw, i0, i1, j0, j1, ha, hk⟩ := h
  refine ⟨a, _, _, rfl, ha, pe_joined (PJ.cons pe_str (PJ.cons (pe_fmt (pv 1)) (PJ.cons pe_str (PJ.cons (pe_fmt (pv 2)) (PJ.cons pe_str (PJ.cons (pe_fmt (pv 3)) (PJ.cons pe_str PJ.nil))))))), pss_cons (ps_ost (pv 0) (pv 1)) (pss_cons (ps_ost (pv 0) (pv 2)) (pss_one (ps_ost (pv 0) (pv 3)))), ?_⟩
  have lapp : ∀ x y : Str, (x ++ y).length = x.length + y.length := fun x y => Str.length_append x y
  have big : ∀ n : Nat, n ≤ 1000 → n ≤ sizeLine := fun n h => by rw [sizeLine_eq]; omega
  have l2i := int_len' i0 i1
  have l3i := int_len' j0 j1
  have c1 : (Str.empty ++ Str.ofString "no such gate can be: ").length ≤ 100 := by decide +kernel
  have c2 : (Str.ofString " (hand ").length ≤ 100 := by decide +kernel
  have c3 : (Str.ofString ", step ").length ≤ 100 := by decide +kernel
  have c4 : (Str.ofString ")").length ≤ 100 := by decide +kernel
  have lg : ∀ n : Int, 0 ≤ n → n < 100 → n.natAbs.log2 < 1920 := fun n h0 h1 => by
    have := Nat.log2_le_self n.natAbs
    omega
  refine ⟨_, rfl, big _ (by omega), ?_⟩
  refine ⟨.str w, rfl, .inl ⟨w, rfl, big _ (by omega), w, rfl, big _ (by rw [lapp]; omega), ?_⟩⟩
  refine ⟨_, rfl, big _ (by rw [lapp, lapp]; omega), ?_⟩
  refine ⟨.int i, rfl, .inr ⟨i, rfl, lg i i0 i1, _, rfl, big _ (by rw [lapp, lapp, lapp]; omega), ?_⟩⟩
  refine ⟨_, rfl, big _ (by rw [lapp, lapp, lapp, lapp]; omega), ?_⟩
  refine ⟨.int j, rfl, .inr ⟨j, rfl, lg j j0 j1, _, rfl, big _ (by rw [lapp, lapp, lapp, lapp, lapp]; omega), ?_⟩⟩
  refine ⟨_, rfl, big _ (by rw [lapp, lapp, lapp, lapp, lapp, lapp]; omega), ?_⟩
  refine ⟨ha, ?_⟩
  refine ⟨.str w, rfl, .ref a, rfl, a, C, rfl, T.ox, n_why, .inl ⟨ha, fun d hd hda => ?_⟩⟩
  refine ⟨.int i, rfl, .ref a, rfl, a, C, rfl, T.ox, n_hand, .inr ⟨d, [("why", .str w)], upd_same, ?_, by show 1 ≤ 900; omega, ?_⟩⟩
  · rw [upd_ne hda]; exact upd_same
  refine ⟨.int j, rfl, .ref a, rfl, a, C, rfl, T.ox, n_step, .inr ⟨d, [("hand", .int i), ("why", .str w)], ?_, upd_same, by show 2 ≤ 900; omega, ?_⟩⟩
  · rw [upd_ne (Ne.symm hda)]; exact upd_same
  refine hk d _ hd hda ?_ upd_same fun b h1 h2 => ?_
  · rw [upd_ne (Ne.symm hda), upd_ne (Ne.symm hda)]; exact upd_same
  · rw [upd_ne h2, upd_ne h2, upd_ne h1, upd_ne h2]
end
end Gh

namespace HeadG
open PySem PySem.Spec PySem.W PyProof.Rows L2 He
theorem funD_fun {K : PySem.W.Frag} {x qual : PySem.Str} {st : Stmt} {f : Addr} {fd : FuncData} (F : FunD K x qual (defArgs st) (defBody st) (defScope st) [] [] f fd) : Fun K x qual st f fd := by
  obtain ⟨⟨oc, od, dV, kV, doc, pm, an, cdv, ct, osl, e, lk, hcd, hD, hK⟩, kp⟩ := F
  rcases hD with ⟨_, rfl⟩ | ⟨e2, _⟩
  · exact ⟨⟨oc, od, kV, doc, pm, an, cdv, ct, osl, e, lk, hcd⟩, kp⟩
  · exact absurd rfl e2
abbrev AlP : Type := AlD × Bool
def exAll (ex : List (PySem.W.Frag → Bool)) (K : PySem.W.Frag) : Bool := ex.all fun b => b K
def obsP (n : Nat) (fa : List Fa) (fn : List DefD) (ex : List (PySem.W.Frag → Bool)) (g : Addr → Option Obj) : AlP := (obsD fa fn (frG g (asD g n)), exAll ex (frG g (asD g n)))
structure SaysP (fa : List Fa) (fn : List DefD) (ex : List (PySem.W.Frag → Bool)) (K : PySem.W.Frag) : Prop where
  d : SaysD fa fn K
  x : exAll ex K = true
theorem saysP_of {fa : List Fa} {fn : List DefD} {ex : List (PySem.W.Frag → Bool)} {K : PySem.W.Frag} (e : (obsD fa fn K, exAll ex K) = (valD fn, true)) : SaysP fa fn ex K := ⟨congrArg (fun z : AlP => z.1) e, congrArg (fun z : AlP => z.2) e⟩
def hookP (n : Nat) (fa : List Fa) (fn : List DefD) (ex : List (PySem.W.Frag → Bool)) : PySem.W.Hook where
  α := AlP
  obs := fun s => obsP n fa fn ex s.heap.get?
  val := fun _ => (valD fn, true)
  says := fun _ h => ∃ K : PySem.W.Frag, K.In h ∧ SaysP fa fn ex K
  of := fun _ _ e => ⟨_, frG_in, saysP_of e⟩
  keeps := fun _ _ _ ⟨K, hK, c⟩ k => ⟨K, PySem.W.Frag.In.keeps hK k, c⟩
theorem obsP_eq {n : Nat} {fa : List Fa} {fn : List DefD} {ex : List (PySem.W.Frag → Bool)} {g : Addr → Option Obj} {s : Shared} (h : ∀ a, g a = s.heap.get? a) : obsP n fa fn ex g = (hookP n fa fn ex).obs s := by
  have e : g = s.heap.get? := funext h
  rw [e] <;> rfl
theorem SaysP.more {fa : List Fa} {fn : List DefD} {ex : List (PySem.W.Frag → Bool)} {K : PySem.W.Frag} (c : SaysP fa fn ex K) (i : Nat) {b : PySem.W.Frag → Bool} (h : ex[i]? = some b := by rfl) : b K = true :=
  List.all_eq_true.mp c.x b (List.mem_of_getElem? h)
end HeadG
namespace HeadC
open PySem PySem.Spec PySem.W PyProof.Rows L2 He Dl
/-- a class's def whose closure is the class's cell -/
abbrev FnC : Type := Option (Str × Str × Arguments × FuncBody × Scope × Addr × List Str × Addr)
def fnC (K : PySem.W.Frag) (p : Str × Option Str) : FnC := match K.lookup (fAd K p) with
  | some ⟨_, _, .func fd, _⟩ => some (fd.name, fd.qualname, fd.params, fd.body, fd.scope, fd.globals, fd.closure.map (fun z => z.1), fd.builtins)
  | _ => none
def valC (x q : Str) (st : Stmt) : FnC := some (x, q, defArgs st, .stmts (defBody st), defScope st, mainGlobals, ["__class__"], builtinsNs)
def ccOf (K : PySem.W.Frag) (p : Str × Option Str) : Addr := match K.lookup (fAd K p) with
  | some ⟨_, _, .func fd, _⟩ => (match fd.closure with
    | (_, c) :: _ => c
    | _ => 0)
  | _ => 0
def cdOf (K : PySem.W.Frag) (p : Str × Option Str) : Addr := match K.lookup (fAd K p) with
  | some ⟨_, _, .func fd, _⟩ => (match fd.code with
    | .ref c => c
    | _ => 0)
  | _ => 0
def isNoneV : Value → Bool
  | .none => true
  | _ => false
def okC (K : PySem.W.Frag) (p : Str × Option Str) (q : Str) : Bool := PySem.W.keepIn K (.ref (fAd K p)) && (match K.lookup (fAd K p) with
  | some ⟨_, _, .func fd, _⟩ => PySem.W.codeIn K fd.code q && isNoneV fd.defaults
  | _ => false)
theorem funC_of {K : PySem.W.Frag} {p : Str × Option Str} {x q : Str} {st : Stmt} (e : fnC K p = valC x q st) (c : okC K p q = true) : ∃ fd, FunC K x q st (fAd K p) fd (ccOf K p) (cdOf K p) := by
  obtain ⟨kp, c2⟩ := ba c
  unfold fnC at e
  cases h : K.lookup (fAd K p) with
  | none =>
    rw [h] at c2
    cases c2
  | some o =>
    obtain ⟨oc, od, dt, osl⟩ := o
    rw [h] at c2 e
    cases dt with
    | func fd =>
      obtain ⟨n1, n2, n3, n4, n5, n6, n7, n8, n9, n10, n11, n12, n13, n14, n15⟩ := fd
      have e2 : (some (n1, n2, n3, n4, n5, n6, n7.map (fun z => z.1), n15) : FnC) = some (x, q, defArgs st, FuncBody.stmts (defBody st), defScope st, mainGlobals, [("__class__" : Str)], builtinsNs) := e
      simp only [Option.some.injEq, Prod.mk.injEq] at e2
      obtain ⟨h1, h2, h3, h4, h5, h6, h7, h8⟩ := e2
      subst h1 h2 h3 h4 h5 h6 h8
      obtain ⟨k1, k2⟩ := ba (show (PySem.W.codeIn K n13 n2 && isNoneV n8) = true from c2)
      have q8 : n8 = .none := by
        cases n8 with
        | none => rfl
        | _ => cases k2
      subst q8
      cases n13 with
      | ref cda =>
        cases n7 with
        | nil => cases h7
        | cons z r =>
          obtain ⟨y, cc⟩ := z
          cases r with
          | cons z2 r2 => cases h7
          | nil =>
            have hy : y = ("__class__" : Str) := by injection h7
            subst hy
            have e3 : ccOf K p = cc := by
              unfold ccOf
              rw [h]
            have e4 : cdOf K p = cda := by
              unfold cdOf
              rw [h]
            rw [e3, e4]
            exact ⟨_, ⟨oc, od, n9, n10, n11, n12, n14, osl, rfl, h, k1⟩, kp⟩
      | _ => cases k1
    | _ => cases c2
theorem funC_binds {K : PySem.W.Frag} {x q : Str} {st : Stmt} {f cc cda : Addr} {fd : FuncData} {ps : List Str} (F : FunC K x q st f fd cc cda)
    (h : ∀ (kV doc pm : Value) (an : Option Addr) (ct : Value) (us : List Value), us.length = ps.length → bindArgs (PySem.W.ksFn x q (defArgs st) (defBody st) (defScope st) .none kV doc pm an (.ref cda) ct cc) ⟨us, []⟩ = pure (ps.zip us)) : Binds K fd ps [] := by
  obtain ⟨oc, od, kV, doc, pm, an, ct, osl, rfl, lk, hcd⟩ := F.ex
  exact .all (h kV doc pm an ct)
def oexB (K : PySem.W.Frag) (C : Addr) : Bool := (match K.lookup C with
  | some ⟨.type "type", _, .cls cd, sl⟩ => (match cd.mro, sl.toList with
    | .ref C' :: bm, [_, _, _, _, some (.builtin n), _] => C' == C && n == "ValueError.__new__" && !cd.hasDel && cd.hasDict && PySem.HandSPX.refsVE bm
    | _, _ => false)
  | _ => false) && (eqO (PySem.W.findIn K (.ref C) "__setattr__") (some (some (.builtin "object.__setattr__"))) && (decide (PySem.W.subIn K (.ref C) (.type "BaseException") = some true) && (decide (PySem.W.typeIn K (.ref C) = some (.type "type")) && PySem.W.keepIn K (.ref C))))
theorem oexB_ok {K : PySem.W.Frag} {C : Addr} (c : oexB K C = true) : OexC K C := by
  obtain ⟨c0, c⟩ := ba c
  obtain ⟨c1, c⟩ := ba c
  obtain ⟨c2, c⟩ := ba c
  obtain ⟨c3, c4⟩ := ba c
  refine ⟨?_, eqO_ok c1, of_decide_eq_true c2, of_decide_eq_true c3, c4⟩
  split at c0
  · rename_i dd cd sl ho
    split at c0
    · rename_i C' bm k0 k1 k2 k3 n k5 hm hs
      simp only [Bool.and_eq_true, beq_iff_eq, Bool.not_eq_true'] at c0
      obtain ⟨⟨⟨⟨rfl, rfl⟩, hdel⟩, hhd⟩, ht⟩ := c0
      obtain ⟨nm, bs, mro, ns, qn, hd, sn, sub, ab, col, del⟩ := cd
      dsimp only at hm hdel hhd
      subst hm hdel hhd
      have hsl : sl = #[k0, k1, k2, k3, some (.builtin "ValueError.__new__"), k5] := by
        obtain ⟨l⟩ := sl
        simp only at hs
        rw [hs]
      subst hsl
      exact ⟨nm, qn, ns, bs, bm, sn, sub, ab, col, dd, k0, k1, k2, k3, k5, ho, ht⟩
    · cases c0
  · cases c0
def supB (K : PySem.W.Frag) (C : Addr) (p : Str × Option Str) (sf file : Str) : Bool :=
  oexB K C && ((match K.lookup (fAd K p) with
    | some ⟨_, _, .func fd, _⟩ => (match (fd.params.posonlyargs ++ fd.params.args).head? with
      | some ar => decide (ar.arg = sf)
      | none => false)
    | _ => false) && ((match K.lookup (cdOf K p) with
    | some ⟨_, _, .fields vs, _⟩ => (match (vs[2]? : Option Value) with
      | some (Value.str y _) => file == y
      | _ => false)
    | _ => false) && ((match K.lookup (ccOf K p) with
    | some ⟨_, _, .cell (some (.ref c)), _⟩ => decide (c = C)
    | _ => false) && ((PySem.W.clsIn K C).isSome && (decide (PySem.W.mroIn K C (.ref C) = some true) && (eqO (PySem.W.nsIn K cStatics "thirdparty.any") (some none) && (eqO (PySem.W.ks_superIn K C C "__init__") (some (some (.builtin "ValueError.__init__"))) &&
    (decide (PySem.W.subIn K (.ref C) (.type "ValueError") = some true) && PySem.W.excInitIn K C He.veBase "ValueError.__new__"))))))))
theorem supB_ok {P : Program} {K : PySem.W.Frag} {C : Addr} {p : Str × Option Str} {sf file : Str} (hP : P.main.file = file) (hs : (P.main.scope.names.lookup ("super" : Str)).isSome = false) (c : supB K C p sf file = true) : SupK P K C (fAd K p) (ccOf K p) (cdOf K p) sf := by
  obtain ⟨c1, c⟩ := ba c
  obtain ⟨c2, c⟩ := ba c
  obtain ⟨c3, c⟩ := ba c
  obtain ⟨c4, c⟩ := ba c
  obtain ⟨c5, c⟩ := ba c
  obtain ⟨c6, c⟩ := ba c
  obtain ⟨c7, c⟩ := ba c
  obtain ⟨c8, c⟩ := ba c
  obtain ⟨c9, c10⟩ := ba c
  refine ⟨oexB_ok c1, ?_, ?_, ?_, Option.isSome_iff_exists.mp c5, of_decide_eq_true c6, eqO_ok c7, eqO_ok c8, of_decide_eq_true c9, c10, hs⟩
  · cases h : K.lookup (fAd K p) with
    | none =>
      rw [h] at c2
      cases c2
    | some o =>
      obtain ⟨oc, od, dt, osl⟩ := o
      rw [h] at c2
      cases dt with
      | func fd =>
        have c2' : (match (fd.params.posonlyargs ++ fd.params.args).head? with
          | some ar => decide (ar.arg = sf)
          | none => false) = true := c2
        cases h2 : (fd.params.posonlyargs ++ fd.params.args).head? with
        | none =>
          rw [h2] at c2'
          cases c2'
        | some ar =>
          rw [h2] at c2'
          exact ⟨oc, od, fd, osl, ar, rfl, h2, of_decide_eq_true c2'⟩
      | _ => cases c2
  · cases h : K.lookup (cdOf K p) with
    | none =>
      rw [h] at c3
      cases c3
    | some o =>
      obtain ⟨oc, od, dt, osl⟩ := o
      rw [h] at c3
      cases dt with
      | fields vs =>
        have c3' : (match (vs[2]? : Option Value) with
          | some (Value.str y _) => file == y
          | _ => false) = true := c3
        cases h2 : vs[2]? with
        | none =>
          rw [h2] at c3'
          cases c3'
        | some v =>
          rw [h2] at c3'
          cases v with
          | str y t => exact ⟨oc, od, vs, osl, y, t, rfl, h2, by rw [hP]; exact c3'⟩
          | _ => cases c3'
      | _ => cases c3
  · cases h : K.lookup (ccOf K p) with
    | none =>
      rw [h] at c4
      cases c4
    | some o =>
      obtain ⟨oc, od, dt, osl⟩ := o
      rw [h] at c4
      cases dt with
      | cell v =>
        cases v with
        | none => cases c4
        | some v =>
          cases v with
          | ref c' =>
            have e : c' = C := of_decide_eq_true c4
            rw [e]
            exact ⟨oc, od, osl, rfl⟩
          | _ => cases c4
      | _ => cases c4
abbrev AlC : Type := AlD × (Bool × List FnC)
abbrev CD : Type := (Str × Option Str) × Str × Str × Stmt
def obsC (n : Nat) (fa : List Fa) (fn : List DefD) (ex : List (PySem.W.Frag → Bool)) (cd : List CD) (g : Addr → Option Obj) : AlC :=
  (obsD fa fn (frG g (cStatics :: asD g n)), HeadG.exAll ex (frG g (cStatics :: asD g n)), cd.map fun d => fnC (frG g (cStatics :: asD g n)) d.1)
structure SaysC (fa : List Fa) (fn : List DefD) (ex : List (PySem.W.Frag → Bool)) (cd : List CD) (K : PySem.W.Frag) : Prop where
  d : SaysD fa fn K
  x : HeadG.exAll ex K = true
  c : cd.map (fun d => fnC K d.1) = cd.map fun d => valC d.2.1 d.2.2.1 d.2.2.2
def valAll (fn : List DefD) (cd : List CD) : AlC := (valD fn, true, cd.map fun d => valC d.2.1 d.2.2.1 d.2.2.2)
theorem saysC_of {fa : List Fa} {fn : List DefD} {ex : List (PySem.W.Frag → Bool)} {cd : List CD} {K : PySem.W.Frag} (e : (obsD fa fn K, HeadG.exAll ex K, cd.map fun d => fnC K d.1) = valAll fn cd) : SaysC fa fn ex cd K :=
  ⟨congrArg (fun z : AlC => z.1) e, congrArg (fun z : AlC => z.2.1) e, congrArg (fun z : AlC => z.2.2) e⟩
def hookC (n : Nat) (fa : List Fa) (fn : List DefD) (ex : List (PySem.W.Frag → Bool)) (cd : List CD) : PySem.W.Hook where
  α := AlC
  obs := fun s => obsC n fa fn ex cd s.heap.get?
  val := fun _ => valAll fn cd
  says := fun _ h => ∃ K : PySem.W.Frag, K.In h ∧ SaysC fa fn ex cd K
  of := fun _ _ e => ⟨_, frG_in, saysC_of e⟩
  keeps := fun _ _ _ ⟨K, hK, c⟩ k => ⟨K, PySem.W.Frag.In.keeps hK k, c⟩
theorem obsC_eq {n : Nat} {fa : List Fa} {fn : List DefD} {ex : List (PySem.W.Frag → Bool)} {cd : List CD} {g : Addr → Option Obj} {s : Shared} (h : ∀ a, g a = s.heap.get? a) : obsC n fa fn ex cd g = (hookC n fa fn ex cd).obs s := by
  have e : g = s.heap.get? := funext h
  rw [e] <;> rfl
theorem SaysC.more {fa : List Fa} {fn : List DefD} {ex : List (PySem.W.Frag → Bool)} {cd : List CD} {K : PySem.W.Frag} (c : SaysC fa fn ex cd K) (i : Nat) {b : PySem.W.Frag → Bool} (h : ex[i]? = some b := by rfl) : b K = true :=
  List.all_eq_true.mp c.x b (List.mem_of_getElem? h)
theorem SaysC.cdef {fa : List Fa} {fn : List DefD} {ex : List (PySem.W.Frag → Bool)} {cd : List CD} {K : PySem.W.Frag} (c : SaysC fa fn ex cd K) (i : Nat) {p : Str × Option Str} {x q : Str} {st : Stmt} (h : cd[i]? = some (p, x, q, st) := by rfl) : fnC K p = valC x q st := by
  have e2 : (cd.map fun d => fnC K d.1)[i]? = (cd.map fun d => valC d.2.1 d.2.2.1 d.2.2.2)[i]? := by rw [c.c]
  rw [List.getElem?_map, List.getElem?_map, h] at e2
  exact Option.some.inj e2
end HeadC
namespace Gh
open PySem PySem.Spec PySem.W PySem.Calls PyProof.Rows L2 Dl HotX L2H
def fileN : Str := (PySem.Challenge.rw_gatehands_k01_gates_refused).prog.main.file
def dd_law_off : He.DefD := ⟨("_law_off", none), "_law_off", "_law_off", defArgs Gh2.s_law_off, defBody Gh2.s_law_off, defScope Gh2.s_law_off, [], []⟩
def dd_law_step : He.DefD := ⟨("_law_step", none), "_law_step", "_law_step", defArgs s_law_step, defBody s_law_step, defScope s_law_step, [], []⟩
def dd_law_program : He.DefD := ⟨("_law_program", none), "_law_program", "_law_program", defArgs s_law_program, defBody s_law_program, defScope s_law_program, [], []⟩
def dd_law_pair : He.DefD := ⟨("_law_pair", none), "_law_pair", "_law_pair", defArgs s_law_pair, defBody s_law_pair, defScope s_law_pair, [], []⟩
def dd_law_bits : He.DefD := ⟨("_law_bits", none), "_law_bits", "_law_bits", defArgs s_law_bits, defBody s_law_bits, defScope s_law_bits, [], []⟩
def dd_law_counter : He.DefD := ⟨("_law_counter", none), "_law_counter", "_law_counter", defArgs s_law_counter, defBody s_law_counter, defScope s_law_counter, [], []⟩
def dd_law_gate : He.DefD := ⟨("_law_gate", none), "_law_gate", "_law_gate", defArgs s_law_gate, defBody s_law_gate, defScope s_law_gate, [], []⟩
def dd_law_alike : He.DefD := ⟨("_law_alike", none), "_law_alike", "_law_alike", defArgs s_law_alike, defBody s_law_alike, defScope s_law_alike, [], []⟩
def dd_law_inner : He.DefD := ⟨("_law_inner", none), "_law_inner", "_law_inner", defArgs s_law_inner, defBody s_law_inner, defScope s_law_inner, [], []⟩
def dd_Gate_many : He.DefD := ⟨("Gate", some "many"), "many", "Gate.many", defArgs s_Gate_many, defBody s_Gate_many, defScope s_Gate_many, [], []⟩
def dd_can_be_put : He.DefD := ⟨("can_be_put", none), "can_be_put", "can_be_put", defArgs s_can_be_put, defBody s_can_be_put, defScope s_can_be_put, [], []⟩
def dd_can_be_read : He.DefD := ⟨("can_be_read", none), "can_be_read", "can_be_read", defArgs s_can_be_read, defBody s_can_be_read, defScope s_can_be_read, [], []⟩
def dd_can_be_step : He.DefD := ⟨("can_be_step", none), "can_be_step", "can_be_step", defArgs s_can_be_step, defBody s_can_be_step, defScope s_can_be_step, [], []⟩
def dd_places_of_in : He.DefD := ⟨("places_of_in", none), "places_of_in", "places_of_in", defArgs s_places_of_in, defBody s_places_of_in, defScope s_places_of_in, [], []⟩
def dd_law_wrong_step : He.DefD := ⟨("_law_wrong_step", none), "_law_wrong_step", "_law_wrong_step", defArgs s_law_wrong_step, defBody s_law_wrong_step, defScope s_law_wrong_step, [], []⟩
def dd_law_wrong_hand : He.DefD := ⟨("_law_wrong_hand", none), "_law_wrong_hand", "_law_wrong_hand", defArgs s_law_wrong_hand, defBody s_law_wrong_hand, defScope s_law_wrong_hand, [], []⟩
def dd_law_wrong : He.DefD := ⟨("_law_wrong", none), "_law_wrong", "_law_wrong", defArgs s_law_wrong, defBody s_law_wrong, defScope s_law_wrong, [], []⟩
def dd_check_boxes : He.DefD := ⟨("check_boxes", none), "check_boxes", "check_boxes", defArgs s_check_boxes, defBody s_check_boxes, defScope s_check_boxes, [], []⟩
def dd_check_program : He.DefD := ⟨("check_program", none), "check_program", "check_program", defArgs s_check_program, defBody s_check_program, defScope s_check_program, [], []⟩
def dd_check_knock : He.DefD := ⟨("check_knock", none), "check_knock", "check_knock", defArgs s_check_knock, defBody s_check_knock, defScope s_check_knock, [], []⟩
def dd_check_hands : He.DefD := ⟨("check_hands", none), "check_hands", "check_hands", defArgs s_check_hands, defBody s_check_hands, defScope s_check_hands, [], []⟩
def dd_law_dice : He.DefD := ⟨("_law_dice", none), "_law_dice", "_law_dice", defArgs Gh2.s_law_dice, defBody Gh2.s_law_dice, defScope Gh2.s_law_dice, [], []⟩
def dd_Gate_init : He.DefD := ⟨("Gate", some "__init__"), "__init__", "Gate.__init__", defArgs s_Gate_init, defBody s_Gate_init, defScope s_Gate_init, [], []⟩
def dd_Gate_boxes : He.DefD := ⟨("Gate", some "boxes"), "boxes", "Gate.boxes", defArgs s_Gate_boxes, defBody s_Gate_boxes, defScope s_Gate_boxes, [], []⟩
def dd_Gate_hands : He.DefD := ⟨("Gate", some "hands"), "hands", "Gate.hands", defArgs s_Gate_hands, defBody s_Gate_hands, defScope s_Gate_hands, [], []⟩
def dd_law_is : He.DefD := ⟨("_law_is", none), "_law_is", "_law_is", defArgs s_law_is, defBody s_law_is, defScope s_law_is, [], []⟩
def dd_law_refused : He.DefD := ⟨("_law_refused", none), "_law_refused", "_law_refused", defArgs s_law_refused, defBody s_law_refused, defScope s_law_refused, [], []⟩
def dd_law : He.DefD := ⟨("law", none), "law", "law", defArgs s_law, defBody s_law, defScope s_law, [], []⟩
def names0 : List PySem.Str := ["__name__", "GateError", "BadGate", "NoHand", "TooMany", "TwoWithin", "OtherGate", "BadText", "MOST_BOXES", "MOST_IN_BOX", "MOST_HANDS", "FEWEST_STEPS", "MOST_STEPS", "IN", "Gate", "check_boxes", "check_hands", "check_program", "check_knock", "can_be_step", "can_be_put"]
def names1 : List PySem.Str := ["can_be_read", "places_of_in", "_law_dice", "_law_off", "_law_alike", "_law_step", "_law_program", "_law_pair", "_law_bits", "_law_counter", "_law_gate", "_law_inner", "_law_is", "_law_wrong_step", "_law_wrong_hand", "_law_wrong", "_law_refused"]
def names : List PySem.Str := names0 ++ names1
def fa : List He.Fa := [.glo "law", .free "len", .free "tuple", .free "list", .free "range", .free "int", .free "abs", .free "enumerate", .free "zip", .free "isinstance", .free "all", .free "bool", .free "str", .free "dict", .cls "Gate", .noat "Gate" "pairs", .noat "Gate" "programs", .noat "Gate" "knocks", .noat "Gate" "insides", .int "MOST_BOXES" 12, .int "MOST_IN_BOX" 9, .int "MOST_HANDS" 4, .int "FEWEST_STEPS" 2, .int "MOST_STEPS" 24, .glo "_law_off", .glo "_law_step", .glo "_law_program", .glo "_law_pair", .glo "_law_bits", .glo "_law_counter", .glo "_law_gate", .glo "_law_alike", .glo "_law_inner", .meth "Gate" "many", .glo "can_be_put", .glo "can_be_read", .glo "can_be_step", .glo "places_of_in", .glo "_law_wrong_step", .glo "_law_wrong_hand", .glo "_law_wrong", .meth "Gate" "boxes", .meth "Gate" "hands", .glo "_law_dice", .noat "BadGate" "why", .noat "BadGate" "hand", .noat "BadGate" "step", .free "super", .glo "BadGate", .glo "check_boxes", .glo "check_program", .glo "check_knock", .glo "check_hands", .glo "NoHand", .glo "TooMany", .glo "TwoWithin", .glo "OtherGate", .glo "BadText", .free "ValueError", .glo "GateError", .exm "BadGate" "GateError" true, .mkr "Gate", .glo "Gate", .glo "_law_is", .glo "_law_refused"]
def fn : List He.DefD := [dd_law_off, dd_law_step, dd_law_program, dd_law_pair, dd_law_bits, dd_law_counter, dd_law_gate, dd_law_alike, dd_law_inner, dd_Gate_many, dd_can_be_put, dd_can_be_read, dd_can_be_step, dd_places_of_in, dd_law_wrong_step, dd_law_wrong_hand, dd_law_wrong, dd_check_boxes, dd_check_program, dd_check_knock, dd_check_hands, dd_law_dice, dd_Gate_init, dd_Gate_boxes, dd_Gate_hands, dd_law_is, dd_law_refused, dd_law]
def ex : List (PySem.W.Frag → Bool) := [fun K => HeadC.okC K ("BadGate", some "__init__") "BadGate.__init__", fun K => HeadC.supB K (He.ga K "BadGate") ("BadGate", some "__init__") "self" fileN, fun K => He.eqO (PySem.W.findIn K (.ref (He.ga K "BadGate")) "__init__") (some (some (.ref (He.fAd K ("BadGate", some "__init__"))))), fun K => decide (PySem.W.typeIn K (.ref (He.fAd K ("BadGate", some "__init__"))) = some (.type "function")), fun K => decide (PySem.W.kitOne K (.ref (He.ga K "BadGate")) (.type "ValueError") = some true), fun K => decide (PySem.W.kitOne K (.ref (He.ga K "BadGate")) (.ref (He.ga K "BadGate")) = some true), fun K => decide (PySem.W.kitOne K (.ref (He.ga K "BadGate")) (.ref (He.ga K "NoHand")) = some false), fun K => decide (PySem.W.kitOne K (.ref (He.ga K "BadGate")) (.ref (He.ga K "TooMany")) = some false), fun K => decide (PySem.W.kitOne K (.ref (He.ga K "BadGate")) (.ref (He.ga K "TwoWithin")) = some false), fun K => decide (PySem.W.kitOne K (.ref (He.ga K "BadGate")) (.ref (He.ga K "OtherGate")) = some false), fun K => decide (PySem.W.kitOne K (.ref (He.ga K "BadGate")) (.ref (He.ga K "BadText")) = some false), fun K => excCB K (He.ga K "BadGate"), fun K => xfB K (He.ga K "BadGate"), Dl.gB "IN"]
def cd : List HeadC.CD := [(("BadGate", some "__init__"), "__init__", "BadGate.__init__", s_BadGate_init)]
abbrev R : OpenRow := OpenLaw.row PySem.Challenge.rw_gatehands_k01_gates_refused
abbrev hk : Hook := HeadC.hookC 5 fa fn ex cd
def ob (s : SharedT) : HeadC.AlC := HeadC.obsC 5 fa fn ex cd (HandSHeadRun.getT s)
theorem ob_eq (s : SharedT) : ob s = hk.obs s.abs := HeadC.obsC_eq (HandSHeadRun.getT_eq s)
set_option maxHeartbeats 0 in
theorem run (w : World) : HandSHeadRun.RunEq R (view R.prog [40]) hk ob 8000 names w := by
  intro os
  kernel_rfl
theorem joined {P : Program} {w : World} {K : PySem.W.Frag} {h : Heap} {mg : PySem.Str → Option Value} (hfile : P.main.file = fileN) (hsup : (P.main.scope.names.lookup ("super" : Str)).isSome = false) (X : K.In h) (G : h.Ns mainGlobals mg) (c : HeadC.SaysC fa fn ex cd K) :
    ∃ fd : FuncData, (∀ (s : Shared) (v : Value), BindsTo s fd ⟨[v], []⟩ [("_law_script", v)]) ∧ ∀ base : Heap, FnOk P w K mg base CX0 8 (He.ga K "law") fd ["_law_script"] (spLaw K) := by
  obtain ⟨fd_law_off, D_law_off⟩ := c.d.def_ 0 (d := dd_law_off) rfl
  have F_law_off : Fun K "_law_off" "_law_off" Gh2.s_law_off (He.ga K "_law_off") fd_law_off := HeadG.funD_fun D_law_off
  have b_law_off : Binds K fd_law_off ["_law_d", "_law_most"] [] := FunD.bindsN D_law_off fun _ _ _ _ _ _ us hl => match us, hl with | [_, _], _ => rfl
  obtain ⟨fd_law_step, D_law_step⟩ := c.d.def_ 1 (d := dd_law_step) rfl
  have F_law_step : Fun K "_law_step" "_law_step" s_law_step (He.ga K "_law_step") fd_law_step := HeadG.funD_fun D_law_step
  have b_law_step : Binds K fd_law_step ["_law_d", "_law_boxes", "_law_many"] [] := FunD.bindsN D_law_step fun _ _ _ _ _ _ us hl => match us, hl with | [_, _, _], _ => rfl
  obtain ⟨fd_law_program, D_law_program⟩ := c.d.def_ 2 (d := dd_law_program) rfl
  have F_law_program : Fun K "_law_program" "_law_program" s_law_program (He.ga K "_law_program") fd_law_program := HeadG.funD_fun D_law_program
  have b_law_program : Binds K fd_law_program ["_law_d", "_law_boxes", "_law_most"] [] := FunD.bindsN D_law_program fun _ _ _ _ _ _ us hl => match us, hl with | [_, _, _], _ => rfl
  obtain ⟨fd_law_pair, D_law_pair⟩ := c.d.def_ 3 (d := dd_law_pair) rfl
  have F_law_pair : Fun K "_law_pair" "_law_pair" s_law_pair (He.ga K "_law_pair") fd_law_pair := HeadG.funD_fun D_law_pair
  have b_law_pair : Binds K fd_law_pair ["_law_side"] [] := FunD.bindsN D_law_pair fun _ _ _ _ _ _ us hl => match us, hl with | [_], _ => rfl
  obtain ⟨fd_law_bits, D_law_bits⟩ := c.d.def_ 4 (d := dd_law_bits) rfl
  have F_law_bits : Fun K "_law_bits" "_law_bits" s_law_bits (He.ga K "_law_bits") fd_law_bits := HeadG.funD_fun D_law_bits
  have b_law_bits : Binds K fd_law_bits ["_law_hand", "_law_many"] [] := FunD.bindsN D_law_bits fun _ _ _ _ _ _ us hl => match us, hl with | [_, _], _ => rfl
  obtain ⟨fd_law_counter, D_law_counter⟩ := c.d.def_ 5 (d := dd_law_counter) rfl
  have F_law_counter : Fun K "_law_counter" "_law_counter" s_law_counter (He.ga K "_law_counter") fd_law_counter := HeadG.funD_fun D_law_counter
  have b_law_counter : Binds K fd_law_counter ["_law_many"] [] := FunD.bindsN D_law_counter fun _ _ _ _ _ _ us hl => match us, hl with | [_], _ => rfl
  obtain ⟨fd_law_gate, D_law_gate⟩ := c.d.def_ 6 (d := dd_law_gate) rfl
  have F_law_gate : Fun K "_law_gate" "_law_gate" s_law_gate (He.ga K "_law_gate") fd_law_gate := HeadG.funD_fun D_law_gate
  have b_law_gate : Binds K fd_law_gate ["_law_d"] [] := FunD.bindsN D_law_gate fun _ _ _ _ _ _ us hl => match us, hl with | [_], _ => rfl
  obtain ⟨fd_law_alike, D_law_alike⟩ := c.d.def_ 7 (d := dd_law_alike) rfl
  have F_law_alike : Fun K "_law_alike" "_law_alike" s_law_alike (He.ga K "_law_alike") fd_law_alike := HeadG.funD_fun D_law_alike
  have b_law_alike : Binds K fd_law_alike ["_law_found", "_law_due"] [] := FunD.bindsN D_law_alike fun _ _ _ _ _ _ us hl => match us, hl with | [_, _], _ => rfl
  obtain ⟨fd_law_inner, D_law_inner⟩ := c.d.def_ 8 (d := dd_law_inner) rfl
  have F_law_inner : Fun K "_law_inner" "_law_inner" s_law_inner (He.ga K "_law_inner") fd_law_inner := HeadG.funD_fun D_law_inner
  have b_law_inner : Binds K fd_law_inner ["_law_t", "_law_hand"] [] := FunD.bindsN D_law_inner fun _ _ _ _ _ _ us hl => match us, hl with | [_, _], _ => rfl
  obtain ⟨fd_Gate_many, D_Gate_many⟩ := c.d.def_ 9 (d := dd_Gate_many) rfl
  have F_Gate_many : Fun K "many" "Gate.many" s_Gate_many (He.ma K (He.ga K "Gate") "many") fd_Gate_many := HeadG.funD_fun D_Gate_many
  have b_Gate_many : Binds K fd_Gate_many ["self"] [] := FunD.bindsN D_Gate_many fun _ _ _ _ _ _ us hl => match us, hl with | [_], _ => rfl
  obtain ⟨fd_can_be_put, D_can_be_put⟩ := c.d.def_ 10 (d := dd_can_be_put) rfl
  have F_can_be_put : Fun K "can_be_put" "can_be_put" s_can_be_put (He.ga K "can_be_put") fd_can_be_put := HeadG.funD_fun D_can_be_put
  have b_can_be_put : Binds K fd_can_be_put ["boxes", "box", "number"] [] := FunD.bindsN D_can_be_put fun _ _ _ _ _ _ us hl => match us, hl with | [_, _, _], _ => rfl
  obtain ⟨fd_can_be_read, D_can_be_read⟩ := c.d.def_ 11 (d := dd_can_be_read) rfl
  have F_can_be_read : Fun K "can_be_read" "can_be_read" s_can_be_read (He.ga K "can_be_read") fd_can_be_read := HeadG.funD_fun D_can_be_read
  have b_can_be_read : Binds K fd_can_be_read ["boxes", "box", "numbers"] [] := FunD.bindsN D_can_be_read fun _ _ _ _ _ _ us hl => match us, hl with | [_, _, _], _ => rfl
  obtain ⟨fd_can_be_step, D_can_be_step⟩ := c.d.def_ 12 (d := dd_can_be_step) rfl
  have F_can_be_step : Fun K "can_be_step" "can_be_step" s_can_be_step (He.ga K "can_be_step") fd_can_be_step := HeadG.funD_fun D_can_be_step
  have b_can_be_step : Binds K fd_can_be_step ["boxes", "many", "step"] [] := FunD.bindsN D_can_be_step fun _ _ _ _ _ _ us hl => match us, hl with | [_, _, _], _ => rfl
  obtain ⟨fd_places_of_in, D_places_of_in⟩ := c.d.def_ 13 (d := dd_places_of_in) rfl
  have F_places_of_in : Fun K "places_of_in" "places_of_in" s_places_of_in (He.ga K "places_of_in") fd_places_of_in := HeadG.funD_fun D_places_of_in
  have b_places_of_in : Binds K fd_places_of_in ["steps"] [] := FunD.bindsN D_places_of_in fun _ _ _ _ _ _ us hl => match us, hl with | [_], _ => rfl
  obtain ⟨fd_law_wrong_step, D_law_wrong_step⟩ := c.d.def_ 14 (d := dd_law_wrong_step) rfl
  have F_law_wrong_step : Fun K "_law_wrong_step" "_law_wrong_step" s_law_wrong_step (He.ga K "_law_wrong_step") fd_law_wrong_step := HeadG.funD_fun D_law_wrong_step
  have b_law_wrong_step : Binds K fd_law_wrong_step ["_law_d", "_law_t", "_law_hand", "_law_longer"] [] := FunD.bindsN D_law_wrong_step fun _ _ _ _ _ _ us hl => match us, hl with | [_, _, _, _], _ => rfl
  obtain ⟨fd_law_wrong_hand, D_law_wrong_hand⟩ := c.d.def_ 15 (d := dd_law_wrong_hand) rfl
  have F_law_wrong_hand : Fun K "_law_wrong_hand" "_law_wrong_hand" s_law_wrong_hand (He.ga K "_law_wrong_hand") fd_law_wrong_hand := HeadG.funD_fun D_law_wrong_hand
  have b_law_wrong_hand : Binds K fd_law_wrong_hand ["_law_d", "_law_t", "_law_hand"] [] := FunD.bindsN D_law_wrong_hand fun _ _ _ _ _ _ us hl => match us, hl with | [_, _, _], _ => rfl
  obtain ⟨fd_law_wrong, D_law_wrong⟩ := c.d.def_ 16 (d := dd_law_wrong) rfl
  have F_law_wrong : Fun K "_law_wrong" "_law_wrong" s_law_wrong (He.ga K "_law_wrong") fd_law_wrong := HeadG.funD_fun D_law_wrong
  have b_law_wrong : Binds K fd_law_wrong ["_law_d", "_law_t"] [] := FunD.bindsN D_law_wrong fun _ _ _ _ _ _ us hl => match us, hl with | [_, _], _ => rfl
  obtain ⟨fd_check_boxes, D_check_boxes⟩ := c.d.def_ 17 (d := dd_check_boxes) rfl
  have F_check_boxes : Fun K "check_boxes" "check_boxes" s_check_boxes (He.ga K "check_boxes") fd_check_boxes := HeadG.funD_fun D_check_boxes
  have b_check_boxes : Binds K fd_check_boxes ["boxes"] [] := FunD.bindsN D_check_boxes fun _ _ _ _ _ _ us hl => match us, hl with | [_], _ => rfl
  obtain ⟨fd_check_program, D_check_program⟩ := c.d.def_ 18 (d := dd_check_program) rfl
  have F_check_program : Fun K "check_program" "check_program" s_check_program (He.ga K "check_program") fd_check_program := HeadG.funD_fun D_check_program
  have b_check_program : Binds K fd_check_program ["boxes", "hand", "steps"] [] := FunD.bindsN D_check_program fun _ _ _ _ _ _ us hl => match us, hl with | [_, _, _], _ => rfl
  obtain ⟨fd_check_knock, D_check_knock⟩ := c.d.def_ 19 (d := dd_check_knock) rfl
  have F_check_knock : Fun K "check_knock" "check_knock" s_check_knock (He.ga K "check_knock") fd_check_knock := HeadG.funD_fun D_check_knock
  have b_check_knock : Binds K fd_check_knock ["hand", "knock", "steps"] [] := FunD.bindsN D_check_knock fun _ _ _ _ _ _ us hl => match us, hl with | [_, _, _], _ => rfl
  obtain ⟨fd_check_hands, D_check_hands⟩ := c.d.def_ 20 (d := dd_check_hands) rfl
  have F_check_hands : Fun K "check_hands" "check_hands" s_check_hands (He.ga K "check_hands") fd_check_hands := HeadG.funD_fun D_check_hands
  have b_check_hands : Binds K fd_check_hands ["boxes", "hands"] [] := FunD.bindsN D_check_hands fun _ _ _ _ _ _ us hl => match us, hl with | [_, _], _ => rfl
  obtain ⟨fd_law_dice, D_law_dice⟩ := c.d.def_ 21 (d := dd_law_dice) rfl
  have F_law_dice : Fun K "_law_dice" "_law_dice" Gh2.s_law_dice (He.ga K "_law_dice") fd_law_dice := HeadG.funD_fun D_law_dice
  have b_law_dice : Binds K fd_law_dice ["_law_script", "_law_k"] [] := FunD.bindsN D_law_dice fun _ _ _ _ _ _ us hl => match us, hl with | [_, _], _ => rfl
  obtain ⟨fd_Gate_init, D_Gate_init⟩ := c.d.def_ 22 (d := dd_Gate_init) rfl
  have F_Gate_init : Fun K "__init__" "Gate.__init__" s_Gate_init (He.ma K (He.ga K "Gate") "__init__") fd_Gate_init := HeadG.funD_fun D_Gate_init
  have b_Gate_init : Binds K fd_Gate_init ["self", "boxes", "hands"] [] := FunD.bindsN D_Gate_init fun _ _ _ _ _ _ us hl => match us, hl with | [_, _, _], _ => rfl
  obtain ⟨fd_Gate_boxes, D_Gate_boxes⟩ := c.d.def_ 23 (d := dd_Gate_boxes) rfl
  have F_Gate_boxes : Fun K "boxes" "Gate.boxes" s_Gate_boxes (He.ma K (He.ga K "Gate") "boxes") fd_Gate_boxes := HeadG.funD_fun D_Gate_boxes
  have b_Gate_boxes : Binds K fd_Gate_boxes ["self"] [] := FunD.bindsN D_Gate_boxes fun _ _ _ _ _ _ us hl => match us, hl with | [_], _ => rfl
  obtain ⟨fd_Gate_hands, D_Gate_hands⟩ := c.d.def_ 24 (d := dd_Gate_hands) rfl
  have F_Gate_hands : Fun K "hands" "Gate.hands" s_Gate_hands (He.ma K (He.ga K "Gate") "hands") fd_Gate_hands := HeadG.funD_fun D_Gate_hands
  have b_Gate_hands : Binds K fd_Gate_hands ["self"] [] := FunD.bindsN D_Gate_hands fun _ _ _ _ _ _ us hl => match us, hl with | [_], _ => rfl
  obtain ⟨fd_law_is, D_law_is⟩ := c.d.def_ 25 (d := dd_law_is) rfl
  have F_law_is : Fun K "_law_is" "_law_is" s_law_is (He.ga K "_law_is") fd_law_is := HeadG.funD_fun D_law_is
  have b_law_is : Binds K fd_law_is ["_law_e", "_law_word"] [] := FunD.bindsN D_law_is fun _ _ _ _ _ _ us hl => match us, hl with | [_, _], _ => rfl
  obtain ⟨fd_law_refused, D_law_refused⟩ := c.d.def_ 26 (d := dd_law_refused) rfl
  have F_law_refused : Fun K "_law_refused" "_law_refused" s_law_refused (He.ga K "_law_refused") fd_law_refused := HeadG.funD_fun D_law_refused
  have b_law_refused : Binds K fd_law_refused ["_law_bad"] [] := FunD.bindsN D_law_refused fun _ _ _ _ _ _ us hl => match us, hl with | [_], _ => rfl
  obtain ⟨fd_law, D_law⟩ := c.d.def_ 27 (d := dd_law) rfl
  have F_law : Fun K "law" "law" s_law (He.ga K "law") fd_law := HeadG.funD_fun D_law
  have b_law : Binds K fd_law ["_law_script"] [] := FunD.bindsN D_law fun _ _ _ _ _ _ us hl => match us, hl with | [_], _ => rfl
  refine ⟨fd_law, fun s v => FunD.bindsA (ps := ["_law_script"]) D_law (fun _ _ _ _ _ _ us hl => match us, hl with | [_], _ => rfl) s [v] rfl, fun base => ?_⟩
  have T : Txt K mg (He.ga K "Gate") := { len := (He.free_ok X G (c.d.fact 1 (f := .free "len") rfl)), tuple := (He.free_ok X G (c.d.fact 2 (f := .free "tuple") rfl)), list := (He.free_ok X G (c.d.fact 3 (f := .free "list") rfl)), range := (He.free_ok X G (c.d.fact 4 (f := .free "range") rfl)), int := (He.free_ok X G (c.d.fact 5 (f := .free "int") rfl)), abs := (He.free_ok X G (c.d.fact 6 (f := .free "abs") rfl)), enumerate := (He.free_ok X G (c.d.fact 7 (f := .free "enumerate") rfl)), zip := (He.free_ok X G (c.d.fact 8 (f := .free "zip") rfl)), isinstance := (He.free_ok X G (c.d.fact 9 (f := .free "isinstance") rfl)), all := (He.free_ok X G (c.d.fact 10 (f := .free "all") rfl)), bool := (He.free_ok X G (c.d.fact 11 (f := .free "bool") rfl)), str := (He.free_ok X G (c.d.fact 12 (f := .free "str") rfl)), dict := (He.free_ok X G (c.d.fact 13 (f := .free "dict") rfl)), clGate := (He.cls_ok (c.d.fact 14 (f := .cls "Gate") rfl)), noGate_pairs := (He.noat_ok (c.d.fact 15 (f := .noat "Gate" "pairs") rfl)), noGate_programs := (He.noat_ok (c.d.fact 16 (f := .noat "Gate" "programs") rfl)), noGate_knocks := (He.noat_ok (c.d.fact 17 (f := .noat "Gate" "knocks") rfl)), noGate_insides := (He.noat_ok (c.d.fact 18 (f := .noat "Gate" "insides") rfl)), c_MOST_BOXES := (He.int_ok X G (c.d.fact 19 (f := .int "MOST_BOXES" 12) rfl)), c_MOST_IN_BOX := (He.int_ok X G (c.d.fact 20 (f := .int "MOST_IN_BOX" 9) rfl)), c_MOST_HANDS := (He.int_ok X G (c.d.fact 21 (f := .int "MOST_HANDS" 4) rfl)), c_FEWEST_STEPS := (He.int_ok X G (c.d.fact 22 (f := .int "FEWEST_STEPS" 2) rfl)), c_MOST_STEPS := (He.int_ok X G (c.d.fact 23 (f := .int "MOST_STEPS" 24) rfl)), d_IN := (gB_ok X G (c.more 13 (b := gB "IN") rfl)) }
  have T2 : Gh2.Txt K mg := { len := (He.free_ok X G (c.d.fact 1 (f := .free "len") rfl)), tuple := (He.free_ok X G (c.d.fact 2 (f := .free "tuple") rfl)), list := (He.free_ok X G (c.d.fact 3 (f := .free "list") rfl)), range := (He.free_ok X G (c.d.fact 4 (f := .free "range") rfl)), int := (He.free_ok X G (c.d.fact 5 (f := .free "int") rfl)), abs := (He.free_ok X G (c.d.fact 6 (f := .free "abs") rfl)), enumerate := (He.free_ok X G (c.d.fact 7 (f := .free "enumerate") rfl)), zip := (He.free_ok X G (c.d.fact 8 (f := .free "zip") rfl)), isinstance := (He.free_ok X G (c.d.fact 9 (f := .free "isinstance") rfl)), all := (He.free_ok X G (c.d.fact 10 (f := .free "all") rfl)) }
  have G_law_off : Gd P w K mg base CX0 1 "_law_off" ["_law_d", "_law_most"] (spD 2 P_off) (He.ga K "_law_off") fd_law_off := ⟨Gh2.ok_law_off F_law_off T2 , (He.glo_ok X G (c.d.fact 24 (f := .glo "_law_off") rfl)), F_law_off.kp, b_law_off⟩
  have G_law_step : Gd P w K mg base CX0 2 "_law_step" ["_law_d", "_law_boxes", "_law_many"] (spD 3 P_step) (He.ga K "_law_step") fd_law_step := ⟨ok_law_step F_law_step T G_law_off, (He.glo_ok X G (c.d.fact 25 (f := .glo "_law_step") rfl)), F_law_step.kp, b_law_step⟩
  have G_law_program : Gd P w K mg base CX0 3 "_law_program" ["_law_d", "_law_boxes", "_law_most"] (spD 3 P_program) (He.ga K "_law_program") fd_law_program := ⟨ok_law_program F_law_program T G_law_off G_law_step, (He.glo_ok X G (c.d.fact 26 (f := .glo "_law_program") rfl)), F_law_program.kp, b_law_program⟩
  have G_law_pair : Gd P w K mg base CX0 1 "_law_pair" ["_law_side"] (spD 1 P_pair) (He.ga K "_law_pair") fd_law_pair := ⟨ok_law_pair F_law_pair T , (He.glo_ok X G (c.d.fact 27 (f := .glo "_law_pair") rfl)), F_law_pair.kp, b_law_pair⟩
  have G_law_bits : Gd P w K mg base CX0 1 "_law_bits" ["_law_hand", "_law_many"] (spD 2 P_bits) (He.ga K "_law_bits") fd_law_bits := ⟨ok_law_bits F_law_bits T , (He.glo_ok X G (c.d.fact 28 (f := .glo "_law_bits") rfl)), F_law_bits.kp, b_law_bits⟩
  have G_law_counter : Gd P w K mg base CX0 1 "_law_counter" ["_law_many"] (spD 1 P_counter) (He.ga K "_law_counter") fd_law_counter := ⟨ok_law_counter F_law_counter T , (He.glo_ok X G (c.d.fact 29 (f := .glo "_law_counter") rfl)), F_law_counter.kp, b_law_counter⟩
  have G_law_gate : Gd P w K mg base CX0 4 "_law_gate" ["_law_d"] (spD 1 P_gate) (He.ga K "_law_gate") fd_law_gate := ⟨ok_law_gate F_law_gate T G_law_off G_law_step G_law_program G_law_pair G_law_bits G_law_counter, (He.glo_ok X G (c.d.fact 30 (f := .glo "_law_gate") rfl)), F_law_gate.kp, b_law_gate⟩
  have G_law_alike : Gd P w K mg base CX0 7 "_law_alike" ["_law_found", "_law_due"] (spD 2 (P_alike 7)) (He.ga K "_law_alike") fd_law_alike := ⟨ok_law_alike F_law_alike T (He.glo_ok X G (c.d.fact 31 (f := .glo "_law_alike") rfl)) F_law_alike.kp b_law_alike 7, (He.glo_ok X G (c.d.fact 31 (f := .glo "_law_alike") rfl)), F_law_alike.kp, b_law_alike⟩
  have G_law_inner : Gd P w K mg base CX0 1 "_law_inner" ["_law_t", "_law_hand"] (spD 2 P_inner) (He.ga K "_law_inner") fd_law_inner := ⟨ok_law_inner F_law_inner T , (He.glo_ok X G (c.d.fact 32 (f := .glo "_law_inner") rfl)), F_law_inner.kp, b_law_inner⟩
  have G_Gate_many : Md P w K mg base CX0 1 (He.ga K "Gate") "many" ["self"] (spD 1 (PP_Gate_many (He.ga K "Gate"))) (He.ma K (He.ga K "Gate") "many") fd_Gate_many := ⟨ok_Gate_many F_Gate_many T, (He.meth_ok (c.d.fact 33 (f := .meth "Gate" "many") rfl)), b_Gate_many⟩
  have G_can_be_put : Gd P w K mg base CX0 1 "can_be_put" ["boxes", "box", "number"] (spD 3 PP_can_be_put) (He.ga K "can_be_put") fd_can_be_put := ⟨ok_can_be_put F_can_be_put T , (He.glo_ok X G (c.d.fact 34 (f := .glo "can_be_put") rfl)), F_can_be_put.kp, b_can_be_put⟩
  have G_can_be_read : Gd P w K mg base CX0 1 "can_be_read" ["boxes", "box", "numbers"] (spD 3 PP_can_be_read) (He.ga K "can_be_read") fd_can_be_read := ⟨ok_can_be_read F_can_be_read T , (He.glo_ok X G (c.d.fact 35 (f := .glo "can_be_read") rfl)), F_can_be_read.kp, b_can_be_read⟩
  have G_can_be_step : Gd P w K mg base CX0 2 "can_be_step" ["boxes", "many", "step"] (spD 3 PP_can_be_step) (He.ga K "can_be_step") fd_can_be_step := ⟨ok_can_be_step F_can_be_step T G_can_be_put G_can_be_read, (He.glo_ok X G (c.d.fact 36 (f := .glo "can_be_step") rfl)), F_can_be_step.kp, b_can_be_step⟩
  have G_places_of_in : Gd P w K mg base CX0 1 "places_of_in" ["steps"] (spD 1 PP_places_of_in) (He.ga K "places_of_in") fd_places_of_in := ⟨ok_places_of_in F_places_of_in T , (He.glo_ok X G (c.d.fact 37 (f := .glo "places_of_in") rfl)), F_places_of_in.kp, b_places_of_in⟩
  have G_law_wrong_step : Gd P w K mg base CX0 2 "_law_wrong_step" ["_law_d", "_law_t", "_law_hand", "_law_longer"] (spD 4 P_wrong_step) (He.ga K "_law_wrong_step") fd_law_wrong_step := ⟨ok_law_wrong_step F_law_wrong_step T G_law_off, (He.glo_ok X G (c.d.fact 38 (f := .glo "_law_wrong_step") rfl)), F_law_wrong_step.kp, b_law_wrong_step⟩
  have G_law_wrong_hand : Gd P w K mg base CX0 3 "_law_wrong_hand" ["_law_d", "_law_t", "_law_hand"] (spD 3 P_wrong_hand) (He.ga K "_law_wrong_hand") fd_law_wrong_hand := ⟨ok_law_wrong_hand F_law_wrong_hand T G_law_off G_law_inner G_law_wrong_step, (He.glo_ok X G (c.d.fact 39 (f := .glo "_law_wrong_hand") rfl)), F_law_wrong_hand.kp, b_law_wrong_hand⟩
  have G_law_wrong : Gd P w K mg base CX0 4 "_law_wrong" ["_law_d", "_law_t"] (spD 2 P_wrong) (He.ga K "_law_wrong") fd_law_wrong := ⟨ok_law_wrong F_law_wrong T G_law_off G_law_wrong_hand, (He.glo_ok X G (c.d.fact 40 (f := .glo "_law_wrong") rfl)), F_law_wrong.kp, b_law_wrong⟩
  have G_Gate_boxes : Md P w K mg base CX0 1 (He.ga K "Gate") "boxes" ["self"] (spW 1 (PW_boxes (He.ga K "Gate"))) (He.ma K (He.ga K "Gate") "boxes") fd_Gate_boxes := ⟨ok_Gate_boxes F_Gate_boxes T, (He.meth_ok (c.d.fact 41 (f := .meth "Gate" "boxes") rfl)), b_Gate_boxes⟩
  have G_Gate_hands : Md P w K mg base CX0 1 (He.ga K "Gate") "hands" ["self"] (spW 1 (PW_hands (He.ga K "Gate"))) (He.ma K (He.ga K "Gate") "hands") fd_Gate_hands := ⟨ok_Gate_hands F_Gate_hands T, (He.meth_ok (c.d.fact 42 (f := .meth "Gate" "hands") rfl)), b_Gate_hands⟩
  have G_dice : Gd P w K mg base CX0 1 "_law_dice" ["_law_script", "_law_k"] (spDice K) (He.ga K "_law_dice") fd_law_dice := ⟨Gh2.ok_law_dice F_law_dice T2, (He.glo_ok X G (c.d.fact 43 (f := .glo "_law_dice") rfl)), F_law_dice.kp, b_law_dice⟩
  obtain ⟨fd_BG, F_BG⟩ := HeadC.funC_of (c.cdef 0 (p := ("BadGate", some "__init__")) (x := "__init__") (q := "BadGate.__init__") (st := s_BadGate_init) rfl) (c.more 0 (b := fun K => HeadC.okC K ("BadGate", some "__init__") "BadGate.__init__") rfl)
  have b_BG : Binds K fd_BG ["self", "why", "hand", "step"] [] := HeadC.funC_binds F_BG fun _ _ _ _ _ us hl => match us, hl with | [_, _, _, _], _ => rfl
  have S_BG := HeadC.supB_ok hfile hsup (c.more 1 (b := fun K => HeadC.supB K (He.ga K "BadGate") ("BadGate", some "__init__") "self" fileN) rfl)
  have O_BG : FnOk P w K mg base CX0 1 (He.fAd K ("BadGate", some "__init__")) fd_BG ["self", "why", "hand", "step"] (spErr (He.ga K "BadGate")) := ok_BadGate F_BG S_BG (He.free_ok X G (c.d.fact 47 (f := .free "super") rfl)) (He.noat_ok (c.d.fact 44 (f := .noat "BadGate" "why") rfl)) (He.noat_ok (c.d.fact 45 (f := .noat "BadGate" "hand") rfl)) (He.noat_ok (c.d.fact 46 (f := .noat "BadGate" "step") rfl))
  have B_BG : BGd P w K mg base (He.ga K "BadGate") (He.fAd K ("BadGate", some "__init__")) fd_BG "BadGate" := ⟨S_BG.ox, He.eqO_ok (c.more 2 (b := fun K => He.eqO (PySem.W.findIn K (.ref (He.ga K "BadGate")) "__init__") (some (some (.ref (He.fAd K ("BadGate", some "__init__")))))) rfl), of_decide_eq_true (c.more 3 (b := fun K => decide (PySem.W.typeIn K (.ref (He.fAd K ("BadGate", some "__init__"))) = some (.type "function"))) rfl), O_BG, b_BG, (He.glo_ok X G (c.d.fact 48 (f := .glo "BadGate") rfl))⟩
  have G_check_boxes : Gd P w K mg base (L2N.CX P w) 3 "check_boxes" ["boxes"] (spX 1 (PX_check_boxes (He.ga K "BadGate"))) (He.ga K "check_boxes") fd_check_boxes := ⟨okX_check_boxes F_check_boxes T  B_BG, (He.glo_ok X G (c.d.fact 49 (f := .glo "check_boxes") rfl)), F_check_boxes.kp, b_check_boxes⟩
  have G_check_program : Gd P w K mg base (L2N.CX P w) 3 "check_program" ["boxes", "hand", "steps"] (spX 3 (PX_check_program (He.ga K "BadGate"))) (He.ga K "check_program") fd_check_program := ⟨okX_check_program F_check_program T G_can_be_step B_BG, (He.glo_ok X G (c.d.fact 50 (f := .glo "check_program") rfl)), F_check_program.kp, b_check_program⟩
  have G_check_knock : Gd P w K mg base (L2N.CX P w) 3 "check_knock" ["hand", "knock", "steps"] (spX 3 (PX_check_knock (He.ga K "BadGate"))) (He.ga K "check_knock") fd_check_knock := ⟨okX_check_knock F_check_knock T G_places_of_in B_BG, (He.glo_ok X G (c.d.fact 51 (f := .glo "check_knock") rfl)), F_check_knock.kp, b_check_knock⟩
  have G_check_hands : Gd P w K mg base (L2N.CX P w) 4 "check_hands" ["boxes", "hands"] (spX 2 (PX_check_hands (He.ga K "BadGate"))) (He.ga K "check_hands") fd_check_hands := ⟨okX_check_hands F_check_hands T G_check_program G_check_knock B_BG, (He.glo_ok X G (c.d.fact 52 (f := .glo "check_hands") rfl)), F_check_hands.kp, b_check_hands⟩
  have GX := okX_Gate_init (Pr := P) (w := w) (mg := mg) (base := base) F_Gate_init T G_check_boxes G_check_hands G_places_of_in
  have GN := (okN_Gate_init (Pr := P) (w := w) (mg := mg) (base := base) F_Gate_init T G_check_boxes G_check_hands G_places_of_in).calmI
  have ET : ETx mg ⟨He.ga K "BadGate", He.ga K "NoHand", He.ga K "TooMany", He.ga K "TwoWithin", He.ga K "OtherGate", He.ga K "BadText"⟩ := { x_BadGate := (He.glo_ok X G (c.d.fact 48 (f := .glo "BadGate") rfl)), x_NoHand := (He.glo_ok X G (c.d.fact 53 (f := .glo "NoHand") rfl)), x_TooMany := (He.glo_ok X G (c.d.fact 54 (f := .glo "TooMany") rfl)), x_TwoWithin := (He.glo_ok X G (c.d.fact 55 (f := .glo "TwoWithin") rfl)), x_OtherGate := (He.glo_ok X G (c.d.fact 56 (f := .glo "OtherGate") rfl)), x_BadText := (He.glo_ok X G (c.d.fact 57 (f := .glo "BadText") rfl)), ValueError := (He.free_ok X G (c.d.fact 58 (f := .free "ValueError") rfl)) }
  have C_gate : IsC K ⟨He.ga K "BadGate", He.ga K "NoHand", He.ga K "TooMany", He.ga K "TwoWithin", He.ga K "OtherGate", He.ga K "BadText"⟩ (He.ga K "BadGate") true false false false false false := { c := excCB_ok (c.more 11 (b := fun K => excCB K (He.ga K "BadGate")) rfl), k_ValueError := (of_decide_eq_true (c.more 4 (b := fun K => decide (PySem.W.kitOne K (.ref (He.ga K "BadGate")) (.type "ValueError") = some true)) rfl)), k_BadGate := (of_decide_eq_true (c.more 5 (b := fun K => decide (PySem.W.kitOne K (.ref (He.ga K "BadGate")) (.ref (He.ga K "BadGate")) = some true)) rfl)), k_NoHand := (of_decide_eq_true (c.more 6 (b := fun K => decide (PySem.W.kitOne K (.ref (He.ga K "BadGate")) (.ref (He.ga K "NoHand")) = some false)) rfl)), k_TooMany := (of_decide_eq_true (c.more 7 (b := fun K => decide (PySem.W.kitOne K (.ref (He.ga K "BadGate")) (.ref (He.ga K "TooMany")) = some false)) rfl)), k_TwoWithin := (of_decide_eq_true (c.more 8 (b := fun K => decide (PySem.W.kitOne K (.ref (He.ga K "BadGate")) (.ref (He.ga K "TwoWithin")) = some false)) rfl)), k_OtherGate := (of_decide_eq_true (c.more 9 (b := fun K => decide (PySem.W.kitOne K (.ref (He.ga K "BadGate")) (.ref (He.ga K "OtherGate")) = some false)) rfl)), k_BadText := (of_decide_eq_true (c.more 10 (b := fun K => decide (PySem.W.kitOne K (.ref (He.ga K "BadGate")) (.ref (He.ga K "BadText")) = some false)) rfl)) }
  have FI : ∀ dd, FnE P w K mg base CX0 1 (He.ga K "_law_is") fd_law_is ["_law_e", "_law_word"] (fun p => L2N.Zn (.ref (He.ga K "BadGate")) (some dd) p.2) fun a => spO dd 2 (P_is a "gate") := fun dd => ok_law_isO_gate (cG := He.ga K "Gate") F_law_is T ET C_gate
  have GH : GdH P w K mg base 2 "_law_alike" ["_law_found", "_law_due"] (spD 2 (P_alike 2)) (He.ga K "_law_alike") fd_law_alike := ⟨okH_law_alike F_law_alike T (He.glo_ok X G (c.d.fact 31 (f := .glo "_law_alike") rfl)) F_law_alike.kp b_law_alike 2, (He.glo_ok X G (c.d.fact 31 (f := .glo "_law_alike") rfl)), F_law_alike.kp, b_law_alike⟩
  have G_law_refused : Gd P w K mg base CX0 7 "_law_refused" ["_law_bad"] (spD 1 P_refused1) (He.ga K "_law_refused") fd_law_refused := ⟨ok_law_refused1 (ea := ⟨He.ga K "BadGate", He.ga K "NoHand", He.ga K "TooMany", He.ga K "TwoWithin", He.ga K "OtherGate", He.ga K "BadText"⟩) F_law_refused (He.glo_ok X G (c.d.fact 59 (f := .glo "GateError") rfl)) (He.exm_ok (c.d.fact 60 (f := .exm "BadGate" "GateError" true) rfl)) (xfB_ok (c.more 12 (b := fun K => xfB K (He.ga K "BadGate")) rfl)) (He.noat_ok (c.d.fact 44 (f := .noat "BadGate" "why") rfl)) (He.noat_ok (c.d.fact 45 (f := .noat "BadGate" "hand") rfl)) (He.noat_ok (c.d.fact 46 (f := .noat "BadGate" "step") rfl)) (He.mkr_ok (c.d.fact 61 (f := .mkr "Gate") rfl)) (He.glo_ok X G (c.d.fact 62 (f := .glo "Gate") rfl)) GX b_Gate_init FI (He.glo_ok X G (c.d.fact 63 (f := .glo "_law_is") rfl)) F_law_is.kp b_law_is GH, (He.glo_ok X G (c.d.fact 64 (f := .glo "_law_refused") rfl)), F_law_refused.kp, b_law_refused⟩
  exact ok_law F_law T G_law_off G_law_gate G_law_alike G_law_refused G_law_wrong G_Gate_many G_Gate_boxes G_Gate_hands (He.mkr_ok (c.d.fact 61 (f := .mkr "Gate") rfl)) (He.glo_ok X G (c.d.fact 62 (f := .glo "Gate") rfl)) GN b_Gate_init G_dice
end Gh
open PySem PySem.W PySem.Calls PyProof.Rows
theorem PySem.Challenge.cw_gatehands_k01_gates_refused_holds : PySem.Challenge.rw_gatehands_k01_gates_refused.Holds := by
  w_on; o_law
  refine HandSHeadRun.head_any (r := OpenLaw.row PySem.Challenge.rw_gatehands_k01_gates_refused) (q := view (OpenLaw.row PySem.Challenge.rw_gatehands_k01_gates_refused).prog [40]) (H := Gh.hk) (ob := Gh.ob) (M := 8000) (loose := Gh.names) (d := HandSHeadRun.topDef (OpenLaw.row PySem.Challenge.rw_gatehands_k01_gates_refused).prog 40) (kwd := []) Gh.ob_eq
    (by kernel_rfl) (fun s => by kernel_rfl) Gh.run (by kernel_rfl) (by kernel_rfl) (by kernel_rfl) (by rfl) (by first | assumption | decide +kernel) (by decide +kernel) ⟨rfl, rfl, rfl, rfl, rfl, by decide +kernel⟩ ?hw ?hc
  case hw => w_witness2
  case hc =>
    refine L2.walk_ofE (l := PySem.Challenge.rw_gatehands_k01_gates_refused) (n := 63) (k := 8) (x := "_law_script") (CX := L2.CX0) rfl (by decide) (by kernel_rfl) ⟨rfl, by decide, by decide⟩ ?F (fun _ _ _ _ z => z)
    intro w mg fa h Y G hmg0
    obtain ⟨K, KX, c⟩ := Y
    have hmg : mg ("law" : PySem.Str) = some (.ref fa) := by
      have e : (HandSHeadRun.topDef (OpenLaw.row PySem.Challenge.rw_gatehands_k01_gates_refused).prog 40).name = ("law" : PySem.Str) := by kernel_rfl
      rw [← e]
      exact hmg0
    obtain ⟨fd, hb, hF⟩ := Gh.joined (P := (PySem.Challenge.rw_gatehands_k01_gates_refused).prog) (w := w) (by rfl) (by first | rfl | decide +kernel) KX G c
    have e := hmg.symm.trans (He.glo_ok KX G (c.d.fact 0 (f := .glo "law") rfl))
    cases e
    exact ⟨K, fd, Gh.spLaw K, KX, hb, fun H a ns hl _ hS => ⟨a, ns, rfl, hS, hl, fun _ => rfl⟩, fun base _ _ => hF base⟩

