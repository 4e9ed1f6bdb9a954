import PyProof.Rows.All
import Wide.All
import OpenK.AllK
import Wide.FinOn
import HandS.ForMost
import HandS.ForExc
import HandS.Defaults
import HandS.IsInst
import HandS.TryMany
import HandS.ExcInit
import HandS.HeadHook2
import HandS.DictComp
import HandS.Head2
import HandS.HeadEnd
import HandS.Deep
import HandS.Style
import HandS.Flow
import HandS.Conv
import HandS.More
import HandS.SortRule
import HandS.NoneIn
import HandS.Small
import HandS.Finally
import HandS.SortOrd
import KE.KDictWalk
import HandS.SortInts
import OpenK.KOwn
import HandS.ExcField
import HandS.SetBool
import HandS.TupSets
import HandS.Strs
import KE.GoesEnum
import HandS.TupAny
import HandS.TupMul
import HandS.TupLe
import HandS.RaiseMore
import HandS.Text
import KE.KExcIs
import HandS.OwnEq
import HandS.DeepEq
import PySem.Challenge.RW_towerup_k27_free_and_only
set_option Elab.async false
set_option linter.all false
set_option maxRecDepth 100000
set_option maxHeartbeats 1000001
namespace L2.TT
open PySem PyProof.Rows PySem.Spec

/-- plain data -/
inductive D where
  | non | bl (b : Bool) | int (i : Int) | str (x : Str)
  | lst (ds : List D) | tup (ds : List D)
  | dic (ks : List Key) (ds : List D)
  | kl (ds : List D)
  | obj (c : Str) (ns : List Str) (ds : List D)
  | dit (ks : List (List Key)) (ds : List D)

mutual
inductive Rep (K : PySem.W.Frag) (B : Hp) : V → D → Prop
  | non : Rep K B .non .non
  | bl (b : Bool) : Rep K B (.bl b) (.bl b)
  | int (i : Int) : Rep K B (.int i) (.int i)
  | str (x : Str) : Rep K B (.str x) (.str x)
  | lst {a : Addr} {xs : List V} {ds : List D} (h : B a = some (.lst xs)) (r : Reps K B xs ds) : Rep K B (.ref a) (.lst ds)
  | kl {a : Addr} {xs : List V} {ds : List D} (h : SqL K B a xs) (r : Reps K B xs ds) : Rep K B (.ref a) (.kl ds)
  | tup {a : Addr} {xs : List V} {ds : List D} (h : B a = some (.tup xs)) (r : Reps K B xs ds) : Rep K B (.ref a) (.tup ds)
  | dic {a : Addr} {kvs : List (Key × V)} {ks : List Key} {ds : List D} (h : ∃ od, B a = some (.frz od (.dK kvs))) (e : kvs.map (·.1) = ks) (r : Reps K B (kvs.map (·.2)) ds) : Rep K B (.ref a) (.dic ks ds)
  | dit {a : Addr} {kvs : List (List Key × V)} {ks : List (List Key)} {ds : List D} (h : ∃ od, B a = some (.frz od (.dT kvs))) (e : kvs.map (·.1) = ks) (r : Reps K B (kvs.map (·.2)) ds) : Rep K B (.ref a) (.dit ks ds)
  | obj {a dx : Addr} {fs : List (Str × V)} {c : Str} {ns : List Str} {ds : List D} (h : B a = some (.ins (He.ga K c) dx fs)) (e : fs.map (·.1) = ns) (r : Reps K B (fs.map (·.2)) ds) : Rep K B (.ref a) (.obj c ns ds)
inductive Reps (K : PySem.W.Frag) (B : Hp) : List V → List D → Prop
  | nil : Reps K B [] []
  | cons {v : V} {d : D} {vs : List V} {ds : List D} (h : Rep K B v d) (t : Reps K B vs ds) : Reps K B (v :: vs) (d :: ds)
end

section
variable {K : PySem.W.Frag} {B B' : Hp}
theorem same_rd {a : Addr} {u : HO} (s : Same B B') (h : Rd B a u) : Rd B' a u := by
  rcases h with h | ⟨o, h⟩
  · exact .inl (s _ _ h)
  · exact .inr ⟨o, s _ _ h⟩
theorem same_sqL {a : Addr} {xs : List V} (s : Same B B') (h : SqL K B a xs) : SqL K B' a xs := by
  rcases h with h | h
  · exact .inl (same_rd s h)
  · exact .inr h
theorem same_sqT {a : Addr} {xs : List V} (s : Same B B') (h : SqT K B a xs) : SqT K B' a xs := by
  rcases h with h | h
  · exact .inl (same_rd s h)
  · exact .inr h
mutual
theorem Rep.mono (s : Same B B') : ∀ {v : V} {d : D}, Rep K B v d → Rep K B' v d
  | _, _, .non => .non
  | _, _, .bl b => .bl b
  | _, _, .int i => .int i
  | _, _, .str x => .str x
  | _, _, .lst h r => .lst (s _ _ h) (Reps.mono s r)
  | _, _, .kl h r => .kl (same_sqL s h) (Reps.mono s r)
  | _, _, .tup h r => .tup (s _ _ h) (Reps.mono s r)
  | _, _, .dic h e r => .dic (Exists.imp (fun _ q => s _ _ q) h) e (Reps.mono s r)
  | _, _, .dit h e r => .dit (Exists.imp (fun _ q => s _ _ q) h) e (Reps.mono s r)
  | _, _, .obj h e r => .obj (s _ _ h) e (Reps.mono s r)
theorem Reps.mono (s : Same B B') : ∀ {vs : List V} {ds : List D}, Reps K B vs ds → Reps K B' vs ds
  | _, _, .nil => .nil
  | _, _, .cons h t => .cons (Rep.mono s h) (Reps.mono s t)
end
theorem Reps.length {vs : List V} {ds : List D} : Reps K B vs ds → vs.length = ds.length
  | .nil => rfl
  | .cons _ t => congrArg Nat.succ (Reps.length t)
theorem Reps.get : ∀ {vs : List V} {ds : List D} {i : Nat} {d : D}, Reps K B vs ds → ds[i]? = some d → ∃ v, vs[i]? = some v ∧ Rep K B v d
  | _, _, 0, _, .cons h _, e => by simp at e; subst e; exact ⟨_, rfl, h⟩
  | _, _, i + 1, _, .cons _ t, e => by
    obtain ⟨v, h1, h2⟩ := Reps.get (i := i) t (by simpa using e)
    exact ⟨v, by simpa using h1, h2⟩
theorem Reps.get' : ∀ {vs : List V} {ds : List D} {i : Nat} {v : V}, Reps K B vs ds → vs[i]? = some v → ∃ d, ds[i]? = some d ∧ Rep K B v d
  | _, _, 0, _, .cons h _, e => by simp at e; subst e; exact ⟨_, rfl, h⟩
  | _, _, i + 1, _, .cons _ t, e => by
    obtain ⟨v, h1, h2⟩ := Reps.get' (i := i) t (by simpa using e)
    exact ⟨v, by simpa using h1, h2⟩
theorem Reps.append : ∀ {vs us : List V} {ds es : List D}, Reps K B vs ds → Reps K B us es → Reps K B (vs ++ us) (ds ++ es)
  | _, _, _, _, .nil, s => s
  | _, _, _, _, .cons h t, s => .cons h (Reps.append t s)
theorem Reps.set {v : V} {d : D} (h : Rep K B v d) : ∀ {vs : List V} {ds : List D} (i : Nat), Reps K B vs ds → Reps K B (vs.set i v) (ds.set i d)
  | _, _, _, .nil => .nil
  | _, _, 0, .cons _ t => .cons h t
  | _, _, i + 1, .cons q t => .cons q (Reps.set h i t)
theorem Reps.one {v : V} {d : D} (h : Rep K B v d) : Reps K B [v] [d] := .cons h .nil
theorem Reps.take : ∀ {vs : List V} {ds : List D} (n : Nat), Reps K B vs ds → Reps K B (vs.take n) (ds.take n)
  | _, _, 0, _ => .nil
  | _, _, _ + 1, .nil => .nil
  | _, _, n + 1, .cons r t => .cons r (Reps.take n t)
theorem Reps.drop : ∀ {vs : List V} {ds : List D} (n : Nat), Reps K B vs ds → Reps K B (vs.drop n) (ds.drop n)
  | _, _, 0, r => r
  | _, _, _ + 1, .nil => .nil
  | _, _, n + 1, .cons _ t => Reps.drop n t
end

/-- a slot: nothing known | frozen data | owned here | the pinned parameter | a caught error | a dict that is walked -/
inductive Sl where
  | no | fz (d : D) | ow (d : D) | pn (d : D) | ex (c : Str) (fs : List (Str × D)) | lk (ks : List Key) (ds : List D)

structure Pm where
  pa : Addr
  ea : Addr
  ed : Option Addr
  la : Addr
  ec : Str
/-- the fields of a caught error -/
def XdAt (B : Hp) (dd : Option Addr) (fv : List (Str × V)) : Prop := match dd with
  | none => fv = []
  | some d => B d = some (.xd fv)
theorem XdAt.mono {B B' : Hp} {dd : Option Addr} {fv : List (Str × V)} (s : Same B B') (h : XdAt B dd fv) : XdAt B' dd fv := by
  cases dd with
  | none => exact h
  | some d => exact s _ _ h
def NonO (H : Hp) (dd : Option Addr) : Prop := ∀ x, dd = some x → H x = none

def OwnRep (K : PySem.W.Frag) (B H : Hp) (p : Addr) : D → Prop
  | .lst ds => ∃ xs, H p = some (.lst xs) ∧ Reps K B xs ds
  | .dic ks ds => ∃ kvs : List (Key × V), H p = some (.dK kvs) ∧ kvs.map (·.1) = ks ∧ Reps K B (kvs.map (·.2)) ds
  | .obj c ns ds => ∃ dx fs, H p = some (.ins (He.ga K c) dx fs) ∧ fs.map (·.1) = ns ∧ Reps K B (fs.map (·.2)) ds
  | .dit ks ds => ∃ kvs : List (List Key × V), H p = some (.dT kvs) ∧ kvs.map (·.1) = ks ∧ Reps K B (kvs.map (·.2)) ds
  | _ => False
/-- the slot owns what stands at p -/
def OwnAt (Γ : List Sl) (σ : St) (p : Addr) : Prop := ∃ (i : Nat) (d : D), (Γ[i]? = some (.ow d) ∨ Γ[i]? = some (.pn d)) ∧ σ[i]? = some (some (.ref p))

def LkRep (K : PySem.W.Frag) (d : Addr) (B : Hp) (σ : St) (i : Nat) (ks : List Key) (ds : List D) : Prop := ∃ (od : Obj) (kvs : List (Key × V)), σ[i]? = some (some (.ref d)) ∧ B d = some (.frz od (.dK kvs)) ∧ kvs.map (·.1) = ks ∧ Reps K B (kvs.map (·.2)) ds
theorem LkRep.mono {K : PySem.W.Frag} {d : Addr} {B B' : Hp} {σ σ' : St} {i : Nat} {ks : List Key} {ds : List D} (s : Same B B') (e : σ'[i]? = σ[i]?) (h : LkRep K d B σ i ks ds) : LkRep K d B' σ' i ks ds := by
  obtain ⟨od, kvs, h1, h2, h3, h4⟩ := h
  exact ⟨od, kvs, e.trans h1, s _ _ h2, h3, h4.mono s⟩
structure Stt (K : PySem.W.Frag) (π : Pm) (B H : Hp) (σ : St) (Γ : List Sl) : Prop where
  sub : Same B H
  len : Γ.length = σ.length
  fz : ∀ (i : Nat) (d : D), Γ[i]? = some (.fz d) → ∃ v, σ[i]? = some (some v) ∧ Rep K B v d
  ow : ∀ (i : Nat) (d : D), (Γ[i]? = some (.ow d) ∨ Γ[i]? = some (.pn d)) → ∃ p, σ[i]? = some (some (.ref p)) ∧ B p = none ∧ OwnRep K B H p d
  pn : ∀ (i : Nat) (d : D), Γ[i]? = some (.pn d) → σ[i]? = some (some (.ref π.pa))
  ex : ∀ (i : Nat) (c : Str) (fs : List (Str × D)), Γ[i]? = some (.ex c fs) → c = π.ec ∧ σ[i]? = some (some (.ref π.ea)) ∧ ∃ fv, XdAt B π.ed fv ∧ fv.map (·.1) = fs.map (·.1) ∧ Reps K B (fv.map (·.2)) (fs.map (·.2))
  inj : ∀ (i j : Nat) (p : Addr) (d e : D), (Γ[i]? = some (.ow d) ∨ Γ[i]? = some (.pn d)) → (Γ[j]? = some (.ow e) ∨ Γ[j]? = some (.pn e)) → σ[i]? = some (some (.ref p)) → σ[j]? = some (some (.ref p)) → i = j
  lk : ∀ (i : Nat) (ks : List Key) (ds : List D), Γ[i]? = some (.lk ks ds) → LkRep K π.la B σ i ks ds

/-- something stands there, no tuple -/
def Nt (H : Hp) (a : Addr) : Prop := ∃ o, H a = some o ∧ ∀ xs, o ≠ .tup xs
/-- from (σ, Γ, B, H) to (σ', Γ', B', H') -/
structure Nx (K : PySem.W.Frag) (π : Pm) (σ : St) (Γ : List Sl) (B H : Hp) (σ' : St) (Γ' : List Sl) (B' H' : Hp) : Prop where
  st : Stt K π B' H' σ' Γ'
  bb : Same B B'
  fr : ∀ a o, H a = some o → B a = none → ¬ OwnAt Γ σ a → H' a = some o ∧ ((∀ xs, o ≠ .tup xs) → B' a = none)
  nd : ∀ a, H a ≠ none → H' a ≠ none
  ev : ∀ a, OwnAt Γ' σ' a → OwnAt Γ σ a ∨ H a = none

section
variable {K : PySem.W.Frag} {π : Pm} {σ σ1 σ2 : St} {Γ Γ1 Γ2 : List Sl} {B H B1 H1 B2 H2 : Hp}
theorem Nx.refl (st : Stt K π B H σ Γ) : Nx K π σ Γ B H σ Γ B H := ⟨st, Same.refl B, fun _ _ h b _ => ⟨h, fun _ => b⟩, fun _ h => h, fun _ h => .inl h⟩
theorem Nx.trans (a : Nx K π σ Γ B H σ1 Γ1 B1 H1) (b : Nx K π σ1 Γ1 B1 H1 σ2 Γ2 B2 H2) : Nx K π σ Γ B H σ2 Γ2 B2 H2 := by
  refine ⟨b.st, a.bb.trans b.bb, fun x o h n no => ?_, fun x h => b.nd x (a.nd x h), fun x o => ?_⟩
  · obtain ⟨h1, n1⟩ := a.fr x o h n no
    cases k : B1 x with
    | none =>
      refine b.fr x o h1 k fun z => ?_
      rcases a.ev x z with q | q
      · exact no q
      · rw [h] at q; cases q
    | some u =>
      have e := a.st.sub x u k
      rw [h1] at e; cases e
      exact ⟨b.st.sub x o (b.bb x o k), fun nt => by rw [n1 nt] at k; cases k⟩
  · rcases b.ev x o with q | q
    · exact a.ev x q
    · right
      cases e : H x with
      | none => rfl
      | some u => exact absurd q (a.nd x (by rw [e]; exact fun z => nomatch z))
/-- a new frozen object -/
theorem Stt.laid (st : Stt K π B H σ Γ) {p : Addr} {o : HO} (hp : H p = none) : Stt K π (upd B p o) (upd H p o) σ Γ := by
  have bp : B p = none := st.sub.free hp
  have sB : Same B (upd B p o) := fun a u e => by rw [upd_ne (ne_of_none e bp)]; exact e
  have npo : ∀ {q : Addr} {d : D}, OwnRep K B H q d → q ≠ p := fun {q d} r z => by
    subst z
    cases d <;> simp only [OwnRep] at r
    all_goals first | (obtain ⟨_, e, _⟩ := r; rw [hp] at e; cases e) | (obtain ⟨_, _, e, _⟩ := r; rw [hp] at e; cases e)
  refine ⟨fun a u e => ?_, st.len, fun i d e => ?_, fun i d e => ?_, st.pn, fun i c fs e => ?_, st.inj, fun i ks ds e => (st.lk i ks ds e).mono sB rfl⟩
  · by_cases h : a = p
    · subst h; rw [upd_same] at e ⊢; exact e
    · rw [upd_ne h] at e ⊢; exact st.sub _ _ e
  · obtain ⟨v, h1, h2⟩ := st.fz i d e
    exact ⟨v, h1, h2.mono sB⟩
  · obtain ⟨q, h1, h2, h3⟩ := st.ow i d e
    have nq := npo h3
    refine ⟨q, h1, by rw [upd_ne nq]; exact h2, ?_⟩
    cases d <;> simp only [OwnRep] at h3 ⊢
    · obtain ⟨xs, e1, r⟩ := h3
      exact ⟨xs, by rw [upd_ne nq]; exact e1, r.mono sB⟩
    · obtain ⟨kvs, e1, e2, r⟩ := h3
      exact ⟨kvs, by rw [upd_ne nq]; exact e1, e2, r.mono sB⟩
    · obtain ⟨dx, fs, e1, e2, r⟩ := h3
      exact ⟨dx, fs, by rw [upd_ne nq]; exact e1, e2, r.mono sB⟩
    · obtain ⟨kvs, e1, e2, r⟩ := h3
      exact ⟨kvs, by rw [upd_ne nq]; exact e1, e2, r.mono sB⟩
  · obtain ⟨h0, h1, fv, h2, h3, h4⟩ := st.ex i c fs e
    exact ⟨h0, h1, fv, h2.mono sB, h3, h4.mono sB⟩
theorem Nx.laid (st : Stt K π B H σ Γ) {p : Addr} {o : HO} (hp : H p = none) : Nx K π σ Γ B H σ Γ (upd B p o) (upd H p o) := by
  have bp : B p = none := st.sub.free hp
  refine ⟨st.laid hp, fun a u e => by rw [upd_ne (ne_of_none e bp)]; exact e, fun a u h n _ => ?_, fun a h => ?_, fun a h => .inl h⟩
  · have na : a ≠ p := ne_of_none h hp
    exact ⟨by rw [upd_ne na]; exact h, fun _ => by rw [upd_ne na]; exact n⟩
  · by_cases e : a = p
    · subst e; rw [upd_same]; exact fun z => nomatch z
    · rw [upd_ne e]; exact h
end
end L2.TT

set_option Elab.async false
set_option linter.all false
set_option maxRecDepth 100000
set_option maxHeartbeats 1000001
namespace L2.TT
open PySem PyProof.Rows PySem.Spec

/-! ### what a piece of code makes of the slots -/
inductive Rs (α : Type) where
  | ok (a : α) (g : List Sl)
  | er (c : Str) (fs : List (Str × D)) (g : List Sl)
abbrev M (α : Type) := List Sl → Option (Rs α)
def ret {α : Type} (a : α) : M α := fun g => some (.ok a g)
def bd {α β : Type} (m : M α) (k : α → M β) : M β := fun g => match m g with
  | none => none
  | some (.ok a g') => k a g'
  | some (.er c fs g') => some (.er c fs g')
def opt {α : Type} (o : Option α) : M α := fun g => match o with
  | none => none
  | some a => some (.ok a g)

def ErR (K : PySem.W.Frag) (B : Hp) (dd : Option Addr) (fs : List (Str × D)) : Prop := ∃ fv, XdAt B dd fv ∧ fv.map (·.1) = fs.map (·.1) ∧ Reps K B (fv.map (·.2)) (fs.map (·.2))
/-- how a result lies: start heap, frozen part, heap, slots -/
abbrev Rl (α β : Type) := Hp → L2.St → Hp → Hp → List Sl → α → β → Prop
def Sat {α β : Type} (K : PySem.W.Frag) (π : Pm) (W : WX) (σ : L2.St) (Γ : List Sl) (B H : Hp) (rel : Rl α β) (r : Option (Rs α)) (Q : β → Hp → Prop) : Prop :=
  match r with
  | none => False
  | some (.ok a Γ') => ∀ b B' H', Nx K π σ Γ B H σ Γ' B' H' → rel H σ B' H' Γ' a b → Q b H'
  | some (.er c fs Γ') => ∀ dd B' H', Nx K π σ Γ B H σ Γ' B' H' → ErR K B' dd fs → NonO H dd → W (.ref (He.ga K c)) dd σ H'
structure Tr {α β : Type} (X : Cx) (π : Pm) (rel : Rl α β) (w : L2.St → Hp → (β → Hp → Prop) → Prop) (m : M α) : Prop where
  run : ∀ (W : WX), Takes X W → ∀ (σ : L2.St) (Γ : List Sl) (B H : Hp) (Q : β → Hp → Prop), Stt X.K π B H σ Γ → Sat X.K π W σ Γ B H rel (m Γ) Q → w σ H Q

def Up {α β : Type} (rel : Rl α β) : Prop := ∀ (H H1 : Hp) σ B' H' Γ' a b, (∀ x, H x ≠ none → H1 x ≠ none) → rel H1 σ B' H' Γ' a b → rel H σ B' H' Γ' a b
theorem none_of {H H1 : Hp} (n : ∀ x, H x ≠ none → H1 x ≠ none) {a : Addr} (h : H1 a = none) : H a = none := by
  cases e : H a with
  | none => rfl
  | some u => exact absurd h (n a (by rw [e]; exact fun z => nomatch z))

theorem nonO_of {H H1 : Hp} (n : ∀ x, H x ≠ none → H1 x ≠ none) {a : Option Addr} (h : NonO H1 a) : NonO H a := fun x e => none_of n (h x e)
theorem Sat.bd {α β γ δ : Type} {K : PySem.W.Frag} {π : Pm} {W : WX} {σ : L2.St} {Γ : List Sl} {B H : Hp} {r1 : Rl α β} {r2 : Rl γ δ} {m : M α} {k : α → M γ} {Q : δ → Hp → Prop} {P : β → Hp → Prop} (up : Up r2)
    (h : Sat K π W σ Γ B H r2 (TT.bd m k Γ) Q)
    (p : ∀ a Γ1 b B1 H1, m Γ = some (.ok a Γ1) → Nx K π σ Γ B H σ Γ1 B1 H1 → r1 H σ B1 H1 Γ1 a b → Sat K π W σ Γ1 B1 H1 r2 (k a Γ1) Q → P b H1) : Sat K π W σ Γ B H r1 (m Γ) P := by
  unfold TT.bd at h
  cases e : m Γ with
  | none => rw [e] at h; exact h
  | some r =>
    rw [e] at h
    cases r with
    | ok a Γ1 =>
      intro b B1 H1 nx rr
      refine p a Γ1 b B1 H1 e nx rr ?_
      have h : Sat K π W σ Γ B H r2 (k a Γ1) Q := h
      cases e2 : k a Γ1 with
      | none => rw [e2] at h; exact h
      | some r =>
        rw [e2] at h
        cases r with
        | ok c Γ2 => exact fun d B2 H2 nx2 rr2 => h d B2 H2 (nx.trans nx2) (up _ _ _ _ _ _ _ _ nx.nd rr2)
        | er c fs Γ2 => exact fun dd B2 H2 nx2 er hd => h dd B2 H2 (nx.trans nx2) er (nonO_of nx.nd hd)
    | er c fs Γ1 => exact h
theorem Sat.here {α β : Type} {K : PySem.W.Frag} {π : Pm} {W : WX} {σ : L2.St} {Γ : List Sl} {B H : Hp} {rel : Rl α β} {a : α} {Q : β → Hp → Prop} (st : Stt K π B H σ Γ) (h : Sat K π W σ Γ B H rel (ret a Γ) Q) {b : β} (r : rel H σ B H Γ a b) : Q b H :=
  h b B H (Nx.refl st) r
theorem Sat.opt {α β : Type} {K : PySem.W.Frag} {π : Pm} {W : WX} {σ : L2.St} {Γ : List Sl} {B H : Hp} {rel : Rl α β} {o : Option α} {Q : β → Hp → Prop} (st : Stt K π B H σ Γ) (h : Sat K π W σ Γ B H rel (opt o Γ) Q) : ∃ a, o = some a ∧ ∀ b, rel H σ B H Γ a b → Q b H := by
  unfold TT.opt at h
  cases o with
  | none => exact h.elim
  | some a => exact ⟨a, rfl, fun b r => h b B H (Nx.refl st) r⟩

/-! ### the weakest readings -/
def wE (X : Cx) (e : Expr) : TE := fun σ H Q => ∀ (pins : List (Addr × Obj)) (s : Shared), Inv X pins σ H s → wpAny (model X.prog X.w) X.A (eval e X.env) (EP X pins σ Q) X.xe s
def wT (X : Cx) (e : Expr) : TT := fun σ H Q => ∀ (pins : List (Addr × Obj)) (s : Shared), Inv X pins σ H s → wpAny (model X.prog X.w) X.A (isTrue e X.env (eval e X.env)) (TP X pins σ Q) X.xe s
def wW (X : Cx) (e : Expr) : TT := fun σ H Q => ∀ (whole : Sem Value) (pins : List (Addr × Obj)) (s : Shared), Inv X pins σ H s → wpAny (model X.prog X.w) X.A (isTrue e X.env whole) (TP X pins σ Q) X.xe s
def wA (X : Cx) (es : List Expr) : TA := fun σ H Q => ∀ (pos : Pos) (pins : List (Addr × Obj)) (s : Shared), Inv X pins σ H s → wpAny (model X.prog X.w) X.A (spliced (backTo pos (starEach es X.env))) (AP X pins σ Q) X.xe s
def wSs (X : Cx) (st : List Stmt) : TS := fun D σ H => ∀ (pins : List (Addr × Obj)) (s : Shared), Inv X pins σ H s → wpAny (model X.prog X.w) X.A (execs st X.env) (SP X pins D) X.xe s
def wS (X : Cx) (st : Stmt) : TS := fun D σ H => ∀ (pins : List (Addr × Obj)) (s : Shared), Inv X pins σ H s → wpAny (model X.prog X.w) X.A (exec st X.env) (SP X pins D) X.xe s
section
variable {X : Cx} {e : Expr} {es : List Expr} {st : Stmt} {sts : List Stmt} {t : TE} {tt : TT} {ta : TA} {ts : TS} {σ : L2.St} {H : Hp}
theorem pe_w : PE X e (wE X e) := ⟨fun pins s σ H Q I h => h pins s I⟩
theorem pt_w : PT X e (wT X e) := ⟨fun pins s σ H Q I h => h pins s I⟩
theorem pw_w : PW X e (wW X e) := ⟨fun wh pins s σ H Q I h => h wh pins s I⟩
theorem pa_w : PA X es (wA X es) := ⟨fun pos pins s σ H Q I h => h pos pins s I⟩
theorem pss_w : PSs X sts (wSs X sts) := ⟨fun pins s σ H D I h => h pins s I⟩
theorem ps_w : PS X st (wS X st) := ⟨fun pins s σ H D I h => h pins s I⟩
theorem wE_of {Q : VK} (p : PE X e t) (h : t σ H Q) : wE X e σ H Q := fun pins s I => p.run pins s σ H Q I h
theorem wT_of {Q : Bool → Hp → Prop} (p : PT X e tt) (h : tt σ H Q) : wT X e σ H Q := fun pins s I => p.run pins s σ H Q I h
theorem wW_of {Q : Bool → Hp → Prop} (p : PW X e tt) (h : tt σ H Q) : wW X e σ H Q := fun wh pins s I => p.run wh pins s σ H Q I h
theorem wT_W {Q : Bool → Hp → Prop} (h : wW X e σ H Q) : wT X e σ H Q := fun pins s I => h _ pins s I
theorem wA_of {Q : List V → Hp → Prop} (p : PA X es ta) (h : ta σ H Q) : wA X es σ H Q := fun pos pins s I => p.run pos pins s σ H Q I h
theorem wSs_of {D : Ends} (p : PSs X sts ts) (h : ts D σ H) : wSs X sts D σ H := fun pins s I => p.run pins s σ H D I h
theorem wS_of {D : Ends} (p : PS X st ts) (h : ts D σ H) : wS X st D σ H := fun pins s I => p.run pins s σ H D I h
end

def repR (K : PySem.W.Frag) : Rl D V := fun _ _ B _ _ d v => Rep K B v d
def repsR (K : PySem.W.Frag) : Rl (List D) (List V) := fun _ _ B _ _ ds vs => Reps K B vs ds
def boolR : Rl Bool Bool := fun _ _ _ _ _ a b => a = b
/-- a value that may be owned (flag true: a new object, nobody else's) -/
def valR (K : PySem.W.Frag) : Rl (D × Bool) V := fun H σ B' H' Γ' p v => match p.2 with
  | false => Rep K B' v p.1
  | true => ∃ q, v = .ref q ∧ H q = none ∧ B' q = none ∧ OwnRep K B' H' q p.1 ∧ ¬ OwnAt Γ' σ q
theorem up_repR {K} : Up (repR K) := fun _ _ _ _ _ _ _ _ _ h => h
theorem up_repsR {K} : Up (repsR K) := fun _ _ _ _ _ _ _ _ _ h => h
theorem up_boolR : Up boolR := fun _ _ _ _ _ _ _ _ _ h => h
theorem up_valR {K} : Up (valR K) := fun H H1 σ B' H' Γ' p v n h => by
  obtain ⟨d, o⟩ := p
  cases o with
  | false => exact h
  | true =>
    obtain ⟨q, e, hn, r⟩ := h
    exact ⟨q, e, none_of n hn, r⟩
abbrev TrF (X : Cx) (π : Pm) (e : Expr) (m : M D) : Prop := Tr X π (repR X.K) (wE X e) m
abbrev TrV (X : Cx) (π : Pm) (e : Expr) (m : M (D × Bool)) : Prop := Tr X π (valR X.K) (wE X e) m
abbrev TrT (X : Cx) (π : Pm) (e : Expr) (m : M Bool) : Prop := Tr X π boolR (wT X e) m
abbrev TrW (X : Cx) (π : Pm) (e : Expr) (m : M Bool) : Prop := Tr X π boolR (wW X e) m
abbrev TrA (X : Cx) (π : Pm) (es : List Expr) (m : M (List D)) : Prop := Tr X π (repsR X.K) (wA X es) m

section
variable {X : Cx} {π : Pm} {a b c e : Expr} {es : List Expr} {f g h : M D} {pos : Pos}
/-! ### constants, names -/
theorem trf_of {e : Expr} {t : TE} {m : M D} (p : PE X e t) (h : Tr X π (repR X.K) t m) : TrF X π e m := .mk fun W tk σ Γ B H Q st sat => wE_of p (h.run W tk σ Γ B H Q st sat)
theorem tr_int {i : Int} {j} : TrF X π (.Constant (.int i) j pos) (ret (.int i)) := trf_of pe_int <| .mk fun W tk σ Γ B H Q st sat => sat.here st (.int i)
theorem tr_bl {i : Bool} {j} : TrF X π (.Constant (.bool i) j pos) (ret (.bl i)) := trf_of pe_bl <| .mk fun W tk σ Γ B H Q st sat => sat.here st (.bl i)
theorem tr_non {j} : TrF X π (.Constant .none j pos) (ret .non) := trf_of pe_non <| .mk fun W tk σ Γ B H Q st sat => sat.here st .non
theorem tr_str {x} {j} : TrF X π (.Constant (.str x) j pos) (ret (.str x)) := trf_of pe_str <| .mk fun W tk σ Γ B H Q st sat => sat.here st (.str x)

/-- a name: what it holds is frozen from now on -/
def gv (i : Nat) : M D := fun g => match g[i]? with
  | some (.fz d) => some (.ok d g)
  | some (.ow d) => some (.ok d (g.set i (.fz d)))
  | some (.lk ks ds) => some (.ok (.dic ks ds) g)
  | _ => none
theorem own_unique {K : PySem.W.Frag} {B H : Hp} {σ : L2.St} {Γ : List Sl} (st : Stt K π B H σ Γ) {i : Nat} {d : D} {p : Addr} (hi : Γ[i]? = some (.ow d) ∨ Γ[i]? = some (.pn d)) (hp : σ[i]? = some (some (.ref p))) {j : Nat} {e : D}
    (hj : Γ[j]? = some (.ow e) ∨ Γ[j]? = some (.pn e)) (hq : σ[j]? = some (some (.ref p))) : i = j := st.inj i j p d e hi hj hp hq
theorem ho_of_own {K : PySem.W.Frag} {B H : Hp} {p : Addr} {d : D} (r : OwnRep K B H p d) : ∃ o, H p = some o := by
  cases d <;> simp only [OwnRep] at r
  · obtain ⟨_, e, _⟩ := r; exact ⟨_, e⟩
  · obtain ⟨_, e, _⟩ := r; exact ⟨_, e⟩
  · obtain ⟨_, _, e, _⟩ := r; exact ⟨_, e⟩
  · obtain ⟨_, e, _⟩ := r; exact ⟨_, e⟩
instance : Inhabited Obj := ⟨{ cls := .none, data := .fields #[] }⟩
/-- a dict that is frozen is locked for good -/
def fzo (od : Obj) : HO → HO
  | .dK k => .frz od (.dK k)
  | .dT k => .frz od (.dT k)
  | o => o
theorem rep_of_own {K : PySem.W.Frag} {B H : Hp} {p : Addr} {d : D} {o : HO} (od : Obj) (r : OwnRep K B H p d) (e : H p = some o) (bp : B p = none) : Rep K (upd B p (fzo od o)) (.ref p) d := by
  have sB : Same B (upd B p (fzo od o)) := fun a u z => by rw [upd_ne (ne_of_none z bp)]; exact z
  cases d <;> simp only [OwnRep] at r
  · obtain ⟨xs, q, rs⟩ := r
    rw [e] at q; cases q
    exact .lst upd_same (rs.mono sB)
  · obtain ⟨kvs, q, e2, rs⟩ := r
    rw [e] at q; cases q
    exact .dic ⟨od, upd_same⟩ e2 (rs.mono sB)
  · obtain ⟨dx, fs, q, e2, rs⟩ := r
    rw [e] at q; cases q
    exact .obj upd_same e2 (rs.mono sB)
  · obtain ⟨kvs, q, e2, rs⟩ := r
    rw [e] at q; cases q
    exact .dit ⟨od, upd_same⟩ e2 (rs.mono sB)
theorem OwnRep.monoB {K : PySem.W.Frag} {B B' H : Hp} {p : Addr} {d : D} (s : Same B B') (r : OwnRep K B H p d) : OwnRep K B' H p d := by
  cases d <;> simp only [OwnRep] at r ⊢
  · obtain ⟨xs, q, rs⟩ := r; exact ⟨xs, q, rs.mono s⟩
  · obtain ⟨kvs, q, e2, rs⟩ := r; exact ⟨kvs, q, e2, rs.mono s⟩
  · obtain ⟨dx, fs, q, e2, rs⟩ := r; exact ⟨dx, fs, q, e2, rs.mono s⟩
  · obtain ⟨kvs, q, e2, rs⟩ := r; exact ⟨kvs, q, e2, rs.mono s⟩
theorem OwnRep.eqH {K : PySem.W.Frag} {B H H' : Hp} {p : Addr} {d : D} (s : H' p = H p) (r : OwnRep K B H p d) : OwnRep K B H' p d := by
  cases d <;> simp only [OwnRep] at r ⊢
  all_goals (rw [s]; exact r)
/-- the same slots where what p holds, which nobody owns but p's owner, is frozen -/
theorem OwnRep.frz {K : PySem.W.Frag} {B H : Hp} {p q : Addr} {d : D} {u : HO} (nq : q ≠ p) (sB : Same B (upd B p u)) (r : OwnRep K B H q d) : OwnRep K (upd B p u) (upd H p u) q d := (r.eqH (H' := upd H p u) (upd_ne nq)).monoB sB
theorem nt_of_own {K : PySem.W.Frag} {B H : Hp} {p : Addr} {d : D} (r : OwnRep K B H p d) : Nt H p := by
  cases d <;> simp only [OwnRep] at r
  · obtain ⟨_, e, _⟩ := r; exact ⟨_, e, fun _ z => nomatch z⟩
  · obtain ⟨_, e, _⟩ := r; exact ⟨_, e, fun _ z => nomatch z⟩
  · obtain ⟨_, _, e, _⟩ := r; exact ⟨_, e, fun _ z => nomatch z⟩
  · obtain ⟨_, e, _⟩ := r; exact ⟨_, e, fun _ z => nomatch z⟩
/-- a slot that owns is frozen -/
theorem Nx.freeze {K : PySem.W.Frag} {B H : Hp} {σ : L2.St} {Γ : List Sl} (st : Stt K π B H σ Γ) {i : Nat} {d : D} (hi : Γ[i]? = some (.ow d)) :
    ∃ p o, σ[i]? = some (some (.ref p)) ∧ H p = some o ∧ B p = none ∧ ∀ od, Nx K π σ Γ B H σ (Γ.set i (.fz d)) (upd B p (fzo od o)) (upd H p (fzo od o)) ∧ Rep K (upd B p (fzo od o)) (.ref p) d := by
  obtain ⟨p, hp, bp, r⟩ := st.ow i d (.inl hi)
  obtain ⟨o, ho⟩ := ho_of_own r
  refine ⟨p, o, hp, ho, bp, fun od => ?_⟩
  have rp := rep_of_own od r ho bp
  generalize fzo od o = u at rp ⊢
  have sB : Same B (upd B p u) := fun a u z => by rw [upd_ne (ne_of_none z bp)]; exact z
  have hil : i < Γ.length := (List.getElem?_eq_some_iff.mp hi).1
  have old : ∀ {j : Nat} {x : Sl}, (Γ.set i (.fz d))[j]? = some x → (j = i ∧ x = .fz d) ∨ (j ≠ i ∧ Γ[j]? = some x) := fun {j x} h => by
    by_cases e : j = i
    · subst e; rw [List.getElem?_set_self hil] at h; exact .inl ⟨rfl, (Option.some.inj h).symm⟩
    · rw [List.getElem?_set_ne (Ne.symm e)] at h; exact .inr ⟨e, h⟩
  have oldo : ∀ {j : Nat} {x : D}, ((Γ.set i (.fz d))[j]? = some (.ow x) ∨ (Γ.set i (.fz d))[j]? = some (.pn x)) → j ≠ i ∧ (Γ[j]? = some (.ow x) ∨ Γ[j]? = some (.pn x)) := fun {j x} h => by
    rcases h with h | h
    · rcases old h with ⟨_, z⟩ | ⟨n, h⟩
      · cases z
      · exact ⟨n, .inl h⟩
    · rcases old h with ⟨_, z⟩ | ⟨n, h⟩
      · cases z
      · exact ⟨n, .inr h⟩
  refine ⟨⟨⟨fun a u e => ?_, by rw [List.length_set]; exact st.len, fun j x h => ?_, fun j x h => ?_, fun j x h => ?_, fun j c fs h => ?_, fun j k q x y h1 h2 e1 e2 => ?_, fun j ks ds h => ?_⟩, sB, fun a u h n no => ?_, fun a h => ?_, fun a h => ?_⟩, rp⟩
  · by_cases z : a = p
    · subst z; rw [upd_same] at e ⊢; exact e
    · rw [upd_ne z] at e ⊢; exact st.sub _ _ e
  · rcases old h with ⟨rfl, z⟩ | ⟨_, h⟩
    · cases z; exact ⟨_, hp, rp⟩
    · obtain ⟨v, h1, h2⟩ := st.fz j x h
      exact ⟨v, h1, h2.mono sB⟩
  · obtain ⟨n, h⟩ := oldo h
    obtain ⟨q, h1, h2, h3⟩ := st.ow j x h
    have nq : q ≠ p := fun z => by subst z; exact n (st.inj _ _ _ _ _ h (.inl hi) h1 hp)
    exact ⟨q, h1, by rw [upd_ne nq]; exact h2, h3.frz nq sB⟩
  · rcases old h with ⟨_, z⟩ | ⟨_, h⟩
    · cases z
    · exact st.pn j x h
  · rcases old h with ⟨_, z⟩ | ⟨_, h⟩
    · cases z
    · obtain ⟨h0, h1, fv, h2, h3, h4⟩ := st.ex j c fs h
      exact ⟨h0, h1, fv, h2.mono sB, h3, h4.mono sB⟩
  · exact st.inj j k q x y (oldo h1).2 (oldo h2).2 e1 e2
  · rcases old h with ⟨_, z⟩ | ⟨_, h⟩
    · cases z
    · exact (st.lk j ks ds h).mono sB rfl
  · have na : a ≠ p := fun z => no ⟨i, d, .inl hi, by rw [z]; exact hp⟩
    exact ⟨by rw [upd_ne na]; exact h, fun _ => by rw [upd_ne na]; exact n⟩
  · by_cases z : a = p
    · subst z; rw [upd_same]; exact fun z => nomatch z
    · rw [upd_ne z]; exact h
  · obtain ⟨j, x, h, e⟩ := h
    exact .inl ⟨j, x, (oldo h).2, e⟩
theorem upd_id {H : Hp} {p : Addr} {o : HO} (h : H p = some o) : upd H p o = H := by
  funext a
  by_cases e : a = p
  · subst e; rw [upd_same, h]
  · rw [upd_ne e]
/-- what is frozen may be locked at once -/
theorem inv_fzo {X : Cx} {pins : List (Addr × Obj)} {σ : L2.St} {H : Hp} {s : Shared} {p : Addr} {o : HO} (I : Inv X pins σ H s) (h : H p = some o) : ∃ od, Inv X pins σ (upd H p (fzo od o)) s := by
  cases o with
  | dK k => exact I.lock h trivial
  | dT k => exact I.lock h trivial
  | _ => exact ⟨default, by have e := upd_id h; show Inv X pins σ (upd H p _) s; simp only [fzo]; rw [e]; exact I⟩
/-- before an expression -/
theorem wE_gh {X : Cx} {e : Expr} {σ : L2.St} {H : Hp} {Q : VK} {p : Addr} {o : HO} (hp : H p = some o) (h : ∀ od, wE X e σ (upd H p (fzo od o)) Q) : wE X e σ H Q := fun pins s I => by
  obtain ⟨od, J⟩ := inv_fzo I hp
  exact h od pins s J
/-- behind an expression -/
theorem wE_gl {X : Cx} {e : Expr} {σ : L2.St} {H : Hp} {Q : VK} (h : wE X e σ H fun v H1 => Q v H1 ∨ ∃ p o, H1 p = some o ∧ ∀ od, Q v (upd H1 p (fzo od o))) : wE X e σ H Q := fun pins s I =>
  wpAny_mono (h pins s I) (fun v s' hv => by
    obtain ⟨x, H1, J, r, q | ⟨p, o, hp, q⟩⟩ := hv
    · exact ⟨x, H1, J, r, q⟩
    · obtain ⟨od, J2⟩ := inv_fzo J hp
      exact ⟨x, _, J2, r, q od⟩) fun _ _ z => z
theorem tr_v (i : Nat) {x : Str} (hN : X.N[i]? = some x := by kernel_rfl) (hv : Vis X.env.scope x := by first | exact Or.inl rfl | exact Or.inr (Or.inl rfl) | exact Or.inr (Or.inr rfl)) (hd : (x == ("__debug__" : Str)) = false := by decide)
    (hcd : (x == ("__classdict__" : Str)) = false := by decide) : TrF X π (.Name x pos) (gv i) := .mk fun W tk σ Γ B H Q st sat => by
  have pv := pe_var (X := X) (pos := pos) hN hv hd hcd
  unfold gv at sat
  cases e : Γ[i]? with
  | none => rw [e] at sat; exact sat.elim
  | some s =>
    rw [e] at sat
    cases s with
    | fz d =>
      obtain ⟨v, h1, h2⟩ := st.fz i d e
      exact wE_of pv ⟨v, h1, sat v B H (Nx.refl st) h2⟩
    | ow d =>
      obtain ⟨p, o, h1, ho, bp, nx⟩ := Nx.freeze st e
      refine wE_gh ho fun od => wE_of pv ⟨_, h1, ?_⟩
      obtain ⟨nx, rp⟩ := nx od
      exact sat _ _ _ nx rp
    | lk ks ds =>
      obtain ⟨od, kvs, h1, h2, h3, h4⟩ := st.lk i ks ds e
      exact wE_of pv ⟨_, h1, sat _ B H (Nx.refl st) (.dic ⟨od, h2⟩ h3 h4)⟩
    | no => exact sat.elim
    | pn d => exact sat.elim
    | ex c fs => exact sat.elim

/-! ### two operands -/
/-- the operator on data whose result is flat -/
def FlatOp (X : Cx) (r : R2) (o : D → D → Option D) : Prop := ∀ (B H : Hp) (x y : D) (v u : V) (z : D) (Q : VK), Same B H → Rep X.K B v x → Rep X.K B u y → o x y = some z → (∀ w, Rep X.K B w z → Q w H) → r v u H Q
def op2 (o : D → D → Option D) (f g : M D) : M D := bd f fun x => bd g fun y => opt (o x y)
theorem tr_op2 {r : R2} {o : D → D → Option D} (hf : TrF X π a f) (hg : TrF X π b g) (ho : FlatOp X r o) {e : Expr} (pe : ∀ {ta tb : TE}, PE X a ta → PE X b tb → PE X e (tOp r ta tb)) : TrF X π e (op2 o f g) := .mk fun W tk σ Γ B H Q st sat => by
  refine wE_of (pe pe_w pe_w) ?_
  refine hf.run W tk σ Γ B H _ st (sat.bd up_repR fun x Γ1 v B1 H1 e1 nx rv sat1 => ?_)
  refine hg.run W tk σ Γ1 B1 H1 _ nx.st (sat1.bd up_repR fun y Γ2 u B2 H2 e2 nx2 ru sat2 => ?_)
  obtain ⟨z, ez, q⟩ := sat2.opt nx2.st
  exact ho B2 H2 x y v u z Q nx2.st.sub (rv.mono nx2.bb) ru ez q
def addI : D → D → Option D
  | .int i, .int j => some (.int (i + j))
  | _, _ => none
def subI : D → D → Option D
  | .int i, .int j => some (.int (i - j))
  | _, _ => none
def mulI : D → D → Option D
  | .int i, .int j => if (-(2 ^ 64) < i ∧ i < 2 ^ 64) ∨ (-(2 ^ 64) < j ∧ j < 2 ^ 64) then some (.int (i * j)) else none
  | _, _ => none
def modI : D → D → Option D
  | .int i, .int j => if 0 < j then some (.int (i % j)) else none
  | _, _ => none
def divI : D → D → Option D
  | .int i, .int j => if 0 < j ∧ j < 1073741824 then some (.int (i / j)) else none
  | _, _ => none
def powI : D → D → Option D
  | .int i, .int j => if 0 ≤ j ∧ j ≤ 1000000 ∧ i.natAbs < 2 ^ 64 then some (.int (i ^ j.toNat)) else none
  | _, _ => none
theorem fl_add : FlatOp X (rI0 fun i j => .int (i + j)) addI := fun B H x y v u z Q s rv ru e q => by
  cases rv <;> first | (cases e; done) | skip
  cases ru <;> first | (cases e; done) | skip
  cases e; exact ⟨_, _, rfl, rfl, q _ (.int _)⟩
theorem fl_sub : FlatOp X (rI0 fun i j => .int (i - j)) subI := fun B H x y v u z Q s rv ru e q => by
  cases rv <;> first | (cases e; done) | skip
  cases ru <;> first | (cases e; done) | skip
  cases e; exact ⟨_, _, rfl, rfl, q _ (.int _)⟩
theorem fl_mul : FlatOp X (rI CMul fun i j => .int (i * j)) mulI := fun B H x y v u z Q s rv ru e q => by
  cases rv <;> first | (cases e; done) | skip
  cases ru <;> first | (cases e; done) | skip
  rename_i i j
  simp only [mulI] at e
  split at e
  · rename_i hc
    cases e; exact ⟨_, _, rfl, rfl, hc, q _ (.int _)⟩
  · cases e
theorem fl_mod : FlatOp X (rI (fun _ j => 0 < j) fun i j => .int (i % j)) modI := fun B H x y v u z Q s rv ru e q => by
  cases rv <;> first | (cases e; done) | skip
  cases ru <;> first | (cases e; done) | skip
  simp only [modI] at e
  split at e
  · rename_i hc
    cases e; exact ⟨_, _, rfl, rfl, hc, q _ (.int _)⟩
  · cases e
theorem fl_div : FlatOp X (rI CDiv fun i j => .int (i / j)) divI := fun B H x y v u z Q s rv ru e q => by
  cases rv <;> first | (cases e; done) | skip
  cases ru <;> first | (cases e; done) | skip
  simp only [divI] at e
  split at e
  · rename_i hc
    cases e; exact ⟨_, _, rfl, rfl, hc, q _ (.int _)⟩
  · cases e
theorem fl_pow : FlatOp X (rI CPow fun i j => .int (i ^ j.toNat)) powI := fun B H x y v u z Q s rv ru e q => by
  cases rv <;> first | (cases e; done) | skip
  cases ru <;> first | (cases e; done) | skip
  simp only [powI] at e
  split at e
  · rename_i hc
    cases e; exact ⟨_, _, rfl, rfl, hc, q _ (.int _)⟩
  · cases e
theorem tr_addI (hf : TrF X π a f) (hg : TrF X π b g) : TrF X π (.BinOp a .Add b pos) (op2 addI f g) := tr_op2 hf hg fl_add (pe_op op_add)
theorem tr_sub (hf : TrF X π a f) (hg : TrF X π b g) : TrF X π (.BinOp a .Sub b pos) (op2 subI f g) := tr_op2 hf hg fl_sub (pe_op op_sub)
theorem tr_mul (hf : TrF X π a f) (hg : TrF X π b g) : TrF X π (.BinOp a .Mult b pos) (op2 mulI f g) := tr_op2 hf hg fl_mul (pe_op op_mul)
theorem tr_mod (hf : TrF X π a f) (hg : TrF X π b g) : TrF X π (.BinOp a .Mod b pos) (op2 modI f g) := tr_op2 hf hg fl_mod (pe_op op_mod)
theorem tr_div (hf : TrF X π a f) (hg : TrF X π b g) : TrF X π (.BinOp a .FloorDiv b pos) (op2 divI f g) := tr_op2 hf hg fl_div (pe_op op_fdiv)
theorem tr_pow (hf : TrF X π a f) (hg : TrF X π b g) : TrF X π (.BinOp a .Pow b pos) (op2 powI f g) := tr_op2 hf hg fl_pow (pe_op op_pow)
end
end L2.TT

set_option Elab.async false
set_option linter.all false
set_option maxRecDepth 100000
set_option maxHeartbeats 1000001
namespace L2.TT
open PySem PyProof.Rows PySem.Spec

/-! ### what may be read at a value: frozen or owned -/
def See (K : PySem.W.Frag) (B H : Hp) (v : V) : D → Prop
  | .lst ds => ∃ p xs, v = .ref p ∧ H p = some (.lst xs) ∧ Reps K B xs ds
  | .kl ds => ∃ p xs, v = .ref p ∧ SqL K H p xs ∧ Reps K B xs ds
  | .tup ds => ∃ p xs, v = .ref p ∧ H p = some (.tup xs) ∧ Reps K B xs ds
  | .dic ks ds => ∃ p, ∃ kvs : List (Key × V), v = .ref p ∧ Rd H p (.dK kvs) ∧ kvs.map (·.1) = ks ∧ Reps K B (kvs.map (·.2)) ds
  | .obj c ns ds => ∃ p dx, ∃ fs : List (Str × V), v = .ref p ∧ H p = some (.ins (He.ga K c) dx fs) ∧ fs.map (·.1) = ns ∧ Reps K B (fs.map (·.2)) ds
  | .dit ks ds => ∃ p, ∃ kvs : List (List Key × V), v = .ref p ∧ Rd H p (.dT kvs) ∧ kvs.map (·.1) = ks ∧ Reps K B (kvs.map (·.2)) ds
  | .non => v = .non
  | .bl b => v = .bl b
  | .int i => v = .int i
  | .str x => v = .str x
theorem Rep.see {K : PySem.W.Frag} {B H : Hp} {v : V} {d : D} (s : Same B H) (r : Rep K B v d) : See K B H v d := by
  cases r with
  | non => rfl
  | bl b => rfl
  | int i => rfl
  | str x => rfl
  | lst h r => exact ⟨_, _, rfl, s _ _ h, r⟩
  | kl h r => exact ⟨_, _, rfl, same_sqL s h, r⟩
  | tup h r => exact ⟨_, _, rfl, s _ _ h, r⟩
  | dic h e r => exact ⟨_, _, rfl, .inr (h.imp fun _ q => s _ _ q), e, r⟩
  | dit h e r => exact ⟨_, _, rfl, .inr (h.imp fun _ q => s _ _ q), e, r⟩
  | obj h e r => exact ⟨_, _, _, rfl, s _ _ h, e, r⟩
theorem OwnRep.see {K : PySem.W.Frag} {B H : Hp} {p : Addr} {d : D} (r : OwnRep K B H p d) : See K B H (.ref p) d := by
  cases d <;> simp only [OwnRep] at r
  · obtain ⟨xs, q, rs⟩ := r; exact ⟨_, _, rfl, q, rs⟩
  · obtain ⟨kvs, q, e2, rs⟩ := r; exact ⟨_, _, rfl, .inl q, e2, rs⟩
  · obtain ⟨dx, fs, q, e2, rs⟩ := r; exact ⟨_, _, _, rfl, q, e2, rs⟩
  · obtain ⟨kvs, q, e2, rs⟩ := r; exact ⟨_, _, rfl, .inl q, e2, rs⟩
def pk (i : Nat) : M D := fun g => match g[i]? with
  | some (.fz d) => some (.ok d g)
  | some (.ow d) => some (.ok d g)
  | some (.pn d) => some (.ok d g)
  | some (.lk ks ds) => some (.ok (.dic ks ds) g)
  | _ => none
theorem Stt.peek {K : PySem.W.Frag} {π : Pm} {B H : Hp} {σ : L2.St} {Γ : List Sl} (st : Stt K π B H σ Γ) {i : Nat} {d : D} {g : List Sl} (h : pk i Γ = some (.ok d g)) : g = Γ ∧ ∃ v, σ[i]? = some (some v) ∧ See K B H v d := by
  unfold pk at h
  cases e : Γ[i]? with
  | none => (rw [e] at h; cases h)
  | some s =>
    rw [e] at h
    cases s with
    | fz x =>
      cases h
      obtain ⟨v, h1, h2⟩ := st.fz i d e
      exact ⟨rfl, v, h1, h2.see st.sub⟩
    | ow x =>
      cases h
      obtain ⟨p, h1, _, h2⟩ := st.ow i d (.inl e)
      exact ⟨rfl, _, h1, h2.see⟩
    | pn x =>
      cases h
      obtain ⟨p, h1, _, h2⟩ := st.ow i d (.inr e)
      exact ⟨rfl, _, h1, h2.see⟩
    | lk ks ds =>
      cases h
      obtain ⟨od, kvs, h1, h2, h3, h4⟩ := st.lk i ks ds e
      exact ⟨rfl, _, h1, ⟨_, kvs, rfl, .inr ⟨od, st.sub _ _ h2⟩, h3, h4⟩⟩
    | no => cases h
    | ex c fs => cases h
theorem pk_er {i : Nat} {Γ : List Sl} {c fs g} : pk i Γ ≠ some (.er c fs g) := by
  unfold pk
  split <;> intro h <;> cases h
def seeR (K : PySem.W.Frag) : Rl D V := fun _ _ B H _ d v => See K B H v d
theorem up_seeR {K} : Up (seeR K) := fun _ _ _ _ _ _ _ _ _ h => h
abbrev TrP (X : Cx) (π : Pm) (e : Expr) (m : M D) : Prop := Tr X π (seeR X.K) (wE X e) m

section
variable {X : Cx} {π : Pm} {a b c e : Expr} {es : List Expr} {f g h : M D} {pos : Pos}
theorem Sat.see {K : PySem.W.Frag} {W : WX} {σ : L2.St} {Γ : List Sl} {B H : Hp} {m : M D} {Q : VK} (h : Sat K π W σ Γ B H (seeR K) (m Γ) Q) : Sat K π W σ Γ B H (repR K) (m Γ) Q := by
  cases e : m Γ with
  | none => rw [e] at h; exact h
  | some r =>
    rw [e] at h
    cases r with
    | ok a Γ1 => exact fun b B1 H1 nx rr => h b B1 H1 nx (rr.see nx.st.sub)
    | er c fs Γ1 => exact h
theorem trp_of_f (hf : TrF X π a f) : TrP X π a f := .mk fun W tk σ Γ B H Q st sat => hf.run W tk σ Γ B H Q st sat.see
theorem trp_v (i : Nat) {x : Str} (hN : X.N[i]? = some x := by kernel_rfl) (hv : Vis X.env.scope x := by first | exact Or.inl rfl | exact Or.inr (Or.inl rfl) | exact Or.inr (Or.inr rfl)) (hd : (x == ("__debug__" : Str)) = false := by decide)
    (hcd : (x == ("__classdict__" : Str)) = false := by decide) : TrP X π (.Name x pos) (pk i) := .mk fun W tk σ Γ B H Q st sat => wE_of (pe_var hN hv hd hcd) (by
  cases e : pk i Γ with
  | none => rw [e] at sat; exact sat.elim
  | some r =>
    rw [e] at sat
    cases r with
    | ok d g =>
      obtain ⟨rfl, v, h1, h2⟩ := st.peek e
      exact ⟨v, h1, sat v B H (Nx.refl st) h2⟩
    | er c fs g => exact (pk_er e).elim)

/-! ### readers of one thing: the last operand read -/
def op1 (o : D → Option D) (f : M D) : M D := bd f fun x => opt (o x)
def RdOp1 (X : Cx) (r : V → Hp → VK → Prop) (o : D → Option D) : Prop := ∀ (B H : Hp) (x : D) (v : V) (z : D) (Q : VK), Same B H → See X.K B H v x → o x = some z → (∀ w, Rep X.K B w z → Q w H) → r v H Q
theorem tr_rd1 {r : V → Hp → VK → Prop} {o : D → Option D} (hf : TrP X π a f) (ho : RdOp1 X r o) {e : Expr} (pe : ∀ {ta : TE}, PE X a ta → PE X e (fun σ H Q => ta σ H fun x H1 => r x H1 Q)) : TrF X π e (op1 o f) := .mk fun W tk σ Γ B H Q st sat => by
  refine wE_of (pe pe_w) ?_
  refine hf.run W tk σ Γ B H _ st (sat.bd up_repR fun x Γ1 v B1 H1 e1 nx rv sat1 => ?_)
  obtain ⟨z, ez, q⟩ := sat1.opt nx.st
  exact ho B1 H1 x v z Q nx.st.sub rv ez q
/-- x first (frozen), then what is looked into -/
def RdOp2 (X : Cx) (r : R2) (o : D → D → Option D) : Prop := ∀ (B H : Hp) (x y : D) (v u : V) (z : D) (Q : VK), Same B H → Rep X.K B v x → See X.K B H u y → o x y = some z → (∀ w, Rep X.K B w z → Q w H) → r v u H Q
theorem tr_rd2 {r : R2} {o : D → D → Option D} (hf : TrF X π a f) (hg : TrP X π b g) (ho : RdOp2 X r o) {e : Expr} (pe : ∀ {ta tb : TE}, PE X a ta → PE X b tb → PE X e (tOp r ta tb)) : TrF X π e (op2 o f g) := .mk fun W tk σ Γ B H Q st sat => by
  refine wE_of (pe pe_w pe_w) ?_
  refine hf.run W tk σ Γ B H _ st (sat.bd up_repR fun x Γ1 v B1 H1 e1 nx rv sat1 => ?_)
  refine hg.run W tk σ Γ1 B1 H1 _ nx.st (sat1.bd up_repR fun y Γ2 u B2 H2 e2 nx2 ru sat2 => ?_)
  obtain ⟨z, ez, q⟩ := sat2.opt nx2.st
  exact ho B2 H2 x y v u z Q nx2.st.sub (rv.mono nx2.bb) ru ez q
/-- the first one is looked into, the second is a key -/
def RdOp2' (X : Cx) (r : R2) (o : D → D → Option D) : Prop := ∀ (B H : Hp) (x y : D) (v u : V) (z : D) (Q : VK), Same B H → See X.K B H v x → Rep X.K B u y → o x y = some z → (∀ w, Rep X.K B w z → Q w H) → r v u H Q
theorem tr_rd2' {r : R2} {o : D → D → Option D} (hf : TrF X π a f) (hg : TrF X π b g) (ho : RdOp2' X r o) {e : Expr} (pe : ∀ {ta tb : TE}, PE X a ta → PE X b tb → PE X e (tOp r ta tb)) : TrF X π e (op2 o f g) :=
  tr_op2 hf hg (fun B H x y v u z Q s rv ru e q => ho B H x y v u z Q s (rv.see s) ru e q) pe
/-- .. a name: looked into behind the key -/
def op2v (o : D → D → Option D) (i : Nat) (g : M D) : M D := bd (pk i) fun _ => bd g fun y => bd (pk i) fun x => opt (o x y)
theorem Sat.pk {α β : Type} {K : PySem.W.Frag} {π : Pm} {W : WX} {σ : L2.St} {Γ : List Sl} {B H : Hp} {rel : Rl α β} {k : D → M α} {Q : β → Hp → Prop} {i : Nat} (st : Stt K π B H σ Γ) (h : Sat K π W σ Γ B H rel (TT.bd (pk i) k Γ) Q) :
    ∃ d v, σ[i]? = some (some v) ∧ See K B H v d ∧ Sat K π W σ Γ B H rel (k d Γ) Q := by
  unfold TT.bd at h
  cases e : TT.pk i Γ with
  | none => rw [e] at h; exact h.elim
  | some r =>
    cases r with
    | er c fs g => exact (pk_er e).elim
    | ok d g =>
      obtain ⟨eg, v, h1, h2⟩ := st.peek e
      rw [e] at h
      rw [eg] at h
      exact ⟨d, v, h1, h2, h⟩
theorem tr_rd2v {r : R2} {o : D → D → Option D} (i : Nat) {x : Str} (hg : TrF X π b g) (ho : RdOp2' X r o) {e : Expr} (pe : ∀ {ta tb : TE}, PE X (.Name x pos) ta → PE X b tb → PE X e (tOp r ta tb)) (hN : X.N[i]? = some x := by kernel_rfl)
    (hv : Vis X.env.scope x := by first | exact Or.inl rfl | exact Or.inr (Or.inl rfl) | exact Or.inr (Or.inr rfl)) (hd : (x == ("__debug__" : Str)) = false := by decide)
    (hcd : (x == ("__classdict__" : Str)) = false := by decide) : TrF X π e (op2v o i g) := .mk fun W tk σ Γ B H Q st sat => by
  refine wE_of (pe (pe_var hN hv hd hcd) pe_w) ?_
  obtain ⟨_, v, hv0, _, sat⟩ := Sat.pk st sat
  refine ⟨v, hv0, ?_⟩
  refine hg.run W tk σ Γ B H _ st (sat.bd up_repR fun y Γ1 u B1 H1 e1 nx ru sat1 => ?_)
  obtain ⟨d, w, h1, h2, sat2⟩ := Sat.pk nx.st sat1
  rw [hv0] at h1
  cases h1
  obtain ⟨zz, ez, q⟩ := Sat.opt nx.st sat2
  exact ho B1 H1 d y v u zz Q nx.st.sub h2 ru ez q

/-! ### tests, and, or, not -/
def tst : D → Option Bool
  | .bl b => some b
  | _ => none
def tv (f : M D) : M Bool := bd f fun x => opt (tst x)
theorem tt_val (hf : TrF X π e f) (he : ∀ whole, isTrue e X.env whole = (do let v ← whole; standAt e.pos; holding [v] (truthy v)) := by intro _; kernel_rfl) : TrT X π e (tv f) := .mk fun W tk σ Γ B H Q st sat => by
  refine wT_of (pt_val pe_w he) ?_
  refine hf.run W tk σ Γ B H _ st (sat.bd up_boolR fun x Γ1 v B1 H1 e1 nx rv sat1 => ?_)
  obtain ⟨z, ez, q⟩ := sat1.opt nx.st
  cases rv <;> simp only [tst] at ez <;> first | (cases ez; done) | skip
  cases ez
  exact ⟨_, rfl, q _ rfl⟩
/-- a comparison as a test -/
theorem tt_cmp {op : CmpOp} {r : R2} (ho : OpR X (compareOp op) r) (hm : behindInMarks op b = false) {m : M D} (hf : ∀ (W : WX), Takes X W → ∀ (σ : L2.St) (Γ : List Sl) (B H : Hp) (Q : VK), Stt X.K π B H σ Γ → Sat X.K π W σ Γ B H (repR X.K) (m Γ) Q → tOp r (wE X a) (wE X b) σ H Q) :
    TrT X π (.Compare a [op] [b] pos) (tv m) := .mk fun W tk σ Γ B H Q st sat => by
  refine wT_of (pt_cmpR ho pe_w pe_w hm) ?_
  refine hf W tk σ Γ B H _ st (sat.bd up_boolR fun x Γ1 v B1 H1 e1 nx rv sat1 => ?_)
  obtain ⟨z, ez, q⟩ := sat1.opt nx.st
  cases rv <;> simp only [tst] at ez <;> first | (cases ez; done) | skip
  cases ez
  exact ⟨_, rfl, q _ rfl⟩
def notM (f : M Bool) : M Bool := bd f fun x => ret (!x)
def andM (f g : M Bool) : M Bool := bd f fun x => if x = true then g else ret false
def orM (f g : M Bool) : M Bool := bd f fun x => if x = true then ret true else g
variable {f' g' : M Bool}
theorem tt_not (hf : TrT X π a f') : TrT X π (.UnaryOp .Not a pos) (notM f') := .mk fun W tk σ Γ B H Q st sat => by
  refine wT_of (pt_not pt_w) ?_
  refine hf.run W tk σ Γ B H _ st (sat.bd up_boolR fun x Γ1 v B1 H1 e1 nx rv sat1 => ?_)
  cases rv
  exact Sat.here nx.st sat1 rfl
theorem tw_and1 (hf : TrT X π a f') : TrW X π (.BoolOp .And [a] pos) f' := .mk fun W tk σ Γ B H Q st sat => wW_of (pw_and1 pt_w) (hf.run W tk σ Γ B H Q st sat)
theorem tw_or1 (hf : TrT X π a f') : TrW X π (.BoolOp .Or [a] pos) f' := .mk fun W tk σ Γ B H Q st sat => wW_of (pw_or1 pt_w) (hf.run W tk σ Γ B H Q st sat)
theorem tw_and {rest : List Expr} (hf : TrT X π a f') (hg : TrW X π (.BoolOp .And (b :: rest) pos) g') : TrW X π (.BoolOp .And (a :: b :: rest) pos) (andM f' g') := .mk fun W tk σ Γ B H Q st sat => by
  refine wW_of (pw_and pt_w pw_w) ?_
  refine hf.run W tk σ Γ B H _ st (sat.bd up_boolR fun x Γ1 v B1 H1 e1 nx rv sat1 => ?_)
  cases rv
  cases x with
  | true => exact iteT (hg.run W tk σ Γ1 B1 H1 Q nx.st sat1)
  | false => exact iteF (Sat.here nx.st sat1 rfl)
theorem tw_or {rest : List Expr} (hf : TrT X π a f') (hg : TrW X π (.BoolOp .Or (b :: rest) pos) g') : TrW X π (.BoolOp .Or (a :: b :: rest) pos) (orM f' g') := .mk fun W tk σ Γ B H Q st sat => by
  refine wW_of (pw_or pt_w pw_w) ?_
  refine hf.run W tk σ Γ B H _ st (sat.bd up_boolR fun x Γ1 v B1 H1 e1 nx rv sat1 => ?_)
  cases rv
  cases x with
  | true => exact iteT (Sat.here nx.st sat1 rfl)
  | false => exact iteF (hg.run W tk σ Γ1 B1 H1 Q nx.st sat1)
theorem tt_w (hf : TrW X π e f') : TrT X π e f' := .mk fun W tk σ Γ B H Q st sat => wT_W (hf.run W tk σ Γ B H Q st sat)
/-- .. as values, bools -/
def andV (f g : M D) : M D := bd (tv f) fun x => if x = true then g else ret (.bl false)
def orV (f g : M D) : M D := bd (tv f) fun x => if x = true then ret (.bl true) else g
def notV (f : M D) : M D := bd (tv f) fun x => ret (.bl (!x))
theorem tr_one {op} (hf : TrF X π a f) : TrF X π (.BoolOp op [a] pos) f := .mk fun W tk σ Γ B H Q st sat => wE_of (pe_one pe_w) (hf.run W tk σ Γ B H Q st sat)
theorem Sat.tv {α β : Type} {K : PySem.W.Frag} {W : WX} {σ : L2.St} {Γ : List Sl} {B H : Hp} {rel : Rl α β} {m : M D} {k : Bool → M α} {Q : β → Hp → Prop} {P : VK} (up : Up rel) (h : Sat K π W σ Γ B H rel (TT.bd (TT.tv m) k Γ) Q)
    (p : ∀ x Γ1 B1 H1, Nx K π σ Γ B H σ Γ1 B1 H1 → Sat K π W σ Γ1 B1 H1 rel (k x Γ1) Q → P (.bl x) H1) : Sat K π W σ Γ B H (repR K) (m Γ) P := by
  have h : Sat K π W σ Γ B H rel (TT.bd m (fun x => TT.bd (TT.opt (tst x)) k) Γ) Q := by
    have e : TT.bd (TT.tv m) k Γ = TT.bd m (fun x => TT.bd (TT.opt (tst x)) k) Γ := by
      unfold TT.tv TT.bd
      cases m Γ with
      | none => rfl
      | some r => cases r <;> rfl
    rw [← e]; exact h
  refine h.bd up fun x Γ1 v B1 H1 e1 nx rv sat1 => ?_
  cases rv <;> first | exact (show False from sat1).elim | skip
  exact p _ Γ1 B1 H1 nx sat1
theorem tr_and {rest : List Expr} (hf : TrF X π a f) (hg : TrF X π (.BoolOp .And (b :: rest) pos) g) : TrF X π (.BoolOp .And (a :: b :: rest) pos) (andV f g) := .mk fun W tk σ Γ B H Q st sat => by
  refine wE_of (pe_and pe_w pe_w) ?_
  refine hf.run W tk σ Γ B H _ st (Sat.tv up_repR sat fun x Γ1 B1 H1 nx sat1 => ?_)
  refine ⟨x, rfl, ?_⟩
  cases x with
  | true => exact iteT (hg.run W tk σ Γ1 B1 H1 Q nx.st sat1)
  | false => exact iteF (Sat.here nx.st sat1 (.bl _))
theorem tr_or {rest : List Expr} (hf : TrF X π a f) (hg : TrF X π (.BoolOp .Or (b :: rest) pos) g) : TrF X π (.BoolOp .Or (a :: b :: rest) pos) (orV f g) := .mk fun W tk σ Γ B H Q st sat => by
  refine wE_of (pe_or pe_w pe_w) ?_
  refine hf.run W tk σ Γ B H _ st (Sat.tv up_repR sat fun x Γ1 B1 H1 nx sat1 => ?_)
  refine ⟨x, rfl, ?_⟩
  cases x with
  | true => exact iteT (Sat.here nx.st sat1 (.bl _))
  | false => exact iteF (hg.run W tk σ Γ1 B1 H1 Q nx.st sat1)
theorem tr_not (hf : TrF X π a f) : TrF X π (.UnaryOp .Not a pos) (notV f) := .mk fun W tk σ Γ B H Q st sat => by
  refine wE_of (pe_not pe_w) ?_
  refine hf.run W tk σ Γ B H _ st (Sat.tv up_repR sat fun x Γ1 B1 H1 nx sat1 => ?_)
  exact ⟨x, rfl, Sat.here nx.st sat1 (.bl _)⟩
def ifM {α : Type} (t : M Bool) (f g : M α) : M α := bd t fun x => if x = true then f else g
theorem tr_ifExp (ht : TrT X π c f') (hf : TrF X π a f) (hg : TrF X π b g) : TrF X π (.IfExp c a b pos) (ifM f' f g) := .mk fun W tk σ Γ B H Q st sat => by
  refine wE_of (pe_ifExp pt_w pe_w pe_w) ?_
  refine ht.run W tk σ Γ B H _ st (sat.bd up_repR fun x Γ1 v B1 H1 e1 nx rv sat1 => ?_)
  cases rv
  cases x with
  | true => exact iteT (hf.run W tk σ Γ1 B1 H1 Q nx.st sat1)
  | false => exact iteF (hg.run W tk σ Γ1 B1 H1 Q nx.st sat1)
def negI : D → Option D
  | .int i => some (.int (-i))
  | _ => none
theorem tr_neg (hf : TrF X π a f) : TrF X π (.UnaryOp .USub a pos) (op1 negI f) := tr_rd1 (r := rU fun i => .int (-i)) (trp_of_f hf) (fun B H x v z Q s rv e q => by
  cases x <;> simp only [negI] at e <;> first | (cases e; done) | skip
  cases e
  exact ⟨_, rv, q _ (.int _)⟩) (fun h => pe_un un_neg h)

/-! ### comparisons -/
def ltO (f : Int → Int → Bool) (g : Str → Str → Bool) : D → D → Option D
  | .int i, .int j => some (.bl (f i j))
  | .str i, .str j => some (.bl (g i j))
  | _, _ => none
def ltD : D → D → Option D := ltO (fun i j => decide (i < j)) (fun i j => decide (i.cps.toList < j.cps.toList))
def leD : D → D → Option D := ltO (fun i j => decide (i ≤ j)) (fun i j => !decide (j.cps.toList < i.cps.toList))
def gtD : D → D → Option D := ltO (fun i j => decide (j < i)) (fun i j => decide (j.cps.toList < i.cps.toList))
def geD : D → D → Option D := ltO (fun i j => decide (j ≤ i)) (fun i j => !decide (i.cps.toList < j.cps.toList))
theorem fl_ord {p : Int → Int → Bool} {q : Str → Str → Bool} : FlatOp X (fun x y H Q => (rI0 fun i j => .bl (p i j)) x y H Q ∨ (∃ i j, x = .str i ∧ y = .str j ∧ Q (.bl (q i j)) H)) (ltO p q) := fun B H x y v u z Q s rv ru e k => by
  cases rv <;> first | (cases e; done) | skip
  · cases ru <;> first | (cases e; done) | skip
    cases e; exact .inl ⟨_, _, rfl, rfl, k _ (.bl _)⟩
  · cases ru <;> first | (cases e; done) | skip
    cases e; exact .inr ⟨_, _, rfl, rfl, k _ (.bl _)⟩
theorem tr_lt (hf : TrF X π a f) (hg : TrF X π b g) : TrF X π (.Compare a [.Lt] [b] pos) (op2 ltD f g) := tr_op2 hf hg fl_ord fun h1 h2 => pe_cmpR (op_lt.or op_lt_str) h1 h2 (nomark _)
theorem tr_le (hf : TrF X π a f) (hg : TrF X π b g) : TrF X π (.Compare a [.LtE] [b] pos) (op2 leD f g) := tr_op2 hf hg fl_ord fun h1 h2 => pe_cmpR (op_le.or op_le_str) h1 h2 (nomark _)
theorem tr_gt (hf : TrF X π a f) (hg : TrF X π b g) : TrF X π (.Compare a [.Gt] [b] pos) (op2 gtD f g) := tr_op2 hf hg fl_ord fun h1 h2 => pe_cmpR (op_gt.or op_gt_str) h1 h2 (nomark _)
theorem tr_ge (hf : TrF X π a f) (hg : TrF X π b g) : TrF X π (.Compare a [.GtE] [b] pos) (op2 geD f g) := tr_op2 hf hg fl_ord fun h1 h2 => pe_cmpR (op_ge.or op_ge_str) h1 h2 (nomark _)
/-- a <= b <= c -/
def chV (o o' : D → D → Option D) (f g h : M D) : M D := bd f fun x => bd g fun y => bd (opt (o x y)) fun z => bd (opt (tst z)) fun k => if k = true then bd h fun w => opt (o' y w) else ret (.bl false)
theorem tr_chain {op op' : CmpOp} {r r' : R2} {o o' : D → D → Option D} (ho : OpR X (compareOp op) r) (ho' : OpR X (compareOp op') r') (fo : FlatOp X r o) (fo' : FlatOp X r' o') (hf : TrF X π a f) (hg : TrF X π b g) (hh : TrF X π c h)
    (hm : lastMarks [op, op'] [b, c] = false := by kernel_rfl) : TrF X π (.Compare a [op, op'] [b, c] pos) (chV o o' f g h) := .mk fun W tk σ Γ B H Q st sat => by
  refine wE_of (pe_chain ho ho' pe_w pe_w pe_w hm) ?_
  refine hf.run W tk σ Γ B H _ st (sat.bd up_repR fun x Γ1 v B1 H1 e1 nx rv sat1 => ?_)
  refine hg.run W tk σ Γ1 B1 H1 _ nx.st (sat1.bd up_repR fun y Γ2 u B2 H2 e2 nx2 ru sat2 => ?_)
  cases e3 : o x y with
  | none => rw [e3] at sat2; exact (show False from sat2).elim
  | some z =>
    rw [e3] at sat2
    have sat2 : Sat X.K π W σ Γ2 B2 H2 (repR X.K) (TT.bd (opt (tst z)) (fun k => if k = true then TT.bd h fun w => opt (o' y w) else ret (.bl false)) Γ2) Q := sat2
    refine fo B2 H2 x y v u z _ nx2.st.sub (rv.mono nx2.bb) ru e3 fun w0 rw0 => ?_
    obtain ⟨k, rfl⟩ : ∃ k, z = .bl k := by
      cases z with
      | bl k => exact ⟨k, rfl⟩
      | _ => exact (show False from sat2).elim
    cases rw0
    refine ⟨k, rfl, ?_⟩
    cases k with
    | false => exact iteF (Sat.here nx2.st (show Sat X.K π W σ Γ2 B2 H2 (repR X.K) (ret (.bl false) Γ2) Q from sat2) (.bl _))
    | true =>
      refine iteT ?_
      have sat3 : Sat X.K π W σ Γ2 B2 H2 (repR X.K) (TT.bd h (fun w => opt (o' y w)) Γ2) Q := sat2
      refine hh.run W tk σ Γ2 B2 H2 _ nx2.st (sat3.bd up_repR fun w Γ3 wv B3 H3 e4 nx3 rwv sat4 => ?_)
      obtain ⟨zz, ez, q⟩ := sat4.opt nx3.st
      exact fo' B3 H3 y w u wv zz Q nx3.st.sub (ru.mono nx3.bb) rwv ez q
theorem tr_lele (hf : TrF X π a f) (hg : TrF X π b g) (hh : TrF X π c h) (hm : lastMarks [CmpOp.LtE, CmpOp.LtE] [b, c] = false := by kernel_rfl) : TrF X π (.Compare a [.LtE, .LtE] [b, c] pos) (chV leD leD f g h) := tr_chain (op_le.or op_le_str) (op_le.or op_le_str) fl_ord fl_ord hf hg hh hm

/-! == -/
mutual
def toPy : D → Option PyData
  | .non => some .none
  | .bl b => some (.bool b)
  | .int i => some (.int i)
  | .str x => some (.str x)
  | .lst ds => (toPys ds).map .list
  | .tup ds => (toPys ds).map .tuple
  | .dic _ _ => none
  | .dit _ _ => none
  | .obj _ _ _ => none
  | .kl _ => none
def toPys : List D → Option (List PyData)
  | [] => some []
  | d :: ds => match toPy d, toPys ds with
    | some p, some q => some (p :: q)
    | _, _ => none
end
mutual
theorem dp_of {K : PySem.W.Frag} {B H : Hp} (s : Same B H) : ∀ {d : D} {v : V} {p : PyData}, Rep K B v d → toPy d = some p → Dp K H v p
  | .non, _, _, .non, e => by simp only [toPy] at e; cases e; exact .non
  | .bl b, _, _, .bl _, e => by simp only [toPy] at e; cases e; exact .bl _
  | .int b, _, _, .int _, e => by simp only [toPy] at e; cases e; exact .int _
  | .str b, _, _, .str _, e => by simp only [toPy] at e; cases e; exact .str _
  | .lst ds, _, _, .lst h r, e => by
    simp only [toPy] at e
    cases q : toPys ds with
    | none => (rw [q] at e; cases e)
    | some ps => rw [q] at e; cases e; exact .lst (SqL.of (s _ _ h)) (dps_of s r q)
  | .tup ds, _, _, .tup h r, e => by
    simp only [toPy] at e
    cases q : toPys ds with
    | none => (rw [q] at e; cases e)
    | some ps => rw [q] at e; cases e; exact .tup (SqT.of (s _ _ h)) (dps_of s r q)
  | .dic _ _, _, _, _, e => by simp only [toPy] at e; cases e
  | .dit _ _, _, _, _, e => by simp only [toPy] at e; cases e
  | .obj _ _ _, _, _, _, e => by simp only [toPy] at e; cases e
  | .kl _, _, _, _, e => by simp only [toPy] at e; cases e
theorem dps_of {K : PySem.W.Frag} {B H : Hp} (s : Same B H) : ∀ {ds : List D} {vs : List V} {ps : List PyData}, Reps K B vs ds → toPys ds = some ps → DpAll K H vs ps
  | [], _, _, .nil, e => by simp only [toPys] at e; cases e; exact .nil
  | d :: ds, _, _, .cons h t, e => by
    simp only [toPys] at e
    cases q1 : toPy d with
    | none => rw [q1] at e; cases e
    | some p =>
      cases q2 : toPys ds with
      | none => rw [q1, q2] at e; cases e
      | some ps => rw [q1, q2] at e; cases e; exact .cons (dp_of s h q1) (dps_of s t q2)
end
theorem dp_see {K : PySem.W.Frag} {B H : Hp} (s : Same B H) {d : D} {v : V} {p : PyData} (r : See K B H v d) (e : toPy d = some p) : Dp K H v p := by
  cases d with
  | non => simp only [toPy] at e; cases e; cases r; exact .non
  | bl b => simp only [toPy] at e; cases e; cases r; exact .bl _
  | int b => simp only [toPy] at e; cases e; cases r; exact .int _
  | str b => simp only [toPy] at e; cases e; cases r; exact .str _
  | lst ds =>
    obtain ⟨q, xs, rfl, h, rs⟩ := r
    simp only [toPy] at e
    cases q : toPys ds with
    | none => (rw [q] at e; cases e)
    | some ps => rw [q] at e; cases e; exact .lst (SqL.of h) (dps_of s rs q)
  | tup ds =>
    obtain ⟨q, xs, rfl, h, rs⟩ := r
    simp only [toPy] at e
    cases q : toPys ds with
    | none => (rw [q] at e; cases e)
    | some ps => rw [q] at e; cases e; exact .tup (SqT.of h) (dps_of s rs q)
  | dic _ _ => simp only [toPy] at e; cases e
  | dit _ _ => simp only [toPy] at e; cases e
  | kl _ => simp only [toPy] at e; cases e
  | obj _ _ _ => simp only [toPy] at e; cases e
def eqB (x y : D) : Option Bool := match toPy x, toPy y with
  | some p, some q => if SeqAt.shaped p = true ∧ SeqAt.shaped q = true then some (PyData.eqv p q) else none
  | _, _ => none
def eqD (x y : D) : Option D := (eqB x y).map .bl
def neD (x y : D) : Option D := (eqB x y).map fun b => .bl (!b)
theorem eqB_some {x y : D} {b : Bool} (h : eqB x y = some b) : ∃ p q, toPy x = some p ∧ toPy y = some q ∧ SeqAt.shaped p = true ∧ SeqAt.shaped q = true ∧ b = PyData.eqv p q := by
  unfold eqB at h
  split at h
  · rename_i p q e1 e2
    split at h
    · rename_i hs
      cases h
      exact ⟨p, q, e1, e2, hs.1, hs.2, rfl⟩
    · cases h
  · cases h
theorem rd_eq : RdOp2 X (rEqD X.K) eqD := fun B H x y v u z Q s rv ru e q => by
  unfold eqD at e
  cases k : eqB x y with
  | none => rw [k] at e; cases e
  | some b =>
    rw [k] at e; cases e
    obtain ⟨p, q', e1, e2, s1, s2, rfl⟩ := eqB_some k
    exact ⟨p, q', dp_of s rv e1, dp_see s ru e2, s1, s2, q _ (.bl _)⟩
theorem rd_ne : RdOp2 X (rNeD X.K) neD := fun B H x y v u z Q s rv ru e q => by
  unfold neD at e
  cases k : eqB x y with
  | none => rw [k] at e; cases e
  | some b =>
    rw [k] at e; cases e
    obtain ⟨p, q', e1, e2, s1, s2, rfl⟩ := eqB_some k
    exact ⟨p, q', dp_of s rv e1, dp_see s ru e2, s1, s2, q _ (.bl _)⟩
theorem tr_eq {k : Nat} (hr : Room k X.A) (hf : TrF X π a f) (hg : TrP X π b g) : TrF X π (.Compare a [.Eq] [b] pos) (op2 eqD f g) := tr_rd2 hf hg rd_eq fun h1 h2 => pe_cmpR (op_eqD hr.units) h1 h2 (nomark _)
theorem tr_ne {k : Nat} (hr : Room k X.A) (hf : TrF X π a f) (hg : TrP X π b g) : TrF X π (.Compare a [.NotEq] [b] pos) (op2 neD f g) := tr_rd2 hf hg rd_ne fun h1 h2 => pe_cmpR (op_neD hr.units) h1 h2 (nomark _)
/-! in -/
def inB (x y : D) : Option Bool := match y with
  | .lst ds => match toPy x, toPys ds with
    | some p, some qs => if SeqAt.shaped p = true ∧ SeqAt.shaped (.list qs) = true then some (qs.any fun z => PyData.eqv z p) else none
    | _, _ => none
  | .str z => match x with
    | .str ⟨⟨[c]⟩⟩ => some (decide (c ∈ z.cps.toList))
    | _ => none
  | _ => none
def inD (x y : D) : Option D := (inB x y).map .bl
def niD (x y : D) : Option D := (inB x y).map fun b => .bl (!b)
theorem inB_cases {x y : D} {b : Bool} (h : inB x y = some b) : (∃ ds p qs, y = .lst ds ∧ toPy x = some p ∧ toPys ds = some qs ∧ SeqAt.shaped p = true ∧ SeqAt.shaped (.list qs) = true ∧ b = qs.any fun z => PyData.eqv z p) ∨
    (∃ (c : Nat) (z : Str), x = .str ⟨#[c]⟩ ∧ y = .str z ∧ b = decide (c ∈ z.cps.toList)) := by
  unfold inB at h
  split at h
  · rename_i ds
    split at h
    · rename_i p qs e1 e2
      split at h
      · rename_i hs
        cases h
        exact .inl ⟨ds, p, qs, rfl, e1, e2, hs.1, hs.2, rfl⟩
      · cases h
    · cases h
  · rename_i z
    split at h
    · rename_i c
      cases h
      exact .inr ⟨c, z, rfl, rfl, rfl⟩
    · cases h
  · cases h
theorem rd_in : RdOp2 X (fun x y H Q => rInD X.K x y H Q ∨ (∃ (c : Nat) (z : Str), x = .str ⟨#[c]⟩ ∧ y = .str z ∧ Q (.bl (decide (c ∈ z.cps.toList))) H)) inD := fun B H x y v u z Q s rv ru e q => by
  unfold inD at e
  cases k : inB x y with
  | none => rw [k] at e; cases e
  | some b =>
    rw [k] at e; cases e
    rcases inB_cases k with ⟨ds, p, qs, rfl, e1, e2, s1, s2, rfl⟩ | ⟨c, z, rfl, rfl, rfl⟩
    · exact .inl ⟨p, qs, dp_of s rv e1, dp_see s ru (by simp only [toPy, e2]; rfl), s1, s2, q _ (.bl _)⟩
    · cases rv
      exact .inr ⟨c, z, rfl, ru, q _ (.bl _)⟩
theorem rd_ni : RdOp2 X (fun x y H Q => rNotInD X.K x y H Q ∨ (∃ (c : Nat) (z : Str), x = .str ⟨#[c]⟩ ∧ y = .str z ∧ Q (.bl (!decide (c ∈ z.cps.toList))) H)) niD := fun B H x y v u z Q s rv ru e q => by
  unfold niD at e
  cases k : inB x y with
  | none => rw [k] at e; cases e
  | some b =>
    rw [k] at e; cases e
    rcases inB_cases k with ⟨ds, p, qs, rfl, e1, e2, s1, s2, rfl⟩ | ⟨c, z, rfl, rfl, rfl⟩
    · exact .inl ⟨p, qs, dp_of s rv e1, dp_see s ru (by simp only [toPy, e2]; rfl), s1, s2, q _ (.bl _)⟩
    · cases rv
      exact .inr ⟨c, z, rfl, ru, q _ (.bl _)⟩
theorem tr_in {k : Nat} (hr : Room k X.A) (hf : TrF X π a f) (hg : TrP X π b g) (hm : behindInMarks .In b = false := by kernel_rfl) : TrF X π (.Compare a [.In] [b] pos) (op2 inD f g) :=
  tr_rd2 hf hg rd_in fun h1 h2 => pe_cmpR ((op_inD (by have := hr.un; omega)).or op_in_sign) h1 h2 hm
theorem tr_notIn {k : Nat} (hr : Room k X.A) (hf : TrF X π a f) (hg : TrP X π b g) (hm : behindInMarks .NotIn b = false := by kernel_rfl) : TrF X π (.Compare a [.NotIn] [b] pos) (op2 niD f g) :=
  tr_rd2 hf hg rd_ni fun h1 h2 => pe_cmpR ((op_notInD (by have := hr.un; omega)).or op_notIn_sign) h1 h2 hm
/-! is None -/
def isN : D → Option D
  | .non => some (.bl true)
  | _ => some (.bl false)
def isNN : D → Option D
  | .non => some (.bl false)
  | _ => some (.bl true)
theorem see_non {K : PySem.W.Frag} {B H : Hp} {v : V} {d : D} (r : See K B H v d) : decide (v = .non) = (match d with | .non => true | _ => false) := by
  cases d <;> simp only [See] at r
  · subst r; rfl
  · subst r; rfl
  · subst r; rfl
  · subst r; rfl
  · obtain ⟨p, xs, rfl, _⟩ := r; rfl
  · obtain ⟨p, xs, rfl, _⟩ := r; rfl
  · obtain ⟨p, xs, rfl, _⟩ := r; rfl
  · obtain ⟨p, xs, rfl, _⟩ := r; rfl
  · obtain ⟨p, dx, fs, rfl, _⟩ := r; rfl
  · obtain ⟨p, xs, rfl, _⟩ := r; rfl
theorem tr_isN (hf : TrP X π a f) {j pos'} : TrF X π (.Compare a [.Is] [.Constant .none j pos'] pos) (op1 isN f) := tr_rd1 (r := fun x H1 Q => Q (.bl (decide (x = .non))) H1) hf (fun B H x v z Q s rv e q => by
  show Q (.bl (decide (v = .non))) H
  rw [see_non rv]
  cases x <;> simp only [isN] at e <;> cases e <;> exact q _ (.bl _)) fun h => pe_cmp (pc_isN h) rfl
theorem tr_isNN (hf : TrP X π a f) {j pos'} : TrF X π (.Compare a [.IsNot] [.Constant .none j pos'] pos) (op1 isNN f) := tr_rd1 (r := fun x H1 Q => Q (.bl (!decide (x = .non))) H1) hf (fun B H x v z Q s rv e q => by
  show Q (.bl (!decide (v = .non))) H
  rw [see_non rv]
  cases x <;> simp only [isNN] at e <;> cases e <;> exact q _ (.bl _)) fun h => pe_cmp (pc_notN h) rfl
end
end L2.TT

set_option Elab.async false
set_option linter.all false
set_option maxRecDepth 100000
set_option maxHeartbeats 1000001
namespace L2.TT
open PySem PyProof.Rows PySem.Spec

section
variable {K : PySem.W.Frag} {π : Pm} {σ σ1 : L2.St} {Γ Γ1 : List Sl} {B H B1 H1 : Hp}
theorem See.mono {B' H' : Hp} {v : V} {d : D} (s : Same B B') (t : Same H H') (r : See K B H v d) : See K B' H' v d := by
  cases d with
  | lst ds => obtain ⟨p, xs, e, h, rs⟩ := r; exact ⟨p, xs, e, t _ _ h, rs.mono s⟩
  | kl ds => obtain ⟨p, xs, e, h, rs⟩ := r; exact ⟨p, xs, e, same_sqL t h, rs.mono s⟩
  | tup ds => obtain ⟨p, xs, e, h, rs⟩ := r; exact ⟨p, xs, e, t _ _ h, rs.mono s⟩
  | dic ks ds => obtain ⟨p, kvs, e, h, e2, rs⟩ := r; exact ⟨p, kvs, e, same_rd t h, e2, rs.mono s⟩
  | obj c ns ds => obtain ⟨p, dx, fs, e, h, e2, rs⟩ := r; exact ⟨p, dx, fs, e, t _ _ h, e2, rs.mono s⟩
  | dit ks ds => obtain ⟨p, kvs, e, h, e2, rs⟩ := r; exact ⟨p, kvs, e, same_rd t h, e2, rs.mono s⟩
  | non => exact r
  | bl b => exact r
  | int i => exact r
  | str x => exact r
/-- a new object that is not frozen -/
theorem Nx.new (st : Stt K π B H σ Γ) {p : Addr} {o : HO} (hp : H p = none) : Nx K π σ Γ B H σ Γ B (upd H p o) := by
  have np : ∀ {a : Addr} {u : HO}, H a = some u → a ≠ p := fun e => ne_of_none e hp
  have bp : B p = none := st.sub.free hp
  refine ⟨⟨fun a u e => by rw [upd_ne (ne_of_none e bp)]; exact st.sub _ _ e, st.len, st.fz, fun i d e => ?_, st.pn, st.ex, st.inj, st.lk⟩, Same.refl B, fun a u h n _ => ⟨by rw [upd_ne (np h)]; exact h, fun _ => n⟩, fun a h => ?_, fun a h => .inl h⟩
  · obtain ⟨q, h1, h2, h3⟩ := st.ow i d e
    obtain ⟨o', ho⟩ := ho_of_own h3
    exact ⟨q, h1, h2, h3.eqH (upd_ne (np ho))⟩
  · by_cases e : a = p
    · subst e; rw [upd_same]; exact fun z => nomatch z
    · rw [upd_ne e]; exact h
theorem not_own_new (st : Stt K π B H σ Γ) {p : Addr} (hp : H p = none) : ¬ OwnAt Γ σ p := fun ⟨i, d, h, e⟩ => by
  obtain ⟨q, h1, _, h3⟩ := st.ow i d h
  rw [e] at h1
  cases h1
  obtain ⟨o, ho⟩ := ho_of_own h3
  rw [hp] at ho; cases ho
/-- an object of nobody's, made since, is frozen -/
theorem Nx.seal (nx : Nx K π σ Γ B H σ1 Γ1 B1 H1) {p : Addr} (u : HO) (hp : H p = none) (bp : B1 p = none) (no : ¬ OwnAt Γ1 σ1 p) : Nx K π σ Γ B H σ1 Γ1 (upd B1 p u) (upd H1 p u) := by
  have st := nx.st
  have sB : Same B1 (upd B1 p u) := fun a u z => by rw [upd_ne (ne_of_none z bp)]; exact z
  refine ⟨⟨fun a u e => ?_, st.len, fun i d e => ?_, fun i d e => ?_, st.pn, fun i c fs e => ?_, st.inj, fun i ks ds e => (st.lk i ks ds e).mono sB rfl⟩, nx.bb.trans sB, fun a u h n z => ?_, fun a h => ?_, nx.ev⟩
  · by_cases z : a = p
    · subst z; rw [upd_same] at e ⊢; exact e
    · rw [upd_ne z] at e ⊢; exact st.sub _ _ e
  · obtain ⟨v, h1, h2⟩ := st.fz i d e
    exact ⟨v, h1, h2.mono sB⟩
  · obtain ⟨q, h1, h2, h3⟩ := st.ow i d e
    have nq : q ≠ p := fun z => no ⟨i, d, e, by rw [← z]; exact h1⟩
    exact ⟨q, h1, by rw [upd_ne nq]; exact h2, h3.frz nq sB⟩
  · obtain ⟨h0, h1, fv, h2, h3, h4⟩ := st.ex i c fs e
    exact ⟨h0, h1, fv, h2.mono sB, h3, h4.mono sB⟩
  · obtain ⟨h1, h2⟩ := nx.fr a u h n z
    exact ⟨by rw [upd_ne (ne_of_none h hp)]; exact h1, fun nt => by rw [upd_ne (ne_of_none h hp)]; exact h2 nt⟩
  · by_cases z : a = p
    · subst z; rw [upd_same]; exact fun z => nomatch z
    · rw [upd_ne z]; exact nx.nd a h
end
/-- the same from a later state -/
theorem Sat.via {γ δ : Type} {K : PySem.W.Frag} {π : Pm} {W : WX} {σ : L2.St} {Γ Γ1 : List Sl} {B H B1 H1 : Hp} {r2 : Rl γ δ} {r : Option (Rs γ)} {Q : δ → Hp → Prop} (up : Up r2) (h : Sat K π W σ Γ B H r2 r Q) (nx : Nx K π σ Γ B H σ Γ1 B1 H1) : Sat K π W σ Γ1 B1 H1 r2 r Q := by
  cases r with
  | none => exact h
  | some r =>
    cases r with
    | ok c Γ2 => exact fun d B2 H2 nx2 rr2 => h d B2 H2 (nx.trans nx2) (up _ _ _ _ _ _ _ _ nx.nd rr2)
    | er c fs Γ2 => exact fun dd B2 H2 nx2 er hd => h dd B2 H2 (nx.trans nx2) er (nonO_of nx.nd hd)
theorem Sat.bd0 {α β γ δ : Type} {K : PySem.W.Frag} {π : Pm} {W : WX} {σ : L2.St} {Γ : List Sl} {B H : Hp} {r1 : Rl α β} {r2 : Rl γ δ} {m : M α} {k : α → M γ} {Q : δ → Hp → Prop} {P : β → Hp → Prop}
    (h : Sat K π W σ Γ B H r2 (TT.bd m k Γ) Q)
    (p : ∀ a Γ1 b B1 H1, m Γ = some (.ok a Γ1) → Nx K π σ Γ B H σ Γ1 B1 H1 → r1 H σ B1 H1 Γ1 a b → Sat K π W σ Γ B H r2 (k a Γ1) Q → P b H1) : Sat K π W σ Γ B H r1 (m Γ) P := by
  unfold TT.bd at h
  cases e : m Γ with
  | none => rw [e] at h; exact h
  | some r =>
    rw [e] at h
    cases r with
    | ok a Γ1 => exact fun b B1 H1 nx rr => p a Γ1 b B1 H1 e nx rr h
    | er c fs Γ1 => exact h

section
variable {X : Cx} {π : Pm} {a b c e : Expr} {es : List Expr} {f g h : M D} {fs gs : M (List D)} {pos : Pos}
/-! ### owned and frozen -/
def frz (m : M (D × Bool)) : M D := bd m fun p => ret p.1
theorem val_seal {K : PySem.W.Frag} {σ : L2.St} {Γ Γ1 : List Sl} {B H B1 H1 : Hp} {p : D × Bool} {v : V} (nx : Nx K π σ Γ B H σ Γ1 B1 H1) (r : valR K H σ B1 H1 Γ1 p v) : (∃ B2, Nx K π σ Γ B H σ Γ1 B2 H1 ∧ Rep K B2 v p.1) ∨ ∃ q o, H1 q = some o ∧ ∀ od, ∃ B2, Nx K π σ Γ B H σ Γ1 B2 (upd H1 q (fzo od o)) ∧ Rep K B2 v p.1 := by
  obtain ⟨d, o⟩ := p
  cases o with
  | false => exact .inl ⟨B1, nx, r⟩
  | true =>
    obtain ⟨q, rfl, hq, bq, ow, no⟩ := r
    obtain ⟨o, ho⟩ := ho_of_own ow
    exact .inr ⟨q, o, ho, fun od => ⟨upd B1 q (fzo od o), nx.seal _ hq bq no, rep_of_own od ow ho bq⟩⟩
theorem tr_frz {m : M (D × Bool)} (hm : TrV X π e m) : TrF X π e (frz m) := .mk fun W tk σ Γ B H Q st sat => by
  refine wE_gl (hm.run W tk σ Γ B H _ st (sat.bd0 fun p Γ1 v B1 H1 e1 nx rv sat1 => ?_))
  rcases val_seal nx rv with ⟨B2, nx2, r⟩ | ⟨q, o, ho, k⟩
  · exact .inl (sat1 v B2 H1 nx2 r)
  · refine .inr ⟨q, o, ho, fun od => ?_⟩
    obtain ⟨B2, nx2, r⟩ := k od
    exact sat1 v B2 _ nx2 r
def asV (f : M D) : M (D × Bool) := bd f fun d => ret (d, false)
theorem trv_of_f (hf : TrF X π e f) : TrV X π e (asV f) := .mk fun W tk σ Γ B H Q st sat => by
  refine hf.run W tk σ Γ B H _ st (sat.bd up_valR fun p Γ1 v B1 H1 e1 nx rv sat1 => ?_)
  exact Sat.here nx.st sat1 rv

/-! ### argument lists, displays -/
def cnsM (f : M D) (fs : M (List D)) : M (List D) := bd f fun d => bd fs fun ds => ret (d :: ds)
theorem ta_nil : TrA X π [] (ret []) := .mk fun W tk σ Γ B H Q st sat => wA_of pa_nil (sat.here st .nil)
theorem ta_cons (hf : TrF X π e f) (hs : TrA X π es fs) (hst : starEach (e :: es) X.env = (false, eval e X.env) :: starEach es X.env := by kernel_rfl) : TrA X π (e :: es) (cnsM f fs) := .mk fun W tk σ Γ B H Q st sat => by
  refine wA_of (pa_cons pe_w pa_w hst) ?_
  refine hf.run W tk σ Γ B H _ st (sat.bd up_repsR fun x Γ1 v B1 H1 e1 nx rv sat1 => ?_)
  refine hs.run W tk σ Γ1 B1 H1 _ nx.st (sat1.bd up_repsR fun y Γ2 u B2 H2 e2 nx2 ru sat2 => ?_)
  exact Sat.here nx2.st sat2 (.cons (rv.mono nx2.bb) ru)
def tupM (fs : M (List D)) : M D := bd fs fun ds => if ds.length ≤ 1000 then ret (.tup ds) else fun _ => none
def lstM (fs : M (List D)) : M (D × Bool) := bd fs fun ds => if ds.length ≤ 1000 then ret (.lst ds, true) else fun _ => none
theorem le1000 {n : Nat} (h : n ≤ 1000) : n ≤ sizeLine := by rw [sizeLine_eq]; omega
theorem tr_tup {x1} (hs : TrA X π es fs) : TrF X π (.Tuple es x1 pos) (tupM fs) := .mk fun W tk σ Γ B H Q st sat => by
  refine wE_of (pe_tup pa_w) ?_
  refine hs.run W tk σ Γ B H _ st (sat.bd up_repR fun ds Γ1 vs B1 H1 e1 nx rv sat1 => ?_)
  by_cases hl : ds.length ≤ 1000
  · rw [if_pos hl] at sat1
    refine ⟨by rw [rv.length]; exact le1000 hl, fun p hp => ?_⟩
    have nl := Nx.laid (o := .tup vs) nx.st hp
    exact sat1 _ _ _ nl (.tup upd_same (rv.mono nl.bb))
  · rw [if_neg hl] at sat1; exact (show False from sat1).elim
theorem tv_lst (hs : TrA X π es fs) : TrV X π (.List es pos) (lstM fs) := .mk fun W tk σ Γ B H Q st sat => by
  refine wE_of (pe_lst pa_w) ?_
  refine hs.run W tk σ Γ B H _ st (sat.bd up_valR fun ds Γ1 vs B1 H1 e1 nx rv sat1 => ?_)
  by_cases hl : ds.length ≤ 1000
  · rw [if_pos hl] at sat1
    refine ⟨by rw [rv.length]; exact le1000 hl, fun p hp => ?_⟩
    have nl := Nx.new (o := .lst vs) nx.st hp
    exact sat1 _ _ _ nl ⟨p, rfl, hp, nx.st.sub.free hp, ⟨vs, upd_same, rv⟩, not_own_new nx.st hp⟩
  · rw [if_neg hl] at sat1; exact (show False from sat1).elim

/-! ### x[i] -/
def toKey : D → Option Key
  | .int i => some (.inl i)
  | .str x => some (.inr x)
  | _ => none
theorem rep_key {K : PySem.W.Frag} {B : Hp} {v : V} {d : D} {k : Key} (r : Rep K B v d) (e : toKey d = some k) : v = kV k := by
  cases r <;> simp only [toKey] at e <;> first | (cases e; done) | (cases e; rfl)
def dlook : List Key → List D → Key → Option D
  | k :: ks, d :: ds, j => if k = j then some d else dlook ks ds j
  | _, _, _ => none
theorem dlook_val {K : PySem.W.Frag} {B : Hp} {j : Key} : ∀ {kvs : List (Key × V)} {ds : List D}, Reps K B (kvs.map (·.2)) ds → (∀ d, dlook (kvs.map (·.1)) ds j = some d → ∃ v, valV kvs j = some v ∧ Rep K B v d) ∧ (dlook (kvs.map (·.1)) ds j = none → valV kvs j = none)
  | [], _, _ => ⟨fun d e => by simp [dlook] at e, fun _ => rfl⟩
  | p :: kvs, d :: ds, .cons h t => by
    obtain ⟨i1, i2⟩ := dlook_val (j := j) t
    simp only [List.map_cons, dlook]
    by_cases e : p.1 = j
    · rw [if_pos e]
      exact ⟨fun d' z => by cases z; exact ⟨_, valV_pos e, h⟩, fun z => by cases z⟩
    · rw [if_neg e, valV_neg e]
      exact ⟨i1, i2⟩
/-- a tuple of ints and texts as a key -/
def toTK : List D → Option (List Key)
  | [] => some []
  | d :: ds => match toKey d, toTK ds with
    | some k, some ks => some (k :: ks)
    | _, _ => none
def tkD : D → Option (List Key)
  | .tup ds => toTK ds
  | _ => none
theorem rep_toTK {K : PySem.W.Frag} {B : Hp} : ∀ {vs : List V} {ds : List D} {ks : List Key}, Reps K B vs ds → toTK ds = some ks → vs = ks.map kV
  | _, _, _, .nil, e => by cases e; rfl
  | v :: vs, d :: ds, ks, .cons h t, e => by
    simp only [toTK] at e
    cases k1 : toKey d with
    | none => rw [k1] at e; cases e
    | some k =>
      cases k2 : toTK ds with
      | none => rw [k1, k2] at e; cases e
      | some ks' =>
        rw [k1, k2] at e; cases e
        rw [rep_key h k1, rep_toTK t k2]; rfl
theorem rep_tk {K : PySem.W.Frag} {B : Hp} {v : V} {d : D} {ks : List Key} (r : Rep K B v d) (e : tkD d = some ks) : ∃ b, v = .ref b ∧ B b = some (.tup (ks.map kV)) := by
  cases r <;> simp only [tkD] at e <;> first | (cases e; done) | skip
  rename_i a xs ds h r
  exact ⟨_, rfl, by rw [← rep_toTK r e]; exact h⟩
def tlook : List (List Key) → List D → List Key → Option D
  | k :: ks, d :: ds, j => if k = j then some d else tlook ks ds j
  | _, _, _ => none
theorem tlook_val {K : PySem.W.Frag} {B : Hp} {j : List Key} : ∀ {kvs : List (List Key × V)} {ds : List D}, Reps K B (kvs.map (·.2)) ds → (∀ d, tlook (kvs.map (·.1)) ds j = some d → ∃ v, valV kvs j = some v ∧ Rep K B v d) ∧ (tlook (kvs.map (·.1)) ds j = none → valV kvs j = none)
  | [], _, _ => ⟨fun d e => by simp [tlook] at e, fun _ => rfl⟩
  | p :: kvs, d :: ds, .cons h t => by
    obtain ⟨i1, i2⟩ := tlook_val (j := j) t
    simp only [List.map_cons, tlook]
    by_cases e : p.1 = j
    · rw [if_pos e]
      exact ⟨fun d' z => by cases z; exact ⟨_, valV_pos e, h⟩, fun z => by cases z⟩
    · rw [if_neg e, valV_neg e]
      exact ⟨i1, i2⟩
def ixD (x y : D) : Option D := match x, y with
  | .lst ds, .int i => atI ds i
  | .tup ds, .int i => atI ds i
  | .str z, .int i => if z.length ≤ 1000000 then (atI z.cps.toList i).map fun c => .str ⟨#[c]⟩ else none
  | .dic ks ds, k => match toKey k with
    | some k => dlook ks ds k
    | none => none
  | .dit ks ds, k => match tkD k with
    | some k => tlook ks ds k
    | none => none
  | _, _ => none
theorem Reps.atI {K : PySem.W.Frag} {B : Hp} {vs : List V} {ds : List D} {i : Int} {d : D} (r : Reps K B vs ds) (h : L2.atI ds i = some d) : ∃ v, L2.atI vs i = some v ∧ Rep K B v d := by
  unfold L2.atI at h ⊢
  rw [r.length]
  cases e : ixN ds.length i with
  | none => (rw [e] at h; cases h)
  | some j =>
    rw [e] at h
    exact r.get h
def rIxK : R2 := fun x y H Q => ∃ a v, x = .ref a ∧ DGet H a y (some v) ∧ Q v H
theorem ix_dict {k : Nat} (hr : Room k X.A) : IxR X rIxK := by
  intro val sl pins s σ H x y v u Q I rx ry h hs
  obtain ⟨a, z, rfl, g, q⟩ := h
  cases rx
  exact tail_any (dict_typeIs I g) PySem.F.slot_dict_getitem.lookup (d_getItem (by have := hr.un; omega) I g ry fun w' s3 I3 rw' => ⟨z, H, I3, rw', q⟩) hs
theorem rd_ix : RdOp2' X (fun x y H Q => rIx X.K x y H Q ∨ rIxK x y H Q) ixD := fun B H x y v u z Q s rv ru e q => by
  cases x <;> simp only [ixD] at e <;> first | (cases e; done) | skip
  · rename_i zs
    cases y <;> simp only at e <;> first | (cases e; done) | skip
    split at e
    · rename_i hl
      cases k : L2.atI zs.cps.toList _ with
      | none => rw [k] at e; cases e
      | some c =>
        rw [k] at e; cases e
        cases ru; cases rv
        exact .inl (.inr (.inr ⟨zs, _, c, rfl, rfl, by rw [sizeLine_eq]; omega, k, q _ (.str _)⟩))
    · cases e
  · cases y <;> simp only at e <;> first | (cases e; done) | skip
    obtain ⟨p, xs, rfl, h, rs⟩ := rv
    cases ru
    obtain ⟨w, h1, h2⟩ := rs.atI e
    exact .inl (.inl ⟨p, xs, _, w, rfl, rfl, SqL.of h, h1, q _ h2⟩)
  · cases y <;> simp only at e <;> first | (cases e; done) | skip
    obtain ⟨p, xs, rfl, h, rs⟩ := rv
    cases ru
    obtain ⟨w, h1, h2⟩ := rs.atI e
    exact .inl (.inr (.inl ⟨p, xs, _, w, rfl, rfl, SqT.of h, h1, q _ h2⟩))
  · rename_i ks ds
    cases k : toKey y with
    | none => rw [k] at e; cases e
    | some kk =>
      rw [k] at e
      obtain ⟨p, kvs, rfl, h, e2, rs⟩ := rv
      subst e2
      obtain ⟨w, h1, h2⟩ := (dlook_val rs).1 _ e
      exact .inr ⟨p, w, rfl, .inl ⟨kvs, kk, h, rep_key ru k, h1.symm⟩, q _ h2⟩
  · rename_i ks ds
    cases k : tkD y with
    | none => rw [k] at e; cases e
    | some kk =>
      rw [k] at e
      obtain ⟨p, kvs, rfl, h, e2, rs⟩ := rv
      subst e2
      obtain ⟨w, h1, h2⟩ := (tlook_val rs).1 _ e
      obtain ⟨b, rfl, hb⟩ := rep_tk ru k
      exact .inr ⟨p, w, rfl, .inr ⟨kvs, kk, b, h, rfl, s _ _ hb, h1.symm⟩, q _ h2⟩
theorem tr_ix {k : Nat} (hr : Room k X.A) (hf : TrF X π a f) (hg : TrF X π b g) (hs : PlainIx b := by exact fun _ _ => rfl) : TrF X π (.Subscript a b pos) (op2 ixD f g) := tr_rd2' hf hg rd_ix fun h1 h2 => pe_ix (ix_seq.or (ix_dict hr)) h1 h2 hs
theorem tr_ixv {k : Nat} (i : Nat) {x : Str} {pos' : Pos} (hr : Room k X.A) (hg : TrF X π b g) (hs : PlainIx b := by exact fun _ _ => rfl) (hN : X.N[i]? = some x := by kernel_rfl)
    (hv : Vis X.env.scope x := by first | exact Or.inl rfl | exact Or.inr (Or.inl rfl) | exact Or.inr (Or.inr rfl)) (hd : (x == ("__debug__" : Str)) = false := by decide)
    (hcd : (x == ("__classdict__" : Str)) = false := by decide) : TrF X π (.Subscript (.Name x pos') b pos) (op2v ixD i g) := tr_rd2v i hg rd_ix (fun h1 h2 => pe_ix (ix_seq.or (ix_dict hr)) h1 h2 hs) hN hv hd hcd

/-! ### one-argument built-ins -/
def RdCall (X : Cx) (r : List V → Hp → VK → Prop) (o : D → Option D) : Prop := ∀ (B H : Hp) (x : D) (v : V) (z : D) (Q : VK), Same B H → See X.K B H v x → o x = some z → (∀ w, Rep X.K B w z → Q w H) → r [v] H Q
theorem tr_call1 {r : List V → Hp → VK → Prop} {o : D → Option D} (hf : TrP X π a f) (ho : RdCall X r o) {e : Expr} (pe : ∀ {t : TA}, PA X [a] t → PE X e (tCB r t)) (hst : starEach [a] X.env = (false, eval a X.env) :: starEach [] X.env := by kernel_rfl) : TrF X π e (op1 o f) :=
  tr_rd1 (r := fun v H Q => r [v] H Q) hf (fun B H x v z Q s rv e q => ho B H x v z Q s rv e q) fun h => pe (pa_cons h pa_nil hst)
def lenD : D → Option D
  | .lst ds => some (.int ds.length)
  | .kl ds => some (.int ds.length)
  | .tup ds => some (.int ds.length)
  | .dic ks _ => some (.int ks.length)
  | .str x => if x.length ≤ 1000000 then some (.int x.length) else none
  | _ => none
theorem len_of_dk {H : Hp} {a : Addr} {kvs : List (Key × V)} {pins : List (Addr × Obj)} {σ : L2.St} {s : Shared} (I : Inv X pins σ H s) (h : Rd H a (.dK kvs)) : True := trivial
end
end L2.TT

set_option Elab.async false
set_option linter.all false
set_option maxRecDepth 100000
set_option maxHeartbeats 1000001
namespace L2.TT
open PySem PyProof.Rows PySem.Spec

section
variable {X : Cx} {π : Pm} {a b c e : Expr} {es : List Expr} {f g h : M D} {fs gs : M (List D)} {pos p1 p2 : Pos}
/-! ### len, int, tuple, list, all -/
theorem rd_len : RdCall X (fun xs H Q => (∃ x n, xs = [x] ∧ LenV X.K x H n ∧ Q (.int n) H) ∨ (∃ a kvs, xs = [V.ref a] ∧ Rd H a (.dK kvs) ∧ Q (.int kvs.length) H)) lenD := fun B H x v z Q s rv e q => by
  cases x <;> simp only [lenD] at e <;> first | (cases e; done) | skip
  · split at e
    · rename_i hl
      cases e; cases rv
      exact .inl ⟨_, _, rfl, ⟨by rw [sizeLine_eq]; omega, rfl⟩, q _ (.int _)⟩
    · cases e
  · cases e
    obtain ⟨p, xs, rfl, h, rs⟩ := rv
    exact .inl ⟨_, xs.length, rfl, .inl ⟨xs, SqL.of h, rfl⟩, q _ (by rw [rs.length]; exact .int _)⟩
  · cases e
    obtain ⟨p, xs, rfl, h, rs⟩ := rv
    exact .inl ⟨_, xs.length, rfl, .inr ⟨xs, SqT.of h, rfl⟩, q _ (by rw [rs.length]; exact .int _)⟩
  · cases e
    obtain ⟨p, kvs, rfl, h, e2, rs⟩ := rv
    refine .inr ⟨p, kvs, rfl, h, q _ ?_⟩
    rw [show kvs.length = _ from by rw [← List.length_map (f := (·.1)), e2]]
    exact .int _
  · cases e
    obtain ⟨p, xs, rfl, h, rs⟩ := rv
    exact .inl ⟨_, xs.length, rfl, .inl ⟨xs, h, rfl⟩, q _ (by rw [rs.length]; exact .int _)⟩
theorem call_lenDR : CallR X (.builtin "len") (fun xs H Q => ∃ a kvs, xs = [V.ref a] ∧ Rd H a (.dK kvs) ∧ Q (.int kvs.length) H) := by
  intro pins s σ H xs us Q I rel hyp
  obtain ⟨a, kvs, rfl, ha, q⟩ := hyp
  obtain ⟨u, rfl, ru⟩ := vals1 rel
  cases ru
  exact d_len I ha fun t s' I' => ⟨.int kvs.length, H, I', ⟨t, rfl⟩, q⟩
theorem tr_len (hf : TrP X π a f) (hm : X.mg "len" = none) (hg : Gl X "len" := by rfl) (hst : starEach [a] X.env = (false, eval a X.env) :: starEach [] X.env := by kernel_rfl) (hpl : (backTo pos (starEach [] X.env)).any (·.1) = false := by kernel_rfl) : TrF X π (.Call (.Name "len" p1) [a] [] pos) (op1 lenD f) :=
  tr_call1 hf rd_len (fun h => pe_callB (call_len.or call_lenDR) hg hm PySem.boot_len h (he := hst) (hpl := hpl)) hst
def intD : D → Option D
  | .int i => some (.int i)
  | .bl b => some (.int (if b then 1 else 0))
  | _ => none
theorem rd_int : RdCall X (fun xs H Q => (∃ i, xs = [.int i] ∧ Q (.int i) H) ∨ ∃ k, xs = [.bl k] ∧ Q (.int (if k then 1 else 0)) H) intD := fun B H x v z Q s rv e q => by
  cases x <;> simp only [intD] at e <;> first | (cases e; done) | skip
  · cases e; cases rv; exact .inr ⟨_, rfl, q _ (.int _)⟩
  · cases e; cases rv; exact .inl ⟨_, rfl, q _ (.int _)⟩
theorem tr_intc (hf : TrP X π a f) (hm : X.mg "int" = none) (hg : Gl X "int" := by rfl) (hst : starEach [a] X.env = (false, eval a X.env) :: starEach [] X.env := by kernel_rfl) (hpl : (backTo pos (starEach [] X.env)).any (·.1) = false := by kernel_rfl) : TrF X π (.Call (.Name "int" p1) [a] [] pos) (op1 intD f) :=
  tr_call1 hf rd_int (fun h => pe_callTy call_int1 hg hm (by decide +kernel) h (he := hst) (hpl := hpl)) hst
def allB : List D → Option Bool
  | [] => some true
  | .bl b :: r => (allB r).map (b && ·)
  | _ :: _ => none
def allD : D → Option D
  | .lst ds => (allB ds).map .bl
  | _ => none
theorem allB_bls {K : PySem.W.Frag} {B : Hp} : ∀ {vs : List V} {ds : List D} {b : Bool}, Reps K B vs ds → allB ds = some b → ∃ bs : List Bool, vs = bs.map V.bl ∧ bs.all id = b
  | _, _, _, .nil, e => by simp only [allB] at e; cases e; exact ⟨[], rfl, rfl⟩
  | v :: vs, d :: ds, b, .cons h t, e => by
    cases d <;> simp only [allB] at e <;> first | (cases e; done) | skip
    cases k : allB ds with
    | none => rw [k] at e; cases e
    | some b2 =>
      rw [k] at e; cases e
      obtain ⟨bs, rfl, e2⟩ := allB_bls t k
      cases h
      rename_i x
      exact ⟨x :: bs, rfl, by rw [List.all_cons, e2]; rfl⟩
theorem rd_all : RdCall X (rAll X.K) allD := fun B H x v z Q s rv e q => by
  cases x <;> simp only [allD] at e <;> first | (cases e; done) | skip
  rename_i ds
  cases k : allB ds with
  | none => rw [k] at e; cases e
  | some b =>
    rw [k] at e; cases e
    obtain ⟨p, xs, rfl, h, rs⟩ := rv
    obtain ⟨bs, rfl, e2⟩ := allB_bls rs k
    exact ⟨p, bs, rfl, SqL.of h, by rw [e2]; exact q _ (.bl _)⟩
theorem tr_all (hc : X.calm = true) (hf : TrP X π a f) (hm : X.mg "all" = none) (hg : Gl X "all" := by rfl) (hst : starEach [a] X.env = (false, eval a X.env) :: starEach [] X.env := by kernel_rfl) (hpl : (backTo pos (starEach [] X.env)).any (·.1) = false := by kernel_rfl) : TrF X π (.Call (.Name "all" p1) [a] [] pos) (op1 allD f) :=
  tr_call1 hf rd_all (fun h => pe_callB (cr_all hc) hg hm (by decide +kernel) h (he := hst) (hpl := hpl)) hst

/-- a built-in that makes a new object: the old heap stays; the new object at p is told by o's answer -/
def NewCall (X : Cx) (r : List V → Hp → VK → Prop) (o : D → Option D) : Prop := ∀ (B H : Hp) (x : D) (v : V) (z : D) (Q : VK), Same B H → See X.K B H v x → o x = some z → (∀ p u, H p = none → OwnRep X.K B (upd H p u) p z → Q (.ref p) (upd H p u)) → r [v] H Q
def op1n (o : D → Option D) (f : M D) : M (D × Bool) := bd f fun x => bd (opt (o x)) fun z => ret (z, true)
theorem tv_call1 {r : List V → Hp → VK → Prop} {o : D → Option D} (hf : TrP X π a f) (ho : NewCall X r o) {e : Expr} (pe : ∀ {t : TA}, PA X [a] t → PE X e (tCB r t)) (hst : starEach [a] X.env = (false, eval a X.env) :: starEach [] X.env := by kernel_rfl) : TrV X π e (op1n o f) := .mk fun W tk σ Γ B H Q st sat => by
  refine wE_of (pe (pa_cons pe_w pa_nil hst)) ?_
  refine hf.run W tk σ Γ B H _ st (sat.bd up_valR fun x Γ1 v B1 H1 e1 nx rv sat1 => ?_)
  cases k : o x with
  | none => rw [k] at sat1; exact (show False from sat1).elim
  | some z =>
    rw [k] at sat1
    have sat1 : Sat X.K π W σ Γ1 B1 H1 (valR X.K) (ret (z, true) Γ1) Q := sat1
    refine ho B1 H1 x v z Q nx.st.sub rv k fun p u hp ow => ?_
    exact sat1 _ _ _ (Nx.new nx.st hp) ⟨p, rfl, hp, nx.st.sub.free hp, ow, not_own_new nx.st hp⟩
def keyD : Key → D
  | .inl i => .int i
  | .inr x => .str x
def listD : D → Option D
  | .lst ds => some (.lst ds)
  | .tup ds => some (.lst ds)
  | .dic ks _ => some (.lst (ks.map keyD))
  | _ => none
theorem reps_keys {K : PySem.W.Frag} {B : Hp} : ∀ {kvs : List (Key × V)}, Reps K B (kvs.map fun kv => kV kv.1) ((kvs.map (·.1)).map keyD)
  | [] => .nil
  | (.inl i, v) :: r => .cons (.int i) reps_keys
  | (.inr x, v) :: r => .cons (.str x) reps_keys
theorem call_listDR (hc : X.calm = true) : CallR X (.type "list") (fun xs H Q => ∃ p kvs, xs = [.ref p] ∧ Rd H p (.dK kvs) ∧ ∀ q, H q = none → Q (.ref q) (upd H q (.lst (kvs.map fun kv => kV kv.1)))) := by
  intro pins s σ H zs us Q I rel hyp
  obtain ⟨p, kvs, ez, rd, fin⟩ := hyp
  subst ez
  obtain ⟨u, eu, ru⟩ := vals1 rel
  subst eu
  have : u = Value.ref p := ru
  subst this
  obtain ⟨hz, lo, vs, rk, hd⟩ := dk_rd I.hok rd
  obtain ⟨ep, hat⟩ := hd.dictAt
  have same : kvs.length = vs.length := Paired.length rk
  refine PySem.W.kdl_call (PySem.W.kdl_dict (knd := mixKind X.prog X.w) (kvs := vs) (ep := ep) lo) (I.ok.hd hc) hat (same ▸ hz) fun h2 tk acc c keep atS got => ?_
  have len : acc.toList.length = (kvs.map fun kv => kV kv.1).length := by rw [List.length_map, same, ← got.1]; simp
  have vals : Vals (kvs.map fun kv => kV kv.1) acc.toList := by
    refine vals_of_at len.symm fun j x y e1 e2 => ?_
    obtain ⟨k, z, ek, is⟩ := got.2 j y (by rw [← Array.getElem?_toList]; exact e2)
    have e3 : (kvs.map (·.1))[j]? = some k := by
      rw [KV.keys rk, List.getElem?_map, ek]
      exact rfl
    have e4 : (kvs.map fun kv => kV kv.1)[j]? = some (kV k) := by
      rw [show (kvs.map fun kv => kV kv.1) = (kvs.map (·.1)).map kV from by rw [List.map_map]; exact rfl, List.getElem?_map, e3]
      exact rfl
    rw [e4] at e1
    cases e1
    exact keyIs_rel is
  have new : ObjOk X.prog X.w (upd H s.heap.objs.size (.lst (kvs.map fun kv => kV kv.1))) h2 s.heap.objs.size (.lst (kvs.map fun kv => kV kv.1)) :=
    ⟨by rw [List.length_map]; exact hz, acc.toList, c, vals, by rw [Array.toArray_toList]; exact atS⟩
  exact ⟨.ref s.heap.objs.size, _, I.laid keep (Nat.le_refl _) new, rfl, fin _ (I.hok.fresh (Nat.le_refl _))⟩
theorem nw_list : NewCall X (fun xs H Q => (∃ p ys, xs = [.ref p] ∧ (SqL X.K H p ys ∨ SqT X.K H p ys) ∧ ∀ l, H l = none → Q (.ref l) (upd H l (.lst ys))) ∨ (∃ p kvs, xs = [.ref p] ∧ Rd H p (.dK kvs) ∧ ∀ q, H q = none → Q (.ref q) (upd H q (.lst (kvs.map fun kv => kV kv.1))))) listD := fun B H x v z Q s rv e q => by
  cases x <;> simp only [listD] at e <;> first | (cases e; done) | skip
  · cases e
    obtain ⟨p, xs, rfl, h, rs⟩ := rv
    exact .inl ⟨p, xs, rfl, .inl (SqL.of h), fun l hl => q l _ hl ⟨xs, upd_same, rs⟩⟩
  · cases e
    obtain ⟨p, xs, rfl, h, rs⟩ := rv
    exact .inl ⟨p, xs, rfl, .inr (SqT.of h), fun l hl => q l _ hl ⟨xs, upd_same, rs⟩⟩
  · cases e
    obtain ⟨p, kvs, rfl, h, e2, rs⟩ := rv
    subst e2
    exact .inr ⟨p, kvs, rfl, h, fun l hl => q l _ hl ⟨_, upd_same, reps_keys⟩⟩
theorem tv_list (hc : X.calm = true) (hf : TrP X π a f) (hm : X.mg "list" = none) (hg : Gl X "list" := by rfl) (hst : starEach [a] X.env = (false, eval a X.env) :: starEach [] X.env := by kernel_rfl) (hpl : (backTo pos (starEach [] X.env)).any (·.1) = false := by kernel_rfl) : TrV X π (.Call (.Name "list" p1) [a] [] pos) (op1n listD f) :=
  tv_call1 hf nw_list (fun h => pe_callTy (call_list_of.or (call_listDR hc)) hg hm (by decide +kernel) h (he := hst) (hpl := hpl)) hst
/-! tuple(x) -/
def tupD : D → Option D
  | .lst ds => some (.tup ds)
  | .tup ds => some (.tup ds)
  | _ => none
theorem tr_tupc (hf : TrF X π a f) (hm : X.mg "tuple" = none) (hg : Gl X "tuple" := by rfl) (hst : starEach [a] X.env = (false, eval a X.env) :: starEach [] X.env := by kernel_rfl) (hpl : (backTo pos (starEach [] X.env)).any (·.1) = false := by kernel_rfl) : TrF X π (.Call (.Name "tuple" p1) [a] [] pos) (op1 tupD f) := .mk fun W tk σ Γ B H Q st sat => by
  refine wE_of (pe_callTy call_tuple_of hg hm (by decide +kernel) (pa_cons pe_w pa_nil hst) (he := hst) (hpl := hpl)) ?_
  refine hf.run W tk σ Γ B H _ st (sat.bd up_repR fun x Γ1 v B1 H1 e1 nx rv sat1 => ?_)
  cases x <;> simp only [tupD] at sat1 <;> first | exact (show False from sat1).elim | skip
  · cases rv with
    | @lst aa xs _ h rs =>
      refine ⟨_, _, rfl, .inl ⟨SqL.of (nx.st.sub _ _ h), fun l hl => ?_⟩⟩
      have nl := Nx.laid (o := .tup xs) nx.st hl
      exact sat1 _ _ _ nl (.tup upd_same (rs.mono nl.bb))
  · cases rv with
    | tup h rs => exact ⟨_, _, rfl, .inr ⟨SqT.of (nx.st.sub _ _ h), sat1 _ _ _ (Nx.refl nx.st) (.tup h rs)⟩⟩
/-! isinstance -/
def tyN : D → Option String
  | .non => some "NoneType"
  | .bl _ => some "bool"
  | .int _ => some "int"
  | .str _ => some "str"
  | .lst _ => some "list"
  | .tup _ => some "tuple"
  | .dic _ _ => some "dict"
  | .obj _ _ _ => none
  | .kl _ => none
  | .dit _ _ => some "dict"
def isC (t c : String) : Bool := t == c || (t == "bool" && c == "int")
theorem kit_isC : ∀ t ∈ ["NoneType", "bool", "int", "str", "list", "tuple", "dict"], ∀ c ∈ ["bool", "int", "str", "list", "tuple", "dict"], kitB t c = some (isC t c) := by decide +kernel
theorem tyN_mem {d : D} {t : String} (h : tyN d = some t) : t ∈ ["NoneType", "bool", "int", "str", "list", "tuple", "dict"] := by
  cases d <;> simp only [tyN] at h <;> cases h <;> decide
/-- a value's type; a locked dict with tuple keys, too -/
inductive TyY (K : PySem.W.Frag) (H : Hp) : V → Value → Prop where
  | x {v : V} {t : Value} (h : TyX K H v t) : TyY K H v t
  | ft {a : Addr} {o : Obj} {kvs : List (List Key × V)} (e : H a = some (.frz o (.dT kvs))) : TyY K H (.ref a) (.type "dict")
theorem kit_ofY {X : Cx} {pins : List (Addr × Obj)} {σ : L2.St} {H : Hp} {s : Shared} {x : V} {u t : Value} (I : Inv X pins σ H s) (rx : RelV x u) (ty : TyY X.K H x t) : ∃ P : Heap → Prop, PySem.W.KitX X.K u t P ∧ P s.heap ∧ u ≠ .builtin "__main__.__loader__#opaque" := by
  cases ty with
  | x h => exact kit_of I rx h
  | @ft a ob kvs ea =>
    cases (show (u : Value) = .ref a from rx)
    obtain ⟨_, _, _, zs, _, oo, es, ep, g1, g2, _⟩ := (show ObjOk X.prog X.w H s.heap a (.frz ob (.dT kvs)) from I.hok a _ ea)
    exact ⟨_, PySem.W.kitx_dict, ⟨oo, g1, g2.1⟩, fun z => nomatch z⟩
def rIsY (K : PySem.W.Frag) : List V → Hp → VK → Prop := fun xs H Q => ∃ (x c : V) (t u : Value) (b : Bool), xs = [x, c] ∧ ClsV c u ∧ TyY K H x t ∧ PySem.W.kitOne K t u = some b ∧ Q (.bl b) H
def rIsYT (K : PySem.W.Frag) : List V → Hp → VK → Prop := fun xs H Q => ∃ (x : V) (tp : Addr) (cs : List V) (t : Value) (us : List Value) (b : Bool), xs = [x, .ref tp] ∧ H tp = some (.tup cs) ∧ Paired ClsV cs us ∧ TyY K H x t ∧ PySem.W.kitAny K t us = some b ∧ Q (.bl b) H
theorem call_isY : CallR X (.builtin "isinstance") (rIsY X.K) := by
  intro pins s σ H xs us Q I rel ⟨x, c, t, u, b, ex, k, ty, e, q⟩
  subst ex
  obtain ⟨u1, u2, eu, r1, r2⟩ := vals2 rel
  subst eu
  have e2 := k.eq r2
  subst e2
  obtain ⟨P, Z, p, hx⟩ := kit_ofY I r1 ty
  exact PySem.W.kia_one Z I.kIn p e hx fun n => ⟨.bl b, H, I.tok n, rfl, q⟩
theorem call_isYT : CallR X (.builtin "isinstance") (rIsYT X.K) := by
  intro pins s σ H xs us Q I rel ⟨x, tp, cs, t, ws, b, ex, hT, k, ty, e, q⟩
  subst ex
  obtain ⟨u1, u2, eu, r1, r2⟩ := vals2 rel
  subst eu
  cases (show (u2 : Value) = .ref tp from r2)
  obtain ⟨P, Z, p, hx⟩ := kit_ofY I r1 ty
  obtain ⟨_, its, rv, o, g1, g2, n, g3⟩ := (show ObjOk X.prog X.w H s.heap tp (.tup cs) from I.hok tp _ hT)
  have e3 := ClsV.all k rv
  subst e3
  obtain ⟨oc, od, dt, sl⟩ := o
  simp only at g2 g3
  subst g2 g3
  exact PySem.W.kia_tup Z I.kIn p g1 e hx fun tk => ⟨.bl b, H, I.tok tk, rfl, q⟩
theorem tyN_ty {K : PySem.W.Frag} {B H : Hp} {v : V} {d : D} {t : String} (r : See K B H v d) (h : tyN d = some t) : TyY K H v (.type t) := by
  cases d <;> simp only [tyN] at h <;> cases h
  · cases r; exact .x (.base .non)
  · cases r; exact .x (.base (.bl _))
  · cases r; exact .x (.base (.int _))
  · cases r; exact .x (.base (.str _))
  · obtain ⟨p, xs, rfl, h, _⟩ := r
    exact .x (.base (.lst h))
  · obtain ⟨p, xs, rfl, h, _⟩ := r
    exact .x (.base (.tup h))
  · obtain ⟨p, kvs, rfl, h, _⟩ := r
    rcases h with h | ⟨o, h⟩
    · exact .x (.base (.dK h))
    · exact .x (.fDict h)
  · obtain ⟨p, kvs, rfl, h, _⟩ := r
    rcases h with h | ⟨o, h⟩
    · exact .x (.base (.dT h))
    · exact .ft h
def isI (c : String) (d : D) : Option D := (tyN d).map fun t => .bl (isC t c)
def isI2 (c c' : String) (d : D) : Option D := (tyN d).map fun t => .bl (isC t c || isC t c')
theorem tr_isi {c : Str} {n : String} (hf : TrP X π a f) (hn : n ∈ ["bool", "int", "str", "list", "tuple", "dict"]) (hv : bootBuiltins c = some (.type n)) (hcm : X.mg c = none) (hm : X.mg "isinstance" = none) (hcg : Gl X c) (hcn : c ≠ "__name__") (hcd : (c == ("__debug__" : Str)) = false) (hg : Gl X "isinstance" := by rfl)
    (hst : starEach [a, .Name c p2] X.env = (false, eval a X.env) :: starEach [.Name c p2] X.env := by kernel_rfl) (hst2 : starEach [.Name c p2] X.env = (false, eval (.Name c p2) X.env) :: starEach [] X.env := by kernel_rfl) (hpl : (backTo pos (starEach [.Name c p2] X.env)).any (·.1) = false := by kernel_rfl) :
    TrF X π (.Call (.Name "isinstance" p1) [a, .Name c p2] [] pos) (op1 (isI n) f) := .mk fun W tk σ Γ B H Q st sat => by
  refine wE_of (pe_callB call_isY hg hm (by decide +kernel) (pa_cons pe_w (pa_cons (pe_bltn (v := .ty n) hcg hcm hv rfl hcn hcd) pa_nil hst2) hst) (he := hst) (hpl := hpl)) ?_
  refine hf.run W tk σ Γ B H _ st (sat.bd up_repR fun x Γ1 v B1 H1 e1 nx rv sat1 => ?_)
  cases k : tyN x with
  | none => unfold isI at sat1; rw [k] at sat1; exact (show False from sat1).elim
  | some t =>
    unfold isI at sat1; rw [k] at sat1
    have sat1 : Sat X.K π W σ Γ1 B1 H1 (repR X.K) (ret (.bl (isC t n)) Γ1) Q := sat1
    exact ⟨v, .ty n, .type t, .type n, isC t n, rfl, .ty n, tyN_ty rv k, kit_ty (kit_isC t (tyN_mem k) n hn), Sat.here nx.st sat1 (.bl _)⟩
theorem tr_isi2 {c c' : Str} {n n' : String} {x1 pt p3} (hf : TrP X π a f) (hn : n ∈ ["bool", "int", "str", "list", "tuple", "dict"]) (hn' : n' ∈ ["bool", "int", "str", "list", "tuple", "dict"]) (hv : bootBuiltins c = some (.type n)) (hv' : bootBuiltins c' = some (.type n')) (hcm : X.mg c = none) (hcm' : X.mg c' = none) (hm : X.mg "isinstance" = none)
    (hcg : Gl X c) (hcn : c ≠ "__name__") (hcd : (c == ("__debug__" : Str)) = false) (hcg' : Gl X c') (hcn' : c' ≠ "__name__") (hcd' : (c' == ("__debug__" : Str)) = false) (hg : Gl X "isinstance" := by rfl)
    (hst : starEach [a, .Tuple [.Name c p2, .Name c' p3] x1 pt] X.env = (false, eval a X.env) :: starEach [.Tuple [.Name c p2, .Name c' p3] x1 pt] X.env := by kernel_rfl) (hst2 : starEach [.Tuple [.Name c p2, .Name c' p3] x1 pt] X.env = (false, eval (.Tuple [.Name c p2, .Name c' p3] x1 pt) X.env) :: starEach [] X.env := by kernel_rfl)
    (hs3 : starEach [.Name c p2, .Name c' p3] X.env = (false, eval (.Name c p2) X.env) :: starEach [.Name c' p3] X.env := by kernel_rfl) (hs4 : starEach [.Name c' p3] X.env = (false, eval (.Name c' p3) X.env) :: starEach [] X.env := by kernel_rfl)
    (hpl : (backTo pos (starEach [.Tuple [.Name c p2, .Name c' p3] x1 pt] X.env)).any (·.1) = false := by kernel_rfl) :
    TrF X π (.Call (.Name "isinstance" p1) [a, .Tuple [.Name c p2, .Name c' p3] x1 pt] [] pos) (op1 (isI2 n n') f) := .mk fun W tk σ Γ B H Q st sat => by
  refine wE_of (pe_callB call_isYT hg hm (by decide +kernel) (pa_cons pe_w (pa_cons (pe_tup (pa_cons (pe_bltn (v := .ty n) hcg hcm hv rfl hcn hcd) (pa_cons (pe_bltn (v := .ty n') hcg' hcm' hv' rfl hcn' hcd') pa_nil hs4) hs3)) pa_nil hst2) hst) (he := hst) (hpl := hpl)) ?_
  refine hf.run W tk σ Γ B H _ st (sat.bd up_repR fun x Γ1 v B1 H1 e1 nx rv sat1 => ?_)
  refine ⟨by show 2 ≤ sizeLine; rw [sizeLine_eq]; decide, fun p hp => ?_⟩
  have nl := Nx.new (o := .tup [.ty n, .ty n']) nx.st hp
  cases k : tyN x with
  | none => unfold isI2 at sat1; rw [k] at sat1; exact (show False from sat1).elim
  | some t =>
    unfold isI2 at sat1; rw [k] at sat1
    have sat1 : Sat X.K π W σ Γ1 B1 H1 (repR X.K) (ret (.bl (isC t n || isC t n')) Γ1) Q := sat1
    have sH : Same H1 (upd H1 p (.tup [.ty n, .ty n'])) := fun a u z => by rw [upd_ne (ne_of_none z hp)]; exact z
    refine ⟨v, p, [.ty n, .ty n'], .type t, [.type n, .type n'], isC t n || isC t n', rfl, upd_same, .cons (.ty _) (.cons (.ty _) .nil), tyN_ty (rv.mono (Same.refl _) sH) k, ?_, sat1 _ _ _ nl (.bl _)⟩
    refine kitAny_cons (kit_ty (kit_isC t (tyN_mem k) n hn)) (fun e => ?_) (fun e => by rw [e]; rfl)
    rw [e, Bool.false_or]
    refine kitAny_cons (kit_ty (kit_isC t (tyN_mem k) n' hn')) (fun e => ?_) (fun e => e)
    rw [e]; exact kitAny_nil
end
end L2.TT

set_option Elab.async false
set_option linter.all false
set_option maxRecDepth 100000
set_option maxHeartbeats 1000001
namespace L2.TT
open PySem PyProof.Rows PySem.Spec

/-! ### statements -/
inductive Fl where
  | nx | bk | ct
  | rt (d : D) (o : Bool)
/-- what a def hands back: owned things come from a slot, or are new -/
def rtR (K : PySem.W.Frag) (σ : L2.St) (Γ : List Sl) (H : Hp) (σ' : L2.St) (Γ' : List Sl) (B' H' : Hp) (d : D) (o : Bool) (v : V) : Prop := match o with
  | false => Rep K B' v d
  | true => ∃ q, v = .ref q ∧ (OwnAt Γ σ q ∨ H q = none) ∧ B' q = none ∧ OwnRep K B' H' q d ∧ ¬ OwnAt Γ' σ' q
def FlS (K : PySem.W.Frag) (σ : L2.St) (Γ : List Sl) (H : Hp) (Dn : Ends) (fl : Fl) (σ' : L2.St) (Γ' : List Sl) (B' H' : Hp) : Prop := match fl with
  | .nx => Dn.nx σ' H'
  | .bk => Dn.bk σ' H'
  | .ct => Dn.ct σ' H'
  | .rt d o => ∀ v, rtR K σ Γ H σ' Γ' B' H' d o v → Dn.rt v H'
def SatS (K : PySem.W.Frag) (π : Pm) (W : WX) (σ : L2.St) (Γ : List Sl) (B H : Hp) (r : Option (Rs Fl)) (Dn : Ends) : Prop :=
  match r with
  | none => False
  | some (.ok fl Γ') => ∀ σ' B' H', Nx K π σ Γ B H σ' Γ' B' H' → FlS K σ Γ H Dn fl σ' Γ' B' H'
  | some (.er c fs Γ') => ∀ dd σ' B' H', Nx K π σ Γ B H σ' Γ' B' H' → ErR K B' dd fs → NonO H dd → W (.ref (He.ga K c)) dd σ' H'
structure TrB (X : Cx) (π : Pm) (w : TS) (m : M Fl) : Prop where
  run : ∀ (W : WX), Takes X W → ∀ (σ : L2.St) (Γ : List Sl) (B H : Hp) (Dn : Ends), Stt X.K π B H σ Γ → SatS X.K π W σ Γ B H (m Γ) Dn → w Dn σ H
abbrev TrS (X : Cx) (π : Pm) (s : Stmt) (m : M Fl) : Prop := TrB X π (wS X s) m
abbrev TrSs (X : Cx) (π : Pm) (s : List Stmt) (m : M Fl) : Prop := TrB X π (wSs X s) m

theorem FlS.up {K : PySem.W.Frag} {σ σ1 : L2.St} {Γ Γ1 : List Sl} {H H1 B B1 : Hp} {π : Pm} {Dn : Ends} {fl : Fl} {σ' : L2.St} {Γ' : List Sl} {B' H' : Hp} (nx : Nx K π σ Γ B H σ1 Γ1 B1 H1) (h : FlS K σ Γ H Dn fl σ' Γ' B' H') : FlS K σ1 Γ1 H1 Dn fl σ' Γ' B' H' := by
  cases fl with
  | rt d o =>
    intro v r
    refine h v ?_
    cases o with
    | false => exact r
    | true =>
      obtain ⟨q, e, hq, r⟩ := r
      refine ⟨q, e, ?_, r⟩
      rcases hq with hq | hq
      · exact nx.ev q hq
      · exact .inr (none_of nx.nd hq)
  | _ => exact h
/-- an expression, then a statement's rest, from the state behind it -/
theorem SatS.bd {α β : Type} {K : PySem.W.Frag} {π : Pm} {W : WX} {σ : L2.St} {Γ : List Sl} {B H : Hp} {r1 : Rl α β} {m : M α} {k : α → M Fl} {Dn : Ends} {P : β → Hp → Prop}
    (h : SatS K π W σ Γ B H (TT.bd m k Γ) Dn)
    (p : ∀ a Γ1 b B1 H1, m Γ = some (.ok a Γ1) → Nx K π σ Γ B H σ Γ1 B1 H1 → r1 H σ B1 H1 Γ1 a b → SatS K π W σ Γ B H (k a Γ1) Dn → P b H1) : Sat K π W σ Γ B H r1 (m Γ) P := by
  unfold TT.bd at h
  cases e : m Γ with
  | none => rw [e] at h; exact h
  | some r =>
    rw [e] at h
    cases r with
    | ok a Γ1 => exact fun b B1 H1 nx rr => p a Γ1 b B1 H1 e nx rr h
    | er c fs Γ1 => exact fun dd B' H' nx er hd => h dd σ B' H' nx er hd
theorem SatS.via {K : PySem.W.Frag} {π : Pm} {W : WX} {σ σ1 : L2.St} {Γ Γ1 : List Sl} {B H B1 H1 : Hp} {r : Option (Rs Fl)} {Dn : Ends} (h : SatS K π W σ Γ B H r Dn) (nx : Nx K π σ Γ B H σ1 Γ1 B1 H1) : SatS K π W σ1 Γ1 B1 H1 r Dn := by
  cases r with
  | none => exact h
  | some r =>
    cases r with
    | ok fl Γ2 => exact fun σ2 B2 H2 nx2 => (h σ2 B2 H2 (nx.trans nx2)).up nx
    | er c fs Γ2 => exact fun dd σ2 B2 H2 nx2 er hd => h dd σ2 B2 H2 (nx.trans nx2) er (nonO_of nx.nd hd)

section
variable {X : Cx} {π : Pm} {a b c e : Expr} {es : List Expr} {f g h : M D} {s : Stmt} {ss : List Stmt} {u v : M Fl} {pos p1 p2 : Pos}
def seqM (u v : M Fl) : M Fl := fun Γ => match u Γ with
  | none => none
  | some (.ok .nx Γ') => v Γ'
  | some r => some r
theorem ts_nil : TrSs X π [] (ret .nx) := .mk fun W tk σ Γ B H Dn st sat => wSs_of pss_nil (sat σ B H (Nx.refl st))
theorem SatS.seq {K : PySem.W.Frag} {W : WX} {σ : L2.St} {Γ : List Sl} {B H : Hp} {u v : M Fl} {Dn : Ends} {N : L2.St → Hp → Prop} (h : SatS K π W σ Γ B H (seqM u v Γ) Dn)
    (p : ∀ σ1 Γ1 B1 H1, Nx K π σ Γ B H σ1 Γ1 B1 H1 → SatS K π W σ Γ B H (v Γ1) Dn → N σ1 H1) : SatS K π W σ Γ B H (u Γ) { Dn with nx := N } := by
  unfold seqM at h
  cases e : u Γ with
  | none => rw [e] at h; exact h
  | some r =>
    rw [e] at h
    cases r with
    | ok fl Γ1 =>
      cases fl with
      | nx => exact fun σ' B' H' nx => p σ' Γ1 B' H' nx h
      | bk => exact h
      | ct => exact h
      | rt d o => exact h
    | er c fs Γ1 => exact h
theorem ts_cons (hs : TrS X π s u) (ht : TrSs X π ss v) : TrSs X π (s :: ss) (seqM u v) := .mk fun W tk σ Γ B H Dn st sat => by
  refine wSs_of (pss_cons ps_w pss_w) ?_
  exact hs.run W tk σ Γ B H _ st (sat.seq fun σ1 Γ1 B1 H1 nx sat1 => ht.run W tk σ1 Γ1 B1 H1 Dn nx.st (sat1.via nx))
theorem ts_one (hs : TrS X π s u) : TrSs X π [s] u := .mk fun W tk σ Γ B H Dn st sat => wSs_of (pss_one ps_w) (hs.run W tk σ Γ B H Dn st sat)
def retM (m : M (D × Bool)) : M Fl := bd m fun p => ret (.rt p.1 p.2)
theorem ts_ret {m : M (D × Bool)} (hm : TrV X π e m) : TrS X π (.Return (some e) pos) (retM m) := .mk fun W tk σ Γ B H Dn st sat => by
  refine wS_of (ps_ret pe_w) ?_
  refine hm.run W tk σ Γ B H _ st (sat.bd fun p Γ1 v B1 H1 e1 nx rv sat1 => ?_)
  obtain ⟨d, o⟩ := p
  refine sat1 σ B1 H1 nx v ?_
  cases o with
  | false => exact rv
  | true =>
    obtain ⟨q, e, hq, r⟩ := rv
    exact ⟨q, e, .inr hq, r⟩
theorem ts_retN : TrS X π (.Return none pos) (ret (.rt .non false)) := .mk fun W tk σ Γ B H Dn st sat => wS_of ps_retN (sat σ B H (Nx.refl st) .non .non)
/-- return name: what it owns goes along -/
def rtv (i : Nat) : M Fl := fun Γ => match Γ[i]? with
  | some (.fz d) => some (.ok (.rt d false) Γ)
  | some (.ow d) => some (.ok (.rt d true) (Γ.set i .no))
  | _ => none
theorem Nx.drop {K : PySem.W.Frag} {B H B0 H0 : Hp} {σ σ0 : L2.St} {Γ Γ0 : List Sl} {x : Sl} (nx : Nx K π σ0 Γ0 B0 H0 σ Γ B H) (i : Nat) (hx : x = .no) : Nx K π σ0 Γ0 B0 H0 σ (Γ.set i x) B H := by
  subst hx
  have st := nx.st
  have old : ∀ {j : Nat} {x : Sl}, x ≠ .no → (Γ.set i .no)[j]? = some x → Γ[j]? = some x ∧ j ≠ i := fun {j x} nn h => by
    by_cases e : j = i
    · subst e
      by_cases l : j < Γ.length
      · rw [List.getElem?_set_self l] at h; cases h; exact absurd rfl nn
      · rw [List.getElem?_eq_none (by simpa using l)] at h; cases h
    · rw [List.getElem?_set_ne (Ne.symm e)] at h; exact ⟨h, e⟩
  have oldo : ∀ {j : Nat} {d : D}, ((Γ.set i .no)[j]? = some (.ow d) ∨ (Γ.set i .no)[j]? = some (.pn d)) → (Γ[j]? = some (.ow d) ∨ Γ[j]? = some (.pn d)) := fun {j d} h => by
    rcases h with h | h
    · exact .inl (old (by intro z; cases z) h).1
    · exact .inr (old (by intro z; cases z) h).1
  refine ⟨⟨st.sub, by rw [List.length_set]; exact st.len, fun j d h => st.fz j d (old (by intro z; cases z) h).1, fun j d h => st.ow j d (oldo h), fun j d h => st.pn j d (old (by intro z; cases z) h).1, fun j c fs h => st.ex j c fs (old (by intro z; cases z) h).1, fun j k p d e h1 h2 => st.inj j k p d e (oldo h1) (oldo h2), fun j ks ds h => st.lk j ks ds (old (by intro z; cases z) h).1⟩, nx.bb, nx.fr, nx.nd, fun a ⟨j, d, h, e⟩ => nx.ev a ⟨j, d, oldo h, e⟩⟩
theorem ts_rtv (i : Nat) {x : Str} {np : Pos} (hN : X.N[i]? = some x := by kernel_rfl) (hv : Vis X.env.scope x := by first | exact Or.inl rfl | exact Or.inr (Or.inl rfl) | exact Or.inr (Or.inr rfl)) (hd : (x == ("__debug__" : Str)) = false := by decide)
    (hcd : (x == ("__classdict__" : Str)) = false := by decide) : TrS X π (.Return (some (.Name x np)) pos) (rtv i) := .mk fun W tk σ Γ B H Dn st sat => by
  refine wS_of (ps_ret (pe_var hN hv hd hcd)) ?_
  unfold rtv at sat
  cases e : Γ[i]? with
  | none => rw [e] at sat; exact sat.elim
  | some s =>
    rw [e] at sat
    cases s with
    | fz d =>
      obtain ⟨v, h1, h2⟩ := st.fz i d e
      exact ⟨v, h1, sat σ B H (Nx.refl st) v h2⟩
    | ow d =>
      obtain ⟨p, h1, bp, r⟩ := st.ow i d (.inl e)
      have nx := (Nx.refl st).drop i (x := .no) rfl
      refine ⟨_, h1, sat σ B H nx (.ref p) ⟨p, rfl, .inl ⟨i, d, .inl e, h1⟩, bp, r, ?_⟩⟩
      rintro ⟨j, d', hj, ej⟩
      have il : i < Γ.length := (List.getElem?_eq_some_iff.mp e).1
      have nj : j ≠ i := fun z => by
        subst z
        rw [List.getElem?_set_self il] at hj
        rcases hj with hj | hj <;> cases hj
      rw [List.getElem?_set_ne (Ne.symm nj)] at hj
      exact nj (st.inj j i p d' d hj (.inl e) ej h1)
    | lk ks ds => exact sat.elim
    | no => exact sat.elim
    | pn d => exact sat.elim
    | ex c fs => exact sat.elim
def exprM {α : Type} (m : M α) : M Fl := bd m fun _ => ret .nx
theorem ts_expr {m : M (D × Bool)} (hm : TrV X π e m) (hs : swapsWith e none pos.line X.env = pure false := by kernel_rfl) : TrS X π (.Expr e pos) (exprM m) := .mk fun W tk σ Γ B H Dn st sat => by
  refine wS_of (ps_expr pe_w hs) ?_
  exact hm.run W tk σ Γ B H _ st (sat.bd fun p Γ1 v B1 H1 e1 nx rv sat1 => sat1 σ B1 H1 nx)
theorem ts_pass : TrS X π (.Pass pos) (ret .nx) := .mk fun W tk σ Γ B H Dn st sat => wS_of ps_pass (sat σ B H (Nx.refl st))
theorem ts_break : TrS X π (.Break pos) (ret .bk) := .mk fun W tk σ Γ B H Dn st sat => wS_of ps_break (sat σ B H (Nx.refl st))
theorem ts_cont : TrS X π (.Continue pos) (ret .ct) := .mk fun W tk σ Γ B H Dn st sat => wS_of ps_continue (sat σ B H (Nx.refl st))
theorem ts_if {t : M Bool} {as bs : List Stmt} (ht : TrT X π c t) (ha : TrSs X π as u) (hb : TrSs X π bs v) : TrS X π (.If c as bs pos) (ifM t u v) := .mk fun W tk σ Γ B H Dn st sat => by
  refine wS_of (ps_if pt_w pss_w pss_w) ?_
  refine ht.run W tk σ Γ B H _ st (sat.bd fun x Γ1 b B1 H1 e1 nx rv sat1 => ?_)
  cases rv
  cases x with
  | true => exact iteT (ha.run W tk σ Γ1 B1 H1 Dn nx.st (sat1.via nx))
  | false => exact iteF (hb.run W tk σ Γ1 B1 H1 Dn nx.st (sat1.via nx))

/-! ### a name is stored -/
def stS (i : Nat) (d : D) (o : Bool) : M Unit := fun Γ => match Γ[i]? with
  | some (.pn _) => none
  | some (.ex _ _) => none
  | some (.lk _ _) => none
  | some _ => some (.ok () (Γ.set i (if o then .ow d else .fz d)))
  | none => none
/-- a frozen value is stored -/
theorem Nx.put {K : PySem.W.Frag} {B H B0 H0 : Hp} {σ σ0 : L2.St} {Γ Γ0 : List Sl} {i : Nat} {v : V} {d : D} {o : Bool} (nx : Nx K π σ0 Γ0 B0 H0 σ Γ B H) (hi : i < Γ.length) (hp : ∀ d, Γ[i]? ≠ some (.pn d))
    (r : match o with | false => Rep K B v d | true => ∃ q, v = .ref q ∧ (OwnAt Γ0 σ0 q ∨ H0 q = none) ∧ B q = none ∧ OwnRep K B H q d ∧ ¬ OwnAt Γ σ q) : Nx K π σ0 Γ0 B0 H0 (σ.set i (some v)) (Γ.set i (if o then .ow d else .fz d)) B H := by
  have st := nx.st
  have hs : i < σ.length := by rw [← st.len]; exact hi
  have at_ : ∀ {j : Nat} {x : Sl}, (Γ.set i (if o then .ow d else .fz d))[j]? = some x → (j = i ∧ x = (if o then .ow d else .fz d)) ∨ (j ≠ i ∧ Γ[j]? = some x) := fun {j x} h => by
    by_cases e : j = i
    · subst e; rw [List.getElem?_set_self hi] at h; exact .inl ⟨rfl, (Option.some.inj h).symm⟩
    · rw [List.getElem?_set_ne (Ne.symm e)] at h; exact .inr ⟨e, h⟩
  have ne_ : ∀ {j : Nat}, j ≠ i → (σ.set i (some v))[j]? = σ[j]? := fun e => List.getElem?_set_ne (Ne.symm e)
  have ato : ∀ {j : Nat} {x : D}, ((Γ.set i (if o then .ow d else .fz d))[j]? = some (.ow x) ∨ (Γ.set i (if o then .ow d else .fz d))[j]? = some (.pn x)) → (j = i ∧ o = true ∧ x = d) ∨ (j ≠ i ∧ (Γ[j]? = some (.ow x) ∨ Γ[j]? = some (.pn x))) := fun {j x} h => by
    rcases h with h | h
    · rcases at_ h with ⟨e, z⟩ | ⟨n, h⟩
      · cases o with
        | true => cases z; exact .inl ⟨e, rfl, rfl⟩
        | false => cases z
      · exact .inr ⟨n, .inl h⟩
    · rcases at_ h with ⟨e, z⟩ | ⟨n, h⟩
      · cases o <;> cases z
      · exact .inr ⟨n, .inr h⟩
  refine ⟨⟨st.sub, by rw [List.length_set, List.length_set]; exact st.len, fun j x h => ?_, fun j x h => ?_, fun j x h => ?_, fun j c fs h => ?_, fun j k p x y h1 h2 e1 e2 => ?_, fun j ks ds h => ?_⟩, nx.bb, nx.fr, nx.nd, fun a ⟨j, x, h, e⟩ => ?_⟩
  · rcases at_ h with ⟨rfl, z⟩ | ⟨n, h⟩
    · cases o with
      | true => cases z
      | false => cases z; exact ⟨v, List.getElem?_set_self hs, r⟩
    · rw [ne_ n]; exact st.fz j x h
  · rcases ato h with ⟨rfl, ho, rfl⟩ | ⟨n, h⟩
    · subst ho
      obtain ⟨q, rfl, _, b, w, _⟩ := r
      exact ⟨q, List.getElem?_set_self hs, b, w⟩
    · rw [ne_ n]; exact st.ow j x h
  · rcases at_ h with ⟨rfl, z⟩ | ⟨n, h⟩
    · cases o <;> cases z
    · rw [ne_ n]; exact st.pn j x h
  · rcases at_ h with ⟨rfl, z⟩ | ⟨n, h⟩
    · cases o <;> cases z
    · rw [ne_ n]; exact st.ex j c fs h
  · rcases ato h1 with ⟨rfl, ho, rfl⟩ | ⟨n1, g1⟩
    · rcases ato h2 with ⟨rfl, _, _⟩ | ⟨n2, g2⟩
      · rfl
      · subst ho
        obtain ⟨q, rfl, _, b, w, no⟩ := r
        rw [List.getElem?_set_self hs] at e1
        cases e1
        rw [ne_ n2] at e2
        exact absurd ⟨k, y, g2, e2⟩ no
    · rcases ato h2 with ⟨rfl, ho, rfl⟩ | ⟨n2, h2⟩
      · subst ho
        obtain ⟨q, rfl, _, b, w, no⟩ := r
        rw [List.getElem?_set_self hs] at e2
        cases e2
        rw [ne_ n1] at e1
        exact absurd (show OwnAt Γ σ _ from ⟨j, x, g1, e1⟩) no
      · rw [ne_ n1] at e1
        rw [ne_ n2] at e2
        exact st.inj j k p x y g1 h2 e1 e2
  · rcases at_ h with ⟨rfl, z⟩ | ⟨n, h⟩
    · cases o <;> cases z
    · exact (st.lk j ks ds h).mono (Same.refl B) (ne_ n)
  · rcases ato h with ⟨rfl, ho, rfl⟩ | ⟨n, h⟩
    · subst ho
      obtain ⟨q, rfl, hq, b, w, no⟩ := r
      rw [List.getElem?_set_self hs] at e
      cases e
      exact hq
    · rw [ne_ n] at e
      exact nx.ev a ⟨j, x, h, e⟩
theorem stS_ok {i : Nat} {d : D} {o : Bool} {Γ : List Sl} {r : Rs Unit} (h : stS i d o Γ = some r) : i < Γ.length ∧ (∀ d, Γ[i]? ≠ some (.pn d)) ∧ r = .ok () (Γ.set i (if o then .ow d else .fz d)) := by
  unfold stS at h
  cases e : Γ[i]? with
  | none => (rw [e] at h; cases h)
  | some s =>
    rw [e] at h
    have il := (List.getElem?_eq_some_iff.mp e).1
    cases s <;> simp only at h <;> first | (cases h; done) | skip
    all_goals (cases h; exact ⟨il, (fun d z => by cases z), rfl⟩)
def setM (i : Nat) (m : M (D × Bool)) : M Fl := bd m fun p => bd (stS i p.1 p.2) fun _ => ret .nx
theorem ts_set {m : M (D × Bool)} (i : Nat) {x : Str} {np : Pos} (hm : TrV X π e m) (hN : X.N.Nodup) (hi : X.N[i]? = some x := by kernel_rfl) (hx : Loc X.env.scope x := by first | exact .inl rfl | exact .inr rfl) (hs : swapsWith e (some (.Name x np)) pos.line X.env = pure false := by kernel_rfl) (hf : X.fn x = true ∨ X.env.scope.names.lookup x = some .local := by first | exact .inl rfl | exact .inr rfl) :
    TrS X π (.Assign [.Name x np] e pos) (setM i m) := .mk fun W tk σ Γ B H Dn st sat => by
  refine wS_of (ps_set hN hi hx pe_w hs hf) ?_
  refine hm.run W tk σ Γ B H _ st (sat.bd fun p Γ1 v B1 H1 e1 nx rv sat1 => ?_)
  obtain ⟨d, o⟩ := p
  have sat1 : SatS X.K π W σ Γ B H (bd (stS i d o) (fun _ => ret .nx) Γ1) Dn := sat1
  unfold TT.bd at sat1
  cases k : stS i d o Γ1 with
  | none => rw [k] at sat1; exact sat1.elim
  | some r =>
    obtain ⟨il, np, rfl⟩ := stS_ok k
    rw [k] at sat1
    refine sat1 _ B1 H1 (nx.put il np (v := v) (o := o) ?_)
    cases o with
    | false => exact rv
    | true =>
      obtain ⟨q, e, hq, r⟩ := rv
      exact ⟨q, e, .inr hq, r⟩
end
end L2.TT

set_option Elab.async false
set_option linter.all false
set_option maxRecDepth 100000
set_option maxHeartbeats 1000001
namespace L2.TT
open PySem PyProof.Rows PySem.Spec

/-! ### what is walked -/
def wI (X : Cx) (tg iter : Expr) : TI := fun σ H R => ∀ (pins : List (Addr × Obj)) (s : Shared), Inv X pins σ H s →
  wpAny (model X.prog X.w) X.A (eval iter X.env) (fun u z => wpAny (model X.prog X.w) X.A (pyIter u) (PIE X pins σ tg R) X.xe z) X.xe s
theorem pi_w {X : Cx} {tg iter : Expr} : PI X tg iter (wI X tg iter) := ⟨fun pins s σ H R I h => h pins s I⟩
theorem wI_of {X : Cx} {tg iter : Expr} {wi : TI} {σ : L2.St} {H : Hp} {R : It → Hp → Prop} (p : PI X tg iter wi) (h : wi σ H R) : wI X tg iter σ H R := fun pins s I => p.run pins s σ H R I h
/-- the iterator yields the items ds, frozen or new -/
def WalkR (K : PySem.W.Frag) (B : Hp) (J : It) (ds : List D) : Prop := ∀ (i : Nat) (B' H' : Hp), Same B B' → Same B' H' →
  (ds.length ≤ i → J.stop i H') ∧ (∀ d, ds[i]? = some d → J.go i H' ∧ ∀ x H'', J.yld i H' x H'' → ∃ B'', Same B' B'' ∧ Same B'' H'' ∧ Same H' H'' ∧ (∀ a, Nt H' a → B' a = none → B'' a = none) ∧ Rep K B'' x d)
def walkR (K : PySem.W.Frag) : Rl (List D) It := fun _ _ B _ _ ds J => WalkR K B J ds
theorem up_walkR {K} : Up (walkR K) := fun _ _ _ _ _ _ _ _ _ h => h
abbrev TrI (X : Cx) (π : Pm) (tg iter : Expr) (m : M (List D)) : Prop := Tr X π (walkR X.K) (wI X tg iter) m

section
variable {K : PySem.W.Frag} {B : Hp}
theorem sqL_inj {H : Hp} {a : Addr} {xs ys : List V} (hn : K.lookup a = none ∨ True) (h : H a = some (.lst xs)) (h' : H a = some (.lst ys)) : xs = ys := by rw [h] at h'; cases h'; rfl
/-- at a known place only one list stands -/
def Uni (K : PySem.W.Frag) (B : Hp) (a : Addr) (xs : List V) : Prop := ∀ (B' H' : Hp), Same B B' → Same B' H' → ∀ ys, SqL K H' a ys → ys = xs
theorem walk_tup {a : Addr} {xs : List V} {ds : List D} (h : B a = some (.tup xs)) (r : Reps K B xs ds) (hk : ∀ H' ys, H' a = some (.tup xs) → SqT K H' a ys → ys = xs) : WalkR K B (Itt K a) ds := by
  intro i B' H' s t
  have h' := t _ _ (s _ _ h)
  refine ⟨fun hl => ⟨xs, SqT.of h', by rw [r.length]; exact hl⟩, fun d hd => ?_⟩
  obtain ⟨v, hv, rv⟩ := r.get hd
  refine ⟨⟨xs, v, SqT.of h', hv⟩, fun x H'' ⟨e, y⟩ => ?_⟩
  subst e
  have z := y xs (SqT.of h')
  rw [hv] at z
  cases z
  exact ⟨B', Same.refl _, t, Same.refl _, fun _ _ n => n, rv.mono s⟩
theorem walk_lst {a : Addr} {xs : List V} {ds : List D} (h : SqL K B a xs) (r : Reps K B xs ds) : WalkR K B (Itl K a) ds := by
  intro i B' H' s t
  have h' := same_sqL t (same_sqL s h)
  refine ⟨fun hl => ⟨xs, h', by rw [r.length]; exact hl⟩, fun d hd => ?_⟩
  obtain ⟨v, hv, rv⟩ := r.get hd
  refine ⟨⟨xs, v, h', hv⟩, fun x H'' ⟨e, y⟩ => ?_⟩
  subst e
  have z := y xs h'
  rw [hv] at z
  cases z
  exact ⟨B', Same.refl _, t, Same.refl _, fun _ _ n => n, rv.mono s⟩
def sgs (z : Str) : List D := z.cps.toList.map fun c => .str ⟨#[c]⟩
theorem walk_str {z : Str} : WalkR K B (Its z) (sgs z) := by
  intro i B' H' s t
  refine ⟨fun hl => by show z.cps.size ≤ i; simpa [sgs] using hl, fun d hd => ?_⟩
  simp only [sgs, List.getElem?_map] at hd
  cases e : z.cps.toList[i]? with
  | none => rw [e] at hd; cases hd
  | some c =>
    rw [e] at hd
    cases hd
    have hi : i < z.cps.size := by simpa using (List.getElem?_eq_some_iff.mp e).1
    refine ⟨hi, fun x H'' ⟨eh, c', ec, ex⟩ => ?_⟩
    subst eh
    have e2 : z.cps[i]? = some c := by rw [← e]; simp
    rw [e2] at ec
    cases ec
    subst ex
    exact ⟨B', Same.refl _, t, Same.refl _, fun _ _ n => n, .str _⟩
def rngD (lo : Int) (n : Nat) : List D := (List.range n).map fun i => .int (lo + (i : Nat))
theorem walk_rng {lo : Int} {n : Nat} : WalkR K B (Itr lo n) (rngD lo n) := by
  intro i B' H' s t
  refine ⟨fun hl => by show n ≤ i; simpa [rngD] using hl, fun d hd => ?_⟩
  simp only [rngD, List.getElem?_map] at hd
  cases e : (List.range n)[i]? with
  | none => rw [e] at hd; cases hd
  | some c =>
    rw [e] at hd
    cases hd
    have hi : i < n := by simpa using (List.getElem?_eq_some_iff.mp e).1
    have ec : c = i := by
      rw [List.getElem?_range hi] at e
      exact (Option.some.inj e).symm
    subst ec
    refine ⟨hi, fun x H'' ⟨eh, ex⟩ => ?_⟩
    subst eh
    subst ex
    exact ⟨B', Same.refl _, t, Same.refl _, fun _ _ n => n, .int _⟩
end

section
variable {X : Cx} {π : Pm} {a b c e tg : Expr} {es : List Expr} {f g h : M D} {pos p1 p2 : Pos}
/-- a list, a tuple, a text -/
def iSeq (K : PySem.W.Frag) (tl : TE) : TI := fun σ H R => tl σ H fun x H1 => (∃ a xs, x = .ref a ∧ SqL K H1 a xs ∧ R (Itl K a) H1) ∨ (∃ a xs, x = .ref a ∧ SqT K H1 a xs ∧ R (Itt K a) H1) ∨ (∃ z, x = .str z ∧ R (Its z) H1)
theorem pi_seq {tl : TE} (hl : PE X a tl) : PI X tg a (iSeq X.K tl) := by
  constructor
  intro pins s σ H R I hyp
  refine thn (hl.run pins s σ H _ I hyp) fun v s1 ⟨x, H1, I1, rv, q⟩ => ?_
  rcases q with ⟨p, xs, ex, hq, q⟩ | ⟨p, xs, ex, hq, q⟩ | ⟨z, ex, q⟩
  · subst ex
    have ev : v = Value.ref p := rv
    subst ev
    obtain ⟨its, _, pl, _⟩ := I1.list hq
    exact wpAny_pyIter_list pl.isList (pi_one (tk := s1.toks) I1 _ (turn_list p _) ⟨_, Heap.get?_push_size _ rfl, rfl, rfl⟩ q)
  · subst ex
    have ev : v = Value.ref p := rv
    subst ev
    obtain ⟨its, _, pt, _⟩ := I1.tuple hq
    exact wpAny_pyIter_tuple (show s1.heap.IsTuple p its.toArray from pt) (pi_one (tk := s1.toks) I1 _ (turn_tuple p _) ⟨_, Heap.get?_push_size _ rfl, rfl, rfl⟩ q)
  · subst ex
    obtain ⟨t, ev⟩ := rv
    subst ev
    cases big : z.cps.all (· < 128)
    · exact wpAny_pyIter_wide big (pi_one (tk := s1.toks) I1 _ (turn_str _ z t "str_iterator" (Or.inr rfl)) ⟨_, Heap.get?_push_size _ rfl, rfl, rfl⟩ q)
    · exact wpAny_pyIter_ascii big (pi_one (tk := s1.toks) I1 _ (turn_str _ z t "str_ascii_iterator" (Or.inl rfl)) ⟨_, Heap.get?_push_size _ rfl, rfl, rfl⟩ q)
def tkeyD (ks : List Key) : D := .tup (ks.map keyD)
theorem rep_kV {K : PySem.W.Frag} {B : Hp} : ∀ (k : Key), Rep K B (kV k) (keyD k)
  | .inl i => .int i
  | .inr x => .str x
theorem reps_kVs {K : PySem.W.Frag} {B : Hp} : ∀ (ks : List Key), Reps K B (ks.map kV) (ks.map keyD)
  | [] => .nil
  | k :: ks => .cons (rep_kV k) (reps_kVs ks)
theorem walk_keys {K : PySem.W.Frag} {B : Hp} {d : Addr} {od : Obj} {kvs : List (Key × V)} (h : B d = some (.frz od (.dK kvs))) : WalkR K B (Itk d od kvs) ((kvs.map (·.1)).map keyD) := by
  intro i B' H' s t
  have h' := t _ _ (s _ _ h)
  refine ⟨fun hl => ⟨h', by simpa using hl⟩, fun x hx => ?_⟩
  rw [List.getElem?_map, List.getElem?_map] at hx
  cases k : kvs[i]? with
  | none => rw [k] at hx; cases hx
  | some kv =>
    rw [k] at hx
    cases hx
    refine ⟨⟨h', (List.getElem?_eq_some_iff.mp k).1⟩, fun x H'' ⟨eh, k', v', e1, e2⟩ => ?_⟩
    subst eh
    rw [k] at e1; cases e1
    subst e2
    exact ⟨B', Same.refl _, t, Same.refl _, fun _ _ n => n, rep_kV _⟩
/-- a key's tuple, that stands in the heap, is frozen at its walk -/
theorem walk_keysTu {K : PySem.W.Frag} {B : Hp} {d : Addr} {od : Obj} {kvs : List (List Key × V)} (h : B d = some (.frz od (.dT kvs))) : WalkR K B (Itkt d od kvs) ((kvs.map (·.1)).map tkeyD) := by
  intro i B' H' s t
  have h' := t _ _ (s _ _ h)
  refine ⟨fun hl => ⟨h', by simpa using hl⟩, fun x hx => ?_⟩
  rw [List.getElem?_map, List.getElem?_map] at hx
  cases k : kvs[i]? with
  | none => rw [k] at hx; cases hx
  | some kv =>
    rw [k] at hx
    cases hx
    refine ⟨⟨h', (List.getElem?_eq_some_iff.mp k).1⟩, fun x H'' ⟨eh, k', v', q, e1, e2, e3⟩ => ?_⟩
    subst eh
    rw [k] at e1; cases e1
    subst e2
    have is : ∀ a u, upd B' q (.tup (k'.map kV)) a = some u → H'' a = some u := fun a u z => by
      by_cases w : a = q
      · subst w; rw [upd_same] at z; cases z; exact e3
      · rw [upd_ne w] at z; exact t _ _ z
    refine ⟨upd B' q (.tup (k'.map kV)), fun a u z => ?_, is, Same.refl _, fun a ⟨u, g1, g2⟩ n => ?_, .tup upd_same (reps_kVs k')⟩
    · by_cases w : a = q
      · subst w; rw [upd_same, ← t _ _ z, e3]
      · rw [upd_ne w]; exact z
    · rw [upd_ne fun w => g2 _ (by rw [w, e3] at g1; exact (Option.some.inj g1).symm)]
      exact n
def itemsD : D → Option (List D)
  | .lst ds => some ds
  | .tup ds => some ds
  | .str z => some (sgs z)
  | .dic ks _ => some (ks.map keyD)
  | .dit ks _ => some (ks.map tkeyD)
  | _ => none
def itM (f : M D) : M (List D) := bd f fun x => opt (itemsD x)
/-- the reading is chosen by what is walked: the program's own data -/
theorem ti_seq (hf : TrF X π a f) : TrI X π tg a (itM f) := .mk fun W tk σ Γ B H R st sat => by
  have dict : (∃ (ks : List Key) (ds : List D) (Γ1 : List Sl), f Γ = some (.ok (.dic ks ds) Γ1)) ∨ (∃ (ks : List (List Key)) (ds : List D) (Γ1 : List Sl), f Γ = some (.ok (.dit ks ds) Γ1)) → wI X tg a σ H R := fun hd => by
    refine wI_of (pi_keys pe_w) ?_
    refine hf.run W tk σ Γ B H _ st (sat.bd up_walkR fun x Γ1 v B1 H1 e1 nx rv sat1 => ?_)
    rcases hd with ⟨ks, ds, Γ2, e2⟩ | ⟨ks, ds, Γ2, e2⟩
    · rw [e1] at e2; cases e2
      cases rv with
      | @dic p kvs _ _ hs he rs =>
        obtain ⟨od, hs⟩ := hs
        subst he
        exact ⟨p, od, rfl, .inl ⟨kvs, nx.st.sub _ _ hs, sat1 _ B1 H1 (Nx.refl nx.st) (walk_keys hs)⟩⟩
    · rw [e1] at e2; cases e2
      cases rv with
      | @dit p kvs _ _ hs he rs =>
        obtain ⟨od, hs⟩ := hs
        subst he
        exact ⟨p, od, rfl, .inr ⟨kvs, nx.st.sub _ _ hs, sat1 _ B1 H1 (Nx.refl nx.st) (walk_keysTu hs)⟩⟩
  by_cases hd : (∃ (ks : List Key) (ds : List D) (Γ1 : List Sl), f Γ = some (.ok (.dic ks ds) Γ1)) ∨ (∃ (ks : List (List Key)) (ds : List D) (Γ1 : List Sl), f Γ = some (.ok (.dit ks ds) Γ1))
  · exact dict hd
  refine wI_of (pi_seq pe_w) ?_
  refine hf.run W tk σ Γ B H _ st (sat.bd up_walkR fun x Γ1 v B1 H1 e1 nx rv sat1 => ?_)
  cases rv <;> simp only [itemsD] at sat1 <;> first | exact (show False from sat1).elim | skip
  · exact .inr (.inr ⟨_, rfl, sat1 _ B1 H1 (Nx.refl nx.st) walk_str⟩)
  · rename_i p xs ds hs rs
    exact .inl ⟨p, xs, rfl, SqL.of (nx.st.sub _ _ hs), sat1 _ B1 H1 (Nx.refl nx.st) (walk_lst (SqL.of hs) rs)⟩
  · rename_i p xs ds hs rs
    refine .inr (.inl ⟨p, xs, rfl, SqT.of (nx.st.sub _ _ hs), sat1 _ B1 H1 (Nx.refl nx.st) ?_⟩)
    intro i B' H' s t
    have h' := t _ _ (s _ _ hs)
    refine ⟨fun hl => ⟨xs, SqT.of h', by rw [rs.length]; exact hl⟩, fun d hd => ?_⟩
    obtain ⟨v, hv, rv⟩ := rs.get hd
    refine ⟨⟨xs, v, SqT.of h', hv⟩, fun x H'' ⟨e, y⟩ => ?_⟩
    subst e
    have z := y xs (SqT.of h')
    rw [hv] at z
    cases z
    exact ⟨B', Same.refl _, t, Same.refl _, fun _ _ n => n, rv.mono s⟩
  · exact absurd (.inl ⟨_, _, _, e1⟩) hd
  · exact absurd (.inr ⟨_, _, _, e1⟩) hd
/-- range(n), range(a, b) -/
def rng1 (f : M D) : M (List D) := bd f fun x => match x with
  | .int j => if j.natAbs ≤ 1000000 then ret (rngD 0 j.toNat) else fun _ => none
  | _ => fun _ => none
theorem ti_rng1 (hf : TrF X π a f) (hm : X.mg "range" = none) (hg : Gl X "range" := by rfl) (hst : starEach [a] X.env = (false, eval a X.env) :: starEach [] X.env := by kernel_rfl) (hs : starEach [a] X.env = [(false, eval a X.env)] := by kernel_rfl) : TrI X π tg (.Call (.Name "range" p1) [a] [] pos) (rng1 f) := .mk fun W tk σ Γ B H R st sat => by
  refine wI_of (pi_range1 hg hm (pa_cons pe_w pa_nil hst) hs) ?_
  refine hf.run W tk σ Γ B H _ st (sat.bd up_walkR fun x Γ1 v B1 H1 e1 nx rv sat1 => ?_)
  cases rv <;> first | exact (show False from sat1).elim | skip
  rename_i j
  simp only at sat1
  by_cases hc : j.natAbs ≤ 1000000
  · rw [if_pos hc] at sat1
    exact ⟨j, rfl, by omega, by omega, sat1 _ B1 H1 (Nx.refl nx.st) walk_rng⟩
  · rw [if_neg hc] at sat1; exact (show False from sat1).elim

/-! ### targets -/
def wG (X : Cx) (tg : Expr) : TG := fun v σ H Q => ∀ (pins : List (Addr × Obj)) (s : Shared) (u : Value), Inv X pins σ H s → RelV v u →
  wpAny (model X.prog X.w) X.A (assign tg X.env u) (fun _ s' => ∃ σ' H', Inv X pins σ' H' s' ∧ Q σ' H') X.xe s
theorem pg_w : PG X tg (wG X tg) := ⟨fun pins s σ H v u Q I r h => h pins s u I r⟩
structure TrG (X : Cx) (π : Pm) (tg : Expr) (gm : D → M Unit) (vs : List Nat) : Prop where
  run : ∀ (σ0 : L2.St) (Γ0 : List Sl) (B0 H0 : Hp) (σ : L2.St) (Γ Γ' : List Sl) (B H : Hp) (v : V) (d : D) (Q : L2.St → Hp → Prop), Nx X.K π σ0 Γ0 B0 H0 σ Γ B H → Rep X.K B v d → gm d Γ = some (.ok () Γ') →
  (∀ σ', Nx X.K π σ0 Γ0 B0 H0 σ' Γ' B H → σ'.length = σ.length → (∀ (j : Nat), j ∉ vs → σ'[j]? = σ[j]?) → Q σ' H) → wG X tg v σ H Q
theorem tg_name (i : Nat) {x : Str} (hN : X.N.Nodup) (hi : X.N[i]? = some x := by kernel_rfl) (hx : Loc X.env.scope x := by first | exact .inl rfl | exact .inr rfl) (hf : X.fn x = true ∨ X.env.scope.names.lookup x = some .local := by first | exact .inl rfl | exact .inr rfl) : TrG X π (.Name x pos) (fun d => stS i d false) [i] := .mk fun σ0 Γ0 B0 H0 σ Γ Γ' B H v d Q nx rv e hq => by
  obtain ⟨il, np, er⟩ := stS_ok e
  cases er
  intro pins s u I r
  refine (pg_name hN hi hx hf).run pins s σ H v u Q I r ?_
  exact hq _ (nx.put il np (v := v) (o := false) rv) (by rw [List.length_set]) fun j hj => List.getElem?_set_ne (fun z => hj (by rw [z]; exact List.mem_cons_self))
end
end L2.TT

set_option Elab.async false
set_option linter.all false
set_option maxRecDepth 100000
set_option maxHeartbeats 1000001
namespace L2.TT
open PySem PyProof.Rows PySem.Spec

section
variable {K : PySem.W.Frag} {π : Pm} {σ σ1 σ2 : L2.St} {Γ Γ1 Γ2 : List Sl} {B H B1 H1 : Hp}
/-- less is known of the slots -/
theorem Nx.less (nx : Nx K π σ Γ B H σ1 Γ1 B1 H1) (hl : Γ2.length = σ2.length) (h : ∀ (j : Nat) (x : Sl), Γ2[j]? = some x → x ≠ .no → Γ1[j]? = some x ∧ σ2[j]? = σ1[j]?) : Nx K π σ Γ B H σ2 Γ2 B1 H1 := by
  have st := nx.st
  have own : ∀ {j : Nat} {x : D}, (Γ2[j]? = some (.ow x) ∨ Γ2[j]? = some (.pn x)) → (Γ1[j]? = some (.ow x) ∨ Γ1[j]? = some (.pn x)) ∧ σ2[j]? = σ1[j]? := fun {j x} z => by
    rcases z with z | z
    · obtain ⟨a, b⟩ := h j _ z (by intro q; cases q); exact ⟨.inl a, b⟩
    · obtain ⟨a, b⟩ := h j _ z (by intro q; cases q); exact ⟨.inr a, b⟩
  refine ⟨⟨st.sub, hl, fun j d e => ?_, fun j d e => ?_, fun j d e => ?_, fun j c fs e => ?_, fun j k p d e h1 h2 e1 e2 => ?_, fun j ks ds e => ?_⟩, nx.bb, nx.fr, nx.nd, fun a ⟨j, d, e1, e2⟩ => ?_⟩
  · obtain ⟨a, b⟩ := h j _ e (by intro q; cases q); rw [b]; exact st.fz j d a
  · obtain ⟨a, b⟩ := own e; rw [b]; exact st.ow j d a
  · obtain ⟨a, b⟩ := h j _ e (by intro q; cases q); rw [b]; exact st.pn j d a
  · obtain ⟨a, b⟩ := h j _ e (by intro q; cases q); rw [b]; exact st.ex j c fs a
  · obtain ⟨a1, b1⟩ := own h1
    obtain ⟨a2, b2⟩ := own h2
    exact st.inj j k p d e a1 a2 (b1 ▸ e1) (b2 ▸ e2)
  · obtain ⟨a, b⟩ := h j _ e (by intro q; cases q); exact (st.lk j ks ds a).mono (Same.refl _) b
  · obtain ⟨a1, b1⟩ := own e1
    exact nx.ev a ⟨j, d, a1, b1 ▸ e2⟩
/-- the heap grew by frozen or unknown objects -/
theorem Nx.grow {B2 H2 : Hp} (nx : Nx K π σ Γ B H σ1 Γ1 B1 H1) (sB : Same B1 B2) (sH : Same H1 H2) (s2 : Same B2 H2) (n : ∀ a, Nt H1 a → B1 a = none → B2 a = none) : Nx K π σ Γ B H σ1 Γ1 B2 H2 := by
  have st := nx.st
  refine ⟨⟨s2, st.len, fun i d e => ?_, fun i d e => ?_, st.pn, fun i c fs e => ?_, st.inj, fun i ks ds e => (st.lk i ks ds e).mono sB rfl⟩, nx.bb.trans sB, fun a u e b no => ?_, fun a e => ?_, nx.ev⟩
  · obtain ⟨v, h1, h2⟩ := st.fz i d e
    exact ⟨v, h1, h2.mono sB⟩
  · obtain ⟨p, h1, h2, h3⟩ := st.ow i d e
    obtain ⟨o, ho⟩ := ho_of_own h3
    exact ⟨p, h1, n p (nt_of_own h3) h2, (h3.eqH (by rw [sH _ _ ho, ho])).monoB sB⟩
  · obtain ⟨h0, h1, fv, h2, h3, h4⟩ := st.ex i c fs e
    exact ⟨h0, h1, fv, h2.mono sB, h3, h4.mono sB⟩
  · obtain ⟨h1, h2⟩ := nx.fr a u e b no
    exact ⟨sH _ _ h1, fun nt => n a ⟨u, h1, nt⟩ (h2 nt)⟩
  · cases k : H1 a with
    | none => exact absurd k (nx.nd a e)
    | some u => rw [sH _ _ k]; exact fun z => nomatch z
end

section
variable {X : Cx} {π : Pm} {a b c e tg : Expr} {es : List Expr} {f g h : M D} {pos p1 p2 : Pos}
/-! ### a, b, .. = -/
def wGs (X : Cx) (ts : List Expr) : TGs := fun vs σ H Q => ∀ (pins : List (Addr × Obj)) (s : Shared) (us : List Value), Inv X pins σ H s → Vals vs us →
  wpAny (model X.prog X.w) X.A (assignInOrder ((assignEach ts X.env).map fun q => q.2) us) (fun _ s' => ∃ σ' H', Inv X pins σ' H' s' ∧ Q σ' H') X.xe s
theorem pgs_w {ts : List Expr} : PGs X ts (wGs X ts) := ⟨fun pins s σ H vs us Q I r h => h pins s us I r⟩
structure TrGs (X : Cx) (π : Pm) (ts : List Expr) (gm : List D → M Unit) (vs : List Nat) : Prop where
  run : ∀ (σ0 : L2.St) (Γ0 : List Sl) (B0 H0 : Hp) (σ : L2.St) (Γ Γ' : List Sl) (B H : Hp) (v : List V) (d : List D) (Q : L2.St → Hp → Prop), Nx X.K π σ0 Γ0 B0 H0 σ Γ B H → Reps X.K B v d → gm d Γ = some (.ok () Γ') →
  (∀ σ', Nx X.K π σ0 Γ0 B0 H0 σ' Γ' B H → σ'.length = σ.length → (∀ (j : Nat), j ∉ vs → σ'[j]? = σ[j]?) → Q σ' H) → wGs X ts v σ H Q
def gnil : List D → M Unit
  | [] => ret ()
  | _ => fun _ => none
def gcons (g : D → M Unit) (r : List D → M Unit) : List D → M Unit
  | d :: ds => bd (g d) fun _ => r ds
  | [] => fun _ => none
theorem tgs_nil : TrGs X π [] gnil [] := .mk fun σ0 Γ0 B0 H0 σ Γ Γ' B H v d Q nx rv e hq => by
  cases rv with
  | nil =>
    cases e
    intro pins s us I r
    exact pgs_nil.run pins s σ H [] us Q I r ⟨rfl, hq σ nx rfl fun _ _ => rfl⟩
  | cons h t => cases e
theorem tgs_cons {t : Expr} {ts : List Expr} {gm : D → M Unit} {gs : List D → M Unit} {v1 v2 : List Nat} (h1 : TrG X π t gm v1) (h2 : TrGs X π ts gs v2) (hs : (assignEach (t :: ts) X.env).map (·.2) = assign t X.env :: (assignEach ts X.env).map (·.2) := by kernel_rfl) : TrGs X π (t :: ts) (gcons gm gs) (v1 ++ v2) := .mk fun σ0 Γ0 B0 H0 σ Γ Γ' B H v d Q nx rv e hq => by
  cases rv with
  | nil => cases e
  | @cons v1 d1 vr dr hr tr =>
    have e : bd (gm d1) (fun _ => gs dr) Γ = some (.ok () Γ') := e
    unfold bd at e
    cases k : gm d1 Γ with
    | none => rw [k] at e; cases e
    | some rr =>
      rw [k] at e
      cases rr with
      | er c fs g' => cases e
      | ok u Γ1 =>
        cases u
        have e : gs dr Γ1 = some (.ok () Γ') := e
        intro pins s us I r
        refine (pgs_cons pg_w pgs_w hs).run pins s σ H (v1 :: vr) us Q I r ?_
        refine ⟨v1, vr, rfl, h1.run σ0 Γ0 B0 H0 σ Γ Γ1 B H v1 d1 _ nx hr k fun σ' nx' hl hk => ?_⟩
        refine h2.run σ0 Γ0 B0 H0 σ' Γ1 Γ' B H vr dr Q nx' tr e fun σ2 nx2 hl2 hk2 => hq σ2 nx2 (hl2.trans hl) fun j hj => ?_
        rw [hk2 j (fun z => hj (List.mem_append_right _ z)), hk j (fun z => hj (List.mem_append_left _ z))]
def gtup (n : Nat) (g : List D → M Unit) : D → M Unit
  | .tup ds => if ds.length = n then g ds else fun _ => none
  | .lst ds => if ds.length = n then g ds else fun _ => none
  | _ => fun _ => none
theorem tg_tup {ts : List Expr} {k : Nat} {gs : List D → M Unit} {vs : List Nat} {n : Nat} (hc : X.calm = true) (h : TrGs X π ts gs vs) (hn : (assignEach ts X.env).length = n := by kernel_rfl) (hst : (assignEach ts X.env).findIdx? (·.1) = none := by kernel_rfl) : TrG X π (.Tuple ts k pos) (gtup n gs) vs := .mk fun σ0 Γ0 B0 H0 σ Γ Γ' B H v d Q nx rv e hq => by
  intro pins s u I r
  cases rv <;> simp only [gtup] at e <;> first | (cases e; done) | skip
  · rename_i p xs ds hs rs
    split at e
    · rename_i hl
      refine (pg_unl hc pgs_w hn hst).run pins s σ H _ u Q I r ⟨p, xs, rfl, SqL.of (nx.st.sub _ _ hs), rs.length.trans hl, ?_⟩
      exact h.run σ0 Γ0 B0 H0 σ Γ Γ' B H xs ds Q nx rs e hq
    · cases e
  · rename_i p xs ds hs rs
    split at e
    · rename_i hl
      refine (pg_tup hc pgs_w hn hst).run pins s σ H _ u Q I r ⟨p, xs, rfl, SqT.of (nx.st.sub _ _ hs), rs.length.trans hl, ?_⟩
      exact h.run σ0 Γ0 B0 H0 σ Γ Γ' B H xs ds Q nx rs e hq
    · cases e
/-- target = value, the value frozen -/
def asgM (f : M D) (gm : D → M Unit) : M Fl := bd f fun d => bd (gm d) fun _ => ret .nx
theorem ts_asg {gm : D → M Unit} {vs : List Nat} (hf : TrF X π e f) (hg : TrG X π tg gm vs) (ge : ∀ d Γ c fs Γ', gm d Γ ≠ some (.er c fs Γ')) (hs : swapsWithSole [tg] e pos.line X.env = pure false := by kernel_rfl) (hw : swappedStores [tg] e X.env = pure none := by kernel_rfl)
    (h1 : (assignEach [tg] X.env).map (·.2) = [assign tg X.env] := by kernel_rfl) : TrS X π (.Assign [tg] e pos) (asgM f gm) := .mk fun W tk σ Γ B H Dn st sat => by
  refine wS_of (ps_asg pe_w pg_w hs hw h1) ?_
  refine hf.run W tk σ Γ B H _ st (sat.bd fun d Γ1 v B1 H1 e1 nx rv sat1 => ?_)
  have sat1 : SatS X.K π W σ Γ B H (bd (gm d) (fun _ => ret .nx) Γ1) Dn := sat1
  unfold bd at sat1
  cases k : gm d Γ1 with
  | none => rw [k] at sat1; exact sat1.elim
  | some r =>
    cases r with
    | er c fs Γ2 => exact absurd k (ge _ _ _ _ _)
    | ok u Γ2 =>
      rw [k] at sat1
      exact hg.run σ Γ B H σ Γ1 Γ2 B1 H1 v d Dn.nx nx rv k fun σ' nx' _ _ => sat1 σ' B1 H1 nx'
theorem ge_name {i : Nat} : ∀ d Γ c fs Γ', stS i d false Γ ≠ some (.er c fs Γ') := fun d Γ c fs Γ' z => by
  obtain ⟨_, _, h⟩ := stS_ok z
  cases h
theorem ge_nil : ∀ d Γ c fs Γ', gnil d Γ ≠ some (.er c fs Γ') := fun d Γ c fs Γ' z => by
  cases d <;> cases z
theorem ge_cons {gm : D → M Unit} {gs : List D → M Unit} (h1 : ∀ d Γ c fs Γ', gm d Γ ≠ some (.er c fs Γ')) (h2 : ∀ d Γ c fs Γ', gs d Γ ≠ some (.er c fs Γ')) : ∀ d Γ c fs Γ', gcons gm gs d Γ ≠ some (.er c fs Γ') := fun d Γ c fs Γ' z => by
  cases d with
  | nil => cases z
  | cons d ds =>
    have z : bd (gm d) (fun _ => gs ds) Γ = some (.er c fs Γ') := z
    unfold bd at z
    cases k : gm d Γ with
    | none => rw [k] at z; cases z
    | some r =>
      cases r with
      | er c' fs' Γ1 => exact h1 _ _ _ _ _ k
      | ok u Γ1 => rw [k] at z; exact h2 _ _ _ _ _ z
theorem ge_tup {n : Nat} {gs : List D → M Unit} (h2 : ∀ d Γ c fs Γ', gs d Γ ≠ some (.er c fs Γ')) : ∀ d Γ c fs Γ', gtup n gs d Γ ≠ some (.er c fs Γ') := fun d Γ c fs Γ' z => by
  cases d <;> simp only [gtup] at z <;> first | (cases z; done) | skip
  all_goals (split at z <;> first | exact h2 _ _ _ _ _ z | cases z)

/-! ### for -/
def forM (gm : D → M Unit) (body : M Fl) : List D → M Fl
  | [] => ret .nx
  | d :: ds => fun Γ => match gm d Γ with
    | some (.ok () Γ1) => match body Γ1 with
      | some (.ok .nx Γ2) => forM gm body ds Γ2
      | some (.ok .ct Γ2) => forM gm body ds Γ2
      | some (.ok .bk Γ2) => some (.ok .nx Γ2)
      | r => r
    | _ => none
theorem ts_for {iter : Expr} {body : List Stmt} {mi : M (List D)} {gm : D → M Unit} {vs : List Nat} {mb : M Fl} (hp : PassesOwn (model X.prog X.w) X.A X.env X.xe) (hc : X.calm = true) (hi : TrI X π tg iter mi) (hg : TrG X π tg gm vs) (hb : TrSs X π body mb)
    (hs : ∀ x, foldedSetIterable iter X.env x = pure x := by intro _; kernel_rfl) : TrS X π (.For tg iter body [] pos) (bd mi (forM gm mb)) := .mk fun W tk σ Γ B H Dn st sat => by
  refine wS_of (ps_for hp hc pi_w pg_w pss_w hs) ?_
  refine hi.run W tk σ Γ B H _ st (sat.bd fun ds Γ1 J B1 H1 e1 nx rv sat1 => ?_)
  refine ⟨fun i m σi Hi => m = ds.length - i ∧ i ≤ ds.length ∧ ∃ Γi Bi, Nx X.K π σ Γ B H σi Γi Bi Hi ∧ Same B1 Bi ∧ SatS X.K π W σ Γ B H (forM gm mb (ds.drop i) Γi) Dn, ⟨_, rfl, Nat.zero_le _, Γ1, B1, nx, Same.refl _, sat1⟩, ?_⟩
  rintro i m σi Hi ⟨rfl, hle, Γi, Bi, nxi, sBi, sati⟩
  obtain ⟨w1, w2⟩ := rv i Bi Hi sBi nxi.st.sub
  by_cases hlt : i < ds.length
  · right
    have hd : ds[i]? = some ds[i] := List.getElem?_eq_getElem hlt
    obtain ⟨g1, g2⟩ := w2 _ hd
    rw [List.drop_eq_getElem_cons hlt] at sati
    simp only [forM] at sati
    refine ⟨g1, fun σ' H' => ∃ Γ' B', Nx X.K π σ Γ B H σ' Γ' B' H' ∧ Same B1 B' ∧ SatS X.K π W σ Γ B H (forM gm mb (ds.drop (i + 1)) Γ') Dn, fun σ' H' ⟨Γ', B', n, s, z⟩ => ⟨ds.length - (i + 1), by omega, rfl, hlt, Γ', B', n, s, z⟩, fun x H' y => ?_⟩
    obtain ⟨B2, s1, s2, s3, s4, rx⟩ := g2 x H' y
    have nx2 := nxi.grow s1 s3 s2 s4
    cases k : gm ds[i] Γi with
    | none => rw [k] at sati; exact sati.elim
    | some r =>
      rw [k] at sati
      cases r with
      | er c fs Γ2 => exact sati.elim
      | ok u Γ2 =>
        cases u
        refine hg.run σ Γ B H σi Γi Γ2 B2 H' x _ _ nx2 rx k fun σ2 nx3 _ _ => ?_
        refine hb.run W tk σ2 Γ2 B2 H' _ nx3.st ?_
        simp only at sati
        cases k2 : mb Γ2 with
        | none => rw [k2] at sati; exact sati.elim
        | some r =>
          rw [k2] at sati
          cases r with
          | er c fs Γ3 => exact fun dd σ' B' H' nx4 er hd => sati dd σ' B' H' (nx3.trans nx4) er (nonO_of nx3.nd hd)
          | ok fl Γ3 =>
            cases fl with
            | nx => exact fun σ' B' H' nx4 => ⟨Γ3, B', nx3.trans nx4, (sBi.trans s1).trans nx4.bb, sati⟩
            | ct => exact fun σ' B' H' nx4 => ⟨Γ3, B', nx3.trans nx4, (sBi.trans s1).trans nx4.bb, sati⟩
            | bk => exact fun σ' B' H' nx4 => sati σ' B' H' (nx3.trans nx4)
            | rt d o =>
              intro σ' B' H' nx4
              exact (sati σ' B' H' (nx3.trans nx4)).up nx3
  · left
    have e : i = ds.length := by omega
    refine ⟨w1 (by omega), ?_⟩
    rw [List.drop_eq_nil_of_le (by omega)] at sati
    exact sati σi Bi Hi nxi
end
end L2.TT

set_option Elab.async false
set_option linter.all false
set_option maxRecDepth 100000
set_option maxHeartbeats 1000001
namespace L2.TT
open PySem PyProof.Rows PySem.Spec

def dropS : List Nat → List Sl → List Sl
  | [], Γ => Γ
  | v :: vs, Γ => (dropS vs Γ).set v .no
theorem dropS_len : ∀ (vs : List Nat) (Γ : List Sl), (dropS vs Γ).length = Γ.length
  | [], _ => rfl
  | v :: vs, Γ => by rw [dropS, List.length_set, dropS_len vs Γ]
theorem dropS_get : ∀ (vs : List Nat) (Γ : List Sl) (j : Nat) (x : Sl), (dropS vs Γ)[j]? = some x → x = .no ∨ (j ∉ vs ∧ Γ[j]? = some x)
  | [], _, _, _, h => .inr ⟨List.not_mem_nil, h⟩
  | v :: vs, Γ, j, x, h => by
    rw [dropS] at h
    by_cases e : v = j
    · subst e
      by_cases l : v < (dropS vs Γ).length
      · rw [List.getElem?_set_self l] at h; exact .inl (Option.some.inj h).symm
      · rw [List.getElem?_eq_none (by simpa using l)] at h; cases h
    · rw [List.getElem?_set_ne e] at h
      rcases dropS_get vs Γ j x h with r | ⟨r1, r2⟩
      · exact .inl r
      · exact .inr ⟨by simp only [List.mem_cons, not_or]; exact ⟨fun z => e z.symm, r1⟩, r2⟩
theorem wipe_eq : ∀ {vs : List Nat} {σ τ : L2.St}, σ.length = τ.length → (∀ (j : Nat), j ∉ vs → σ[j]? = τ[j]?) → wipe σ vs = wipe τ vs := fun {vs σ τ} hl h => by
  refine List.ext_getElem? (fun j => ?_)
  by_cases hj : j ∈ vs
  · have key : ∀ (ρ : L2.St) (us : List Nat), j ∈ us → j < ρ.length → (wipe ρ us)[j]? = some none := by
      intro ρ us
      induction us with
      | nil => intro z; cases z
      | cons u us ih =>
        intro z l
        unfold wipe
        by_cases e : u = j
        · subst e; rw [List.getElem?_set_self (by rw [wipe_length]; exact l)]
        · rw [List.getElem?_set_ne e]
          rcases List.mem_cons.mp z with q | q
          · exact absurd q.symm e
          · exact ih q l
    by_cases l : j < σ.length
    · rw [key σ vs hj l, key τ vs hj (hl ▸ l)]
    · rw [List.getElem?_eq_none (by rw [wipe_length]; omega), List.getElem?_eq_none (by rw [wipe_length]; omega)]
  · rw [wipe_out hj, wipe_out hj, h j hj]

def wTs (X : Cx) (ifs : List Expr) : TT := fun σ H Q => ∀ (pins : List (Addr × Obj)) (s : Shared), Inv X pins σ H s →
  wpAny (model X.prog X.w) X.A (forIn ifs true fun c r => if (r = true) then do let ok ← isTrue c X.env (eval c X.env); pure (ForInStep.yield ok) else pure (ForInStep.yield r)) (TP X pins σ Q) X.xe s
abbrev TrTs (X : Cx) (π : Pm) (ifs : List Expr) (m : M Bool) : Prop := Tr X π boolR (wTs X ifs) m
section
variable {X : Cx} {π : Pm} {c : Expr} {m : M Bool}
theorem tts_nil : TrTs X π [] (ret true) := .mk fun W tk σ Γ B H Q st sat pins s I => pts_nil.run pins s σ H Q I (sat.here st rfl)
theorem tts_one (h : TrT X π c m) : TrTs X π [c] m := .mk fun W tk σ Γ B H Q st sat pins s I => (pts_one pt_w).run pins s σ H Q I (h.run W tk σ Γ B H Q st sat)
end

def compL (vs : List Nat) (gm : D → M Unit) (mt : M Bool) (me : M D) : List D → List D → M (List D)
  | [], acc => ret acc
  | d :: ds, acc => fun Γ => match gm d Γ with
    | some (.ok () Γ1) => match mt Γ1 with
      | some (.ok true Γ2) => match me Γ2 with
        | some (.ok y Γ3) => if acc.length < 1000000 then compL vs gm mt me ds (acc ++ [y]) (dropS vs Γ3) else none
        | _ => none
      | some (.ok false Γ2) => compL vs gm mt me ds acc (dropS vs Γ2)
      | _ => none
    | _ => none
theorem compL_er {vs gm mt me} : ∀ (ds acc : List D) (Γ : List Sl) (c fs Γ'), compL vs gm mt me ds acc Γ ≠ some (.er c fs Γ')
  | [], acc, Γ, c, fs, Γ', h => by cases h
  | d :: ds, acc, Γ, c, fs, Γ', h => by
    simp only [compL] at h
    split at h
    · split at h
      · split at h
        · split at h
          · exact compL_er _ _ _ _ _ _ h
          · cases h
        · cases h
      · exact compL_er _ _ _ _ _ _ h
      · cases h
    · cases h
def compM (vs : List Nat) (mi : M (List D)) (gm : D → M Unit) (mt : M Bool) (me : M D) : M (D × Bool) := bd mi fun ds => fun Γ => match compL vs gm mt me ds [] (dropS vs Γ) with
  | some (.ok acc Γ') => some (.ok (.lst acc, true) Γ')
  | _ => none
/-- in a comprehension's block, wherever it stands -/
def gB (X : Cx) (scope : Scope) (tg : Expr) : TG := fun v σ H Q => ∀ (s0 : Shared) (H0 : Hp) (C : Addr) (cl : List (Str × Addr)) (fp : List Addr), wG (X.blk s0 H0 scope (compEnvC scope cl C X.env) fp) tg v σ H Q
def tB2 (X : Cx) (scope : Scope) (ifs : List Expr) : TT := fun σ H Q => ∀ (s0 : Shared) (H0 : Hp) (C : Addr) (cl : List (Str × Addr)) (fp : List Addr), wTs (X.blk s0 H0 scope (compEnvC scope cl C X.env) fp) ifs σ H Q
def eB (X : Cx) (scope : Scope) (e : Expr) : TE := fun σ H Q => ∀ (s0 : Shared) (H0 : Hp) (C : Addr) (cl : List (Str × Addr)) (fp : List Addr), wE (X.blk s0 H0 scope (compEnvC scope cl C X.env) fp) e σ H Q
section
variable {X : Cx} {π : Pm} {elt tg iter : Expr} {ifs : List Expr} {scope : Scope} {own : List (Str × Nat)} {pos : Pos} {mi : M (List D)} {gm : D → M Unit} {mt : M Bool} {me : M D} {v1 : List Nat}
theorem lst_kept {K : PySem.W.Frag} {σ σ' : L2.St} {Γ Γ' : List Sl} {B H B' H' : Hp} {p : Addr} {o : HO} (nx : Nx K π σ Γ B H σ' Γ' B' H') (h : H p = some o) (b : B p = none) (no : ¬ OwnAt Γ σ p) (nt : ∀ xs, o ≠ .tup xs := by exact fun _ z => nomatch z) : H' p = some o ∧ B' p = none ∧ ¬ OwnAt Γ' σ' p := by
  obtain ⟨h1, h2⟩ := nx.fr p o h b no
  refine ⟨h1, h2 nt, fun z => ?_⟩
  rcases nx.ev p z with q | q
  · exact no q
  · rw [h] at q; cases q
theorem Nx.setl {K : PySem.W.Frag} {σ σ0 : L2.St} {Γ Γ0 : List Sl} {B H B0 H0 : Hp} {p : Addr} {o o' : HO} (nx : Nx K π σ0 Γ0 B0 H0 σ Γ B H) (hp : H0 p = none) (h : H p = some o) (b : B p = none) (no : ¬ OwnAt Γ σ p) : Nx K π σ0 Γ0 B0 H0 σ Γ B (upd H p o') := by
  have st := nx.st
  refine ⟨⟨fun a u e => ?_, st.len, st.fz, fun i d e => ?_, st.pn, st.ex, st.inj, st.lk⟩, nx.bb, fun a u e n z => ?_, fun a e => ?_, nx.ev⟩
  · have na : a ≠ p := fun z => by rw [z, b] at e; cases e
    rw [upd_ne na]; exact st.sub _ _ e
  · obtain ⟨q, h1, h2, h3⟩ := st.ow i d e
    have nq : q ≠ p := fun z => no ⟨i, d, e, by rw [← z]; exact h1⟩
    exact ⟨q, h1, h2, h3.eqH (upd_ne nq)⟩
  · obtain ⟨h1, h2⟩ := nx.fr a u e n z
    exact ⟨by rw [upd_ne (ne_of_none e hp)]; exact h1, h2⟩
  · by_cases z : a = p
    · subst z; rw [upd_same]; exact fun z => nomatch z
    · rw [upd_ne z]; exact nx.nd a e
theorem lc_tr (hc : X.calm = true) (hN : X.N.Nodup) (hi : TrI X π tg iter mi) (ok : BlkOk X.N X.env.scope scope own) (hv : ∀ j ∈ v1, j ∈ own.map (·.2))
    (hg : ∀ (s0 : Shared) (H0 : Hp) (C : Addr) (cl : List (Str × Addr)) (fp : List Addr), TrG (X.blk s0 H0 scope (compEnvC scope cl C X.env) fp) π tg gm v1)
    (ht : ∀ (s0 : Shared) (H0 : Hp) (C : Addr) (cl : List (Str × Addr)) (fp : List Addr), TrTs (X.blk s0 H0 scope (compEnvC scope cl C X.env) fp) π ifs mt)
    (he : ∀ (s0 : Shared) (H0 : Hp) (C : Addr) (cl : List (Str × Addr)) (fp : List Addr), TrF (X.blk s0 H0 scope (compEnvC scope cl C X.env) fp) π elt me) :
    Tr X π (valR X.K) (tLc (wI X tg iter) (gB X scope tg) (tB2 X scope ifs) (eB X scope elt) (own.map (·.2))) (compM (own.map (·.2)) mi gm mt me) := .mk fun W tk σ Γ B H Q st sat => by
  generalize hvs : own.map (·.2) = vs at sat hv ⊢
  refine hi.run W tk σ Γ B H _ st (sat.bd0 fun ds Γ1 J B1 H1 e1 nx rv sat1 => ?_)
  intro Dl hD
  have hD0 : H Dl = none := none_of nx.nd hD
  -- the outcome
  cases kc : compL vs gm mt me ds [] (dropS vs Γ1) with
  | none => simp only [kc] at sat1; exact sat1.elim
  | some rr =>
    cases rr with
    | er c fs Γ' => exact absurd kc (compL_er _ _ _ _ _ _)
    | ok out Γo =>
      simp only [kc] at sat1
      have nx1 : Nx X.K π σ Γ B H (wipe σ vs) (dropS vs Γ1) B1 H1 := nx.less (by rw [dropS_len, wipe_length]; exact nx.st.len) fun j x e nn => by
        rcases dropS_get _ _ _ _ e with z | ⟨z1, z2⟩
        · exact absurd z nn
        · exact ⟨z2, wipe_out z1⟩
      have dr1 : ∀ (j : Nat) (x : Sl), (dropS vs Γ1)[j]? = some x → x ≠ .no → j ∉ vs := fun j x e nn => by
        rcases dropS_get _ _ _ _ e with z | ⟨z1, _⟩
        · exact absurd z nn
        · exact z1
      have nxD := nx1.trans (Nx.new (o := .lst []) nx1.st hD)
      refine ⟨fun i m Hi => m = ds.length - i ∧ i ≤ ds.length ∧ ∃ Γi Bi xs acc, Nx X.K π σ Γ B H (wipe σ vs) Γi Bi Hi ∧ Same B1 Bi ∧ (∀ (j : Nat) (x : Sl), Γi[j]? = some x → x ≠ .no → j ∉ vs) ∧ Hi Dl = some (.lst xs) ∧ Bi Dl = none ∧ ¬ OwnAt Γi (wipe σ vs) Dl ∧ Reps X.K Bi xs acc ∧
        compL vs gm mt me (ds.drop i) acc Γi = some (.ok out Γo), ⟨_, rfl, Nat.zero_le _, dropS vs Γ1, B1, [], [], nxD, Same.refl _, dr1, upd_same, nx1.st.sub.free hD, not_own_new nx1.st hD, .nil, kc⟩, ?_⟩
      rintro i m Hi ⟨rfl, hle, Γi, Bi, xs, acc, nxi, sBi, dri, hL, bL, nL, rs, ki⟩
      obtain ⟨w1, w2⟩ := rv i Bi Hi sBi nxi.st.sub
      by_cases hlt : i < ds.length
      · right
        have hd : ds[i]? = some ds[i] := List.getElem?_eq_getElem hlt
        obtain ⟨g1, g2⟩ := w2 _ hd
        rw [List.drop_eq_getElem_cons hlt] at ki
        simp only [compL] at ki
        refine ⟨g1, fun H' => ∃ Γ' B' xs' acc', Nx X.K π σ Γ B H (wipe σ vs) Γ' B' H' ∧ Same B1 B' ∧ (∀ (j : Nat) (x : Sl), Γ'[j]? = some x → x ≠ .no → j ∉ vs) ∧ H' Dl = some (.lst xs') ∧ B' Dl = none ∧ ¬ OwnAt Γ' (wipe σ vs) Dl ∧ Reps X.K B' xs' acc' ∧ compL vs gm mt me (ds.drop (i + 1)) acc' Γ' = some (.ok out Γo),
          fun H' ⟨Γ', B', xs', acc', n⟩ => ⟨ds.length - (i + 1), by omega, rfl, hlt, Γ', B', xs', acc', n⟩, fun x H' y => ?_⟩
        obtain ⟨B2, s1, s2, s3, s4, rx⟩ := g2 x H' y
        have ni : Nx X.K π (wipe σ vs) Γi Bi Hi (wipe σ vs) Γi B2 H' := (Nx.refl nxi.st).grow s1 s3 s2 s4
        cases k1 : gm ds[i] Γi with
        | none => rw [k1] at ki; cases ki
        | some r =>
          rw [k1] at ki
          cases r with
          | er c fs Γ2 => cases ki
          | ok u Γ2 =>
            cases u
            intro s0 H0 C cl fp
            refine (hg s0 H0 C cl fp).run _ _ _ _ _ _ Γ2 B2 H' x _ _ ni rx k1 fun σ2 n2 hl2 hk2 => ?_
            have agree : ∀ (j : Nat), j ∉ vs → (wipe σ vs)[j]? = σ2[j]? := fun j hj => (hk2 j fun z => hj (hv j z)).symm
            have fin : ∀ {Γ3 : List Sl} {B3 H3 : Hp}, Nx X.K π (wipe σ vs) Γi Bi Hi σ2 Γ3 B3 H3 → Nx X.K π (wipe σ vs) Γi Bi Hi (wipe σ vs) (dropS vs Γ3) B3 H3 := fun {Γ3 B3 H3} n3 => n3.less (by rw [dropS_len, n3.st.len, hl2]) fun j x e nn => by
              rcases dropS_get _ _ _ _ e with z | ⟨z1, z2⟩
              · exact absurd z nn
              · exact ⟨z2, agree j z1⟩
            have drd : ∀ {Γ3 : List Sl} (j : Nat) (x : Sl), (dropS vs Γ3)[j]? = some x → x ≠ .no → j ∉ vs := fun {Γ3} j x e nn => by
              rcases dropS_get _ _ _ _ e with z | ⟨z1, _⟩
              · exact absurd z nn
              · exact z1
            refine ⟨?_, ?_⟩
            · rw [wipe_eq (hl2.trans (wipe_length σ vs)) (vs := vs) fun j hj => (agree j hj).symm.trans (wipe_out hj)]
            · intro s0 H0 C cl fp
              refine (ht s0 H0 C cl fp).run (fun _ _ _ _ => False) takes0 σ2 Γ2 B2 H' _ n2.st ?_
              simp only at ki
              cases k2 : mt Γ2 with
              | none => rw [k2] at ki; cases ki
              | some r =>
                rw [k2] at ki
                cases r with
                | er c fs Γ3 => cases ki
                | ok bb Γ3 =>
                  intro b B3 H3 n3 rb
                  cases rb
                  have n23 := n2.trans n3
                  cases bb with
                  | false =>
                    simp only at ki
                    refine iteF ?_
                    obtain ⟨a1, a2, a3⟩ := lst_kept (fin n23) hL bL nL
                    exact ⟨_, B3, xs, acc, nxi.trans (fin n23), sBi.trans n23.bb, drd, a1, a2, a3, rs.mono n23.bb, ki⟩
                  | true =>
                    simp only at ki
                    refine iteT ?_
                    intro s0 H0 C cl fp
                    refine (he s0 H0 C cl fp).run (fun _ _ _ _ => False) takes0 σ2 Γ3 B3 H3 _ n3.st ?_
                    cases k3 : me Γ3 with
                    | none => rw [k3] at ki; cases ki
                    | some r =>
                      rw [k3] at ki
                      cases r with
                      | er c fs Γ4 => cases ki
                      | ok yd Γ4 =>
                        simp only at ki
                        split at ki
                        · rename_i hac
                          intro yv B4 H4 n4 ry
                          have n24 := fin (n23.trans n4)
                          obtain ⟨a1, a2, a3⟩ := lst_kept n24 hL bL nL
                          refine ⟨xs, a1, by rw [rs.length, sizeLine_eq]; omega, dropS vs Γ4, B4, xs ++ [yv], acc ++ [yd], ?_, sBi.trans n24.bb, drd, upd_same, a2, a3, (rs.mono n24.bb).append (.one ry), ki⟩
                          exact (nxi.trans n24).setl hD0 a1 a2 a3
                        · cases ki
      · left
        refine ⟨w1 (by omega), ?_⟩
        rw [List.drop_eq_nil_of_le (by omega)] at ki
        cases ki
        have nf : Nx X.K π σ Γ B H σ Γo Bi Hi := nxi.less (by rw [nxi.st.len, wipe_length]) fun j x e nn => ⟨e, (wipe_out (dri j x e nn)).symm⟩
        refine sat1 _ Bi Hi nf ⟨Dl, rfl, hD0, bL, ⟨xs, hL, rs⟩, fun ⟨j, d, hj, ej⟩ => nL ⟨j, d, hj, ?_⟩⟩
        rw [wipe_out]
        · exact ej
        · rcases hj with hj | hj
          · exact dri j _ hj (by intro z; cases z)
          · exact dri j _ hj (by intro z; cases z)
theorem tv_lc (hc : X.calm = true) (hN : X.N.Nodup) (hi : TrI X π tg iter mi) (ok : BlkOk X.N X.env.scope scope own) (hv : ∀ j ∈ v1, j ∈ own.map (·.2))
    (hg : ∀ (s0 : Shared) (H0 : Hp) (C : Addr) (cl : List (Str × Addr)) (fp : List Addr), TrG (X.blk s0 H0 scope (compEnvC scope cl C X.env) fp) π tg gm v1)
    (ht : ∀ (s0 : Shared) (H0 : Hp) (C : Addr) (cl : List (Str × Addr)) (fp : List Addr), TrTs (X.blk s0 H0 scope (compEnvC scope cl C X.env) fp) π ifs mt)
    (he : ∀ (s0 : Shared) (H0 : Hp) (C : Addr) (cl : List (Str × Addr)) (fp : List Addr), TrF (X.blk s0 H0 scope (compEnvC scope cl C X.env) fp) π elt me) (hs : ∀ x, foldedSetIterable iter X.env x = pure x := by intro _; kernel_rfl) :
    TrV X π (.ListComp elt [⟨tg, iter, ifs, 0⟩] scope pos) (compM (own.map (·.2)) mi gm mt me) := .mk fun W tk σ Γ B H Q st sat =>
  wE_of (pe_lc hc hN pi_w ok (g := gB X scope tg) (tt := tB2 X scope ifs) (te := eB X scope elt) (fun s0 H0 C cl fp => ⟨fun pins s σ H v u Q I r h => h s0 H0 C cl fp pins s u I r⟩) (fun s0 H0 C cl fp => ⟨fun pins s σ H Q I h => h s0 H0 C cl fp pins s I⟩) (fun s0 H0 C cl fp => ⟨fun pins s σ H Q I h => h s0 H0 C cl fp pins s I⟩) hs) ((lc_tr hc hN hi ok hv hg ht he).run W tk σ Γ B H Q st sat)
/-- name = [.. for ..], stored before the loop's variables go -/
theorem ts_setlc (i : Nat) {y : Str} {py spos : Pos} (hc : X.calm = true) (hN : X.N.Nodup) (hi : TrI X π tg iter mi) (ok : BlkOk X.N X.env.scope scope own) (hv : ∀ j ∈ v1, j ∈ own.map (·.2))
    (hg : ∀ (s0 : Shared) (H0 : Hp) (C : Addr) (cl : List (Str × Addr)) (fp : List Addr), TrG (X.blk s0 H0 scope (compEnvC scope cl C X.env) fp) π tg gm v1)
    (ht : ∀ (s0 : Shared) (H0 : Hp) (C : Addr) (cl : List (Str × Addr)) (fp : List Addr), TrTs (X.blk s0 H0 scope (compEnvC scope cl C X.env) fp) π ifs mt)
    (he : ∀ (s0 : Shared) (H0 : Hp) (C : Addr) (cl : List (Str × Addr)) (fp : List Addr), TrF (X.blk s0 H0 scope (compEnvC scope cl C X.env) fp) π elt me) (hs : ∀ x, foldedSetIterable iter X.env x = pure x := by intro _; kernel_rfl) (hy : X.N[i]? = some y := by kernel_rfl) (hyl : X.env.scope.names.lookup y = some .local := by kernel_rfl) (hsw : swapsWith (.ListComp elt [⟨tg, iter, ifs, 0⟩] scope pos) (some (.Name y py)) spos.line X.env = pure true := by kernel_rfl) :
    TrS X π (.Assign [.Name y py] (.ListComp elt [⟨tg, iter, ifs, 0⟩] scope pos) spos) (setM i (compM (own.map (·.2)) mi gm mt me)) := .mk fun W tk σ Γ B H Dn st sat => by
  refine wS_of (ps_setLc hc hN hy hyl hsw pi_w ok (g := gB X scope tg) (tt := tB2 X scope ifs) (te := eB X scope elt) (fun s0 H0 C cl fp => ⟨fun pins s σ H v u Q I r h => h s0 H0 C cl fp pins s u I r⟩) (fun s0 H0 C cl fp => ⟨fun pins s σ H Q I h => h s0 H0 C cl fp pins s I⟩) (fun s0 H0 C cl fp => ⟨fun pins s σ H Q I h => h s0 H0 C cl fp pins s I⟩) hs) ?_
  refine (lc_tr hc hN hi ok hv hg ht he).run W tk σ Γ B H _ st (SatS.bd (r1 := valR X.K) (m := compM (own.map (·.2)) mi gm mt me) sat fun p Γ1 v B1 H1 e1 nx rv sat1 => ?_)
  obtain ⟨d, o⟩ := p
  have sat1 : SatS X.K π W σ Γ B H (bd (stS i d o) (fun _ => ret .nx) Γ1) Dn := sat1
  unfold TT.bd at sat1
  cases k : stS i d o Γ1 with
  | none => rw [k] at sat1; exact sat1.elim
  | some r =>
    obtain ⟨il, np, rfl⟩ := stS_ok k
    rw [k] at sat1
    refine sat1 _ B1 H1 (nx.put il np (v := v) (o := o) ?_)
    cases o with
    | false => exact rv
    | true =>
      obtain ⟨q, e, hq, r⟩ := rv
      exact ⟨q, e, .inr hq, r⟩
end
end L2.TT

set_option Elab.async false
set_option linter.all false
set_option maxRecDepth 100000
set_option maxHeartbeats 1000001
namespace L2.TT
open PySem PyProof.Rows PySem.Spec

/-! ### what a def promises, in data -/
inductive Out where
  | v (d : D) (o : Bool)
  | e (c : Str) (fs : List (Str × D))
/-- a result handed back: frozen, or new -/
def NewR (K : PySem.W.Frag) (H B' H' : Hp) (d : D) (o : Bool) (v : V) : Prop := match o with
  | false => Rep K B' v d
  | true => ∃ q, v = .ref q ∧ H q = none ∧ B' q = none ∧ OwnRep K B' H' q d
/-- the heap behind a call -/
structure Aft (B H B' H' : Hp) : Prop where
  bb : Same B B'
  hh : Same H H'
  sub : Same B' H'
  fr : ∀ a, Nt H a → B a = none → B' a = none
def OutS (K : PySem.W.Frag) (A : Hp → Hp → Prop) (H : Hp) (Q : VK) (E : XK) : Out → Prop
  | .v d o => ∀ v B' H', A B' H' → NewR K H B' H' d o v → Q v H'
  | .e c fs => ∀ dd B' H', A B' H' → ErR K B' dd fs → NonO H dd → E (.ref (He.ga K c)) dd H'
def spF (K : PySem.W.Frag) (n : Nat) (F : List D → Option Out) : Sp := fun vs H Q E =>
  ∃ B ds r, Same B H ∧ Reps K B vs ds ∧ ds.length = n ∧ F ds = some r ∧ OutS K (Aft B H) H Q E r
/-- .. where the first parameter is changed in its place -/
structure AftP (K : PySem.W.Frag) (p : Addr) (d' : D) (B H B' H' : Hp) : Prop where
  bb : Same B B'
  hh : ∀ a o, H a = some o → a ≠ p → H' a = some o
  sub : Same B' H'
  fr : ∀ a, Nt H a → B a = none → B' a = none
  ow : OwnRep K B' H' p d'
def spP (K : PySem.W.Frag) (n : Nat) (F : D → List D → Option (D × Out)) : Sp := fun vs H Q E =>
  ∃ B p us d ds d' r, Same B H ∧ vs = .ref p :: us ∧ B p = none ∧ OwnRep K B H p d ∧ Reps K B us ds ∧ ds.length = n ∧ F d ds = some (d', r) ∧ OutS K (AftP K p d' B H) H Q E r

def outOf : Rs Fl → Option Out
  | .ok (.rt d o) _ => some (.v d o)
  | .ok .nx _ => some (.v .non false)
  | .ok _ _ => none
  | .er c fs _ => some (.e c fs)
/-- a def's function, from its body's -/
def fnM (N n : Nat) (m : M Fl) (ds : List D) : Option Out := match m (ds.map .fz ++ List.replicate (N - n) .no) with
  | some r => outOf r
  | none => none
def pnOf : Rs Fl → Option (D × Out)
  | .ok (.rt d o) (.pn d' :: _) => some (d', .v d o)
  | .ok .nx (.pn d' :: _) => some (d', .v .non false)
  | .er c fs (.pn d' :: _) => some (d', .e c fs)
  | _ => none
def fnP (N n : Nat) (m : M Fl) (d : D) (ds : List D) : Option (D × Out) := match m (.pn d :: ds.map .fz ++ List.replicate (N - (n + 1)) .no) with
  | some r => pnOf r
  | none => none

theorem get_fz {ds : List D} {n i : Nat} {x : Sl} (h : (ds.map Sl.fz ++ List.replicate n .no)[i]? = some x) : (∃ d, ds[i]? = some d ∧ x = .fz d) ∨ x = .no := by
  by_cases l : i < ds.length
  · rw [List.getElem?_append_left (by simpa using l), List.getElem?_map] at h
    cases e : ds[i]? with
    | none => (rw [e] at h; cases h)
    | some d => rw [e] at h; cases h; exact .inl ⟨d, rfl, rfl⟩
  · rw [List.getElem?_append_right (by simpa using l), List.getElem?_replicate] at h
    split at h
    · exact .inr (Option.some.inj h).symm
    · cases h
theorem start_get {N : List Str} {vs : List V} {i : Nat} {v : V} (h : vs[i]? = some v) : (start N vs)[i]? = some (some v) := by
  have l := (List.getElem?_eq_some_iff.mp h).1
  unfold start
  rw [List.getElem?_append_left (by simpa using l), List.getElem?_map, h]
  rfl
section
variable {K : PySem.W.Frag} {π : Pm} {N ps : List Str} {B H : Hp} {vs : List V} {ds : List D}
theorem stt_start (s : Same B H) (r : Reps K B vs ds) (hn : ds.length ≤ N.length) : Stt K π B H (start N vs) (ds.map .fz ++ List.replicate (N.length - ds.length) .no) := by
  have no_ : ∀ {i : Nat} {x : Sl}, (ds.map Sl.fz ++ List.replicate (N.length - ds.length) .no)[i]? = some x → (∃ d, ds[i]? = some d ∧ x = .fz d) ∨ x = .no := fun h => get_fz h
  have noo : ∀ {i : Nat} {d : D}, ¬ ((ds.map Sl.fz ++ List.replicate (N.length - ds.length) .no)[i]? = some (.ow d) ∨ (ds.map Sl.fz ++ List.replicate (N.length - ds.length) .no)[i]? = some (.pn d)) := fun h => by
    rcases h with h | h
    · rcases no_ h with ⟨_, _, z⟩ | z <;> cases z
    · rcases no_ h with ⟨_, _, z⟩ | z <;> cases z
  refine ⟨s, ?_, fun i d e => ?_, fun i d e => absurd e noo, fun i d e => absurd (.inr e) noo, fun i c fs e => ?_, fun i j p d e h1 _ => absurd h1 noo, fun i ks ds e => ?_⟩
  · unfold start
    rw [List.length_append, List.length_append, List.length_map, List.length_map, List.length_replicate, List.length_replicate, r.length]
  · rcases no_ e with ⟨d', h, z⟩ | z
    · cases z
      obtain ⟨v, h1, h2⟩ := r.get h
      exact ⟨v, start_get h1, h2⟩
    · cases z
  · rcases no_ e with ⟨_, _, z⟩ | z <;> cases z
  · rcases no_ e with ⟨_, _, z⟩ | z <;> cases z
theorem no_own_start {σ : L2.St} {n : Nat} {p : Addr} : ¬ OwnAt (ds.map .fz ++ List.replicate n .no) σ p := fun ⟨i, d, h, _⟩ => by
  rcases h with h | h
  · rcases get_fz h with ⟨_, _, z⟩ | z <;> cases z
  · rcases get_fz h with ⟨_, _, z⟩ | z <;> cases z
theorem aft_of {σ σ' : L2.St} {Γ Γ' : List Sl} {B' H' : Hp} (nx : Nx K π σ Γ B H σ' Γ' B' H') (s : Same B H) (no : ∀ p, ¬ OwnAt Γ σ p) : Aft B H B' H' := by
  refine ⟨nx.bb, fun a o e => ?_, nx.st.sub, fun a e b => ?_⟩
  · cases k : B a with
    | none => exact (nx.fr a o e k (no a)).1
    | some u =>
      have := s _ _ k
      rw [e] at this; cases this
      exact nx.st.sub _ _ (nx.bb _ _ k)
  · obtain ⟨o, k, nt⟩ := e
    exact (nx.fr a o k b (no a)).2 nt
end

section
variable {P : Program} {w : World} {K : PySem.W.Frag} {mg : Str → Option Value} {base : Heap} {x qual : Str} {params : Arguments} {body : List Stmt} {scope : Scope} {dvs : List V} {kws : List (Str × V)} {f : Addr} {fd : FuncData} {N ps : List Str} {k n : Nat} {m : M Fl}
theorem fn_F (F : FunD K x qual params body scope dvs kws f fd) (S : FnScope N ps scope) (hn : n = ps.length) (hN : n ≤ N.length)
    (hbody : ∀ (π : Pm) (cdv : Value) (A : Around) (outer : List Env) (s : Shared) (H : Hp) (E : XK), Room k (A.deeper (envOfC qual scope s.heap.objs.size f cdv)) → TrSs (cxOf (L2.CX P w) P w K mg base N qual scope f cdv A outer s H E) π body m) :
    FnOk P w K mg base (L2.CX P w) (k + 1) f fd ps (spF K n (fnM N.length n m)) := by
  refine F.ok S (fun vs H Q E ⟨B, ds, r, s, rs, hl, _⟩ => by rw [rs.length, hl, hn]) fun cdv A outer s H vs Q E hr ⟨B, ds, r, sB, rs, hl, hF, out⟩ => ⟨_, pss_w, ?_⟩
  have tk : Takes (cxOf (L2.CX P w) P w K mg base N qual scope f cdv A outer s H E) (fun cls d _ H => E cls d H) := takes_of rfl rfl rfl rfl
  subst hl
  refine (hbody ⟨0, 0, none, 0, ""⟩ cdv A outer s H E hr).run _ tk (start N vs) _ B H _ (stt_start (K := K) sB rs hN) ?_
  unfold fnM at hF
  cases e : m (ds.map .fz ++ List.replicate (N.length - ds.length) .no) with
  | none => rw [e] at hF; cases hF
  | some rr =>
    rw [e] at hF
    cases rr with
    | ok fl Γ' =>
      intro σ' B' H' nx
      have af := aft_of nx sB fun p => no_own_start
      cases fl with
      | nx => cases hF; exact out .non B' H' af .non
      | bk => cases hF
      | ct => cases hF
      | rt d o =>
        cases hF
        intro v r
        refine out v B' H' af ?_
        cases o with
        | false => exact r
        | true =>
          obtain ⟨q, e1, e2, e3, e4, _⟩ := r
          exact ⟨q, e1, e2.resolve_left no_own_start, e3, e4⟩
    | er c fs Γ' =>
      cases hF
      exact fun dd σ' B' H' nx er hd => out dd B' H' (aft_of nx sB fun p => no_own_start) er hd
end

section
variable {X : Cx} {π : Pm} {a b c e : Expr} {es : List Expr} {fs gs : M (List D)} {pos p1 p : Pos} {k n : Nat} {f : Addr} {fd : FuncData} {ps : List Str} {x : Str} {F : List D → Option Out}
def outM : Out → M (D × Bool)
  | .v d o => ret (d, o)
  | .e c fs => fun Γ => some (.er c fs Γ)
def callM (n : Nat) (F : List D → Option Out) (fs : M (List D)) : M (D × Bool) := bd fs fun ds => if ds.length = n then bd (opt (F ds)) outM else fun _ => none
theorem Sat.false {α β : Type} {K : PySem.W.Frag} {π : Pm} {W : WX} {σ : L2.St} {Γ : List Sl} {B H : Hp} {rel : Rl α β} {Q : β → Hp → Prop} (h : Sat K π W σ Γ B H rel none Q) {p : Prop} : p := (show False from h).elim
theorem out_of_sat {K : PySem.W.Frag} {W : WX} {σ : L2.St} {Γ : List Sl} {B H : Hp} {Q : VK} {r : Out} (st : Stt K π B H σ Γ) (sat : Sat K π W σ Γ B H (valR K) (outM r Γ) Q) : OutS K (Aft B H) H Q (WE W σ) r := by
  cases r with
  | v d o =>
    intro v B' H' af rv
    have nx := (Nx.refl st).grow af.bb af.hh af.sub af.fr
    refine sat v B' H' nx ?_
    cases o with
    | false => exact rv
    | true =>
      obtain ⟨q, e1, e2, e3, e4⟩ := rv
      refine ⟨q, e1, e2, e3, e4, fun ⟨i, d', h, z⟩ => ?_⟩
      exact not_own_new st e2 ⟨i, d', h, z⟩
  | e c fs =>
    intro dd B' H' af er hd
    exact sat dd B' H' ((Nx.refl st).grow af.bb af.hh af.sub af.fr) er hd
theorem tv_call (Fn : FnOk X.prog X.w X.K X.mg X.base (L2.CX X.prog X.w) k f fd ps (spF X.K n F)) (hr : Room k X.A) (hm : X.mg x = some (.ref f)) (hk : PySem.W.keepIn X.K (.ref f) = true) (hb : Binds X.K fd ps []) (ha : TrA X π (e :: es) fs) (hg : Gl X x := by rfl)
    (hdb : (x == ("__debug__" : Str)) = false := by decide) (he : starEach (e :: es) X.env = (false, eval e X.env) :: starEach es X.env := by kernel_rfl) (hpl : (backTo pos (starEach es X.env)).any (·.1) = false := by kernel_rfl) :
    TrV X π (.Call (.Name x p) (e :: es) [] pos) (callM n F fs) := .mk fun W tk σ Γ B H Q st sat => by
  refine wE_of (pe_callS (E := WE W) Fn hr hg hm hk hb (fun σ => passAt tk σ) pa_w hdb he hpl) ?_
  refine ha.run W tk σ Γ B H _ st (sat.bd up_valR fun ds Γ1 vs B1 H1 e1 nx rv sat1 => ?_)
  by_cases hl : ds.length = n
  · rw [if_pos hl] at sat1
    cases hF : F ds with
    | none => rw [hF] at sat1; exact sat1.false
    | some r =>
      rw [hF] at sat1
      have sat1 : Sat X.K π W σ Γ1 B1 H1 (valR X.K) (outM r Γ1) Q := sat1
      exact ⟨B1, ds, r, nx.st.sub, rv, hl, hF, out_of_sat nx.st sat1⟩
  · rw [if_neg hl] at sat1; exact sat1.false
end
end L2.TT

set_option Elab.async false
set_option linter.all false
set_option maxRecDepth 100000
set_option maxHeartbeats 1000001
namespace L2.TT
open PySem PyProof.Rows PySem.Spec

/-! ### what a slot owns is changed in its place -/
def reS (Γ : List Sl) (i : Nat) (d : D) : List Sl := match Γ[i]? with
  | some (.ow _) => Γ.set i (.ow d)
  | some (.pn _) => Γ.set i (.pn d)
  | _ => Γ
theorem reS_len (Γ : List Sl) (i : Nat) (d : D) : (reS Γ i d).length = Γ.length := by
  unfold reS; split <;> simp
section
variable {K : PySem.W.Frag} {π : Pm} {σ : L2.St} {Γ : List Sl} {B H B' H' : Hp} {p : Addr} {i : Nat} {d d' : D}
theorem reS_get (hi : Γ[i]? = some (.ow d) ∨ Γ[i]? = some (.pn d)) {j : Nat} {x : Sl} (h : (reS Γ i d')[j]? = some x) : (j = i ∧ ((Γ[i]? = some (.ow d) ∧ x = .ow d') ∨ (Γ[i]? = some (.pn d) ∧ x = .pn d'))) ∨ (j ≠ i ∧ Γ[j]? = some x) := by
  unfold reS at h
  rcases hi with e | e
  · rw [e] at h
    simp only at h
    by_cases z : j = i
    · subst z; rw [List.getElem?_set_self (List.getElem?_eq_some_iff.mp e).1] at h; cases h; exact .inl ⟨rfl, .inl ⟨e, rfl⟩⟩
    · rw [List.getElem?_set_ne (Ne.symm z)] at h; exact .inr ⟨z, h⟩
  · rw [e] at h
    simp only at h
    by_cases z : j = i
    · subst z; rw [List.getElem?_set_self (List.getElem?_eq_some_iff.mp e).1] at h; cases h; exact .inl ⟨rfl, .inr ⟨e, rfl⟩⟩
    · rw [List.getElem?_set_ne (Ne.symm z)] at h; exact .inr ⟨z, h⟩
theorem Nx.poke (st : Stt K π B H σ Γ) (hi : Γ[i]? = some (.ow d) ∨ Γ[i]? = some (.pn d)) (hp : σ[i]? = some (some (.ref p))) (af : AftP K p d' B H B' H') : Nx K π σ Γ B H σ (reS Γ i d') B' H' := by
  have own : OwnAt Γ σ p := ⟨i, d, hi, hp⟩
  have bp : B p = none := by
    obtain ⟨q, h1, h2, _⟩ := st.ow i d hi
    rw [hp] at h1; cases h1; exact h2
  have hpn : Nt H p := by
    obtain ⟨q, h1, _, h3⟩ := st.ow i d hi
    rw [hp] at h1; cases h1
    exact nt_of_own h3
  have bp' : B' p = none := af.fr p hpn bp
  have oldo : ∀ {j : Nat} {x : D}, ((reS Γ i d')[j]? = some (.ow x) ∨ (reS Γ i d')[j]? = some (.pn x)) → (j = i ∧ x = d') ∨ (j ≠ i ∧ (Γ[j]? = some (.ow x) ∨ Γ[j]? = some (.pn x))) := fun {j x} h => by
    rcases h with h | h
    · rcases reS_get hi h with ⟨e, ⟨_, z⟩ | ⟨_, z⟩⟩ | ⟨n, h⟩
      · cases z; exact .inl ⟨e, rfl⟩
      · cases z
      · exact .inr ⟨n, .inl h⟩
    · rcases reS_get hi h with ⟨e, ⟨_, z⟩ | ⟨_, z⟩⟩ | ⟨n, h⟩
      · cases z
      · cases z; exact .inl ⟨e, rfl⟩
      · exact .inr ⟨n, .inr h⟩
  have any : ∀ {j : Nat} {x : D}, ((reS Γ i d')[j]? = some (.ow x) ∨ (reS Γ i d')[j]? = some (.pn x)) → ∃ y, Γ[j]? = some (.ow y) ∨ Γ[j]? = some (.pn y) := fun {j x} h => by
    rcases oldo h with ⟨rfl, _⟩ | ⟨_, h⟩
    · exact ⟨d, hi⟩
    · exact ⟨x, h⟩
  refine ⟨⟨af.sub, by rw [reS_len]; exact st.len, fun j x h => ?_, fun j x h => ?_, fun j x h => ?_, fun j c fs h => ?_, fun j k q x y h1 h2 e1 e2 => ?_, fun j ks ds h => ?_⟩, af.bb, fun a o e b no => ?_, fun a e => ?_, fun a ⟨j, x, h, e⟩ => ?_⟩
  · rcases reS_get hi h with ⟨_, ⟨_, z⟩ | ⟨_, z⟩⟩ | ⟨_, h⟩
    · cases z
    · cases z
    · obtain ⟨v, h1, h2⟩ := st.fz j x h
      exact ⟨v, h1, h2.mono af.bb⟩
  · rcases oldo h with ⟨rfl, rfl⟩ | ⟨n, h⟩
    · exact ⟨p, hp, bp', af.ow⟩
    · obtain ⟨q, h1, h2, h3⟩ := st.ow j x h
      have nq : q ≠ p := fun z => by subst z; exact n (st.inj _ _ _ _ _ h hi h1 hp)
      obtain ⟨o, ho⟩ := ho_of_own h3
      exact ⟨q, h1, af.fr q (nt_of_own h3) h2, (h3.eqH (by rw [af.hh _ _ ho nq, ho])).monoB af.bb⟩
  · rcases reS_get hi h with ⟨rfl, ⟨_, z⟩ | ⟨h, z⟩⟩ | ⟨_, h⟩
    · cases z
    · exact st.pn _ _ h
    · exact st.pn _ _ h
  · rcases reS_get hi h with ⟨_, ⟨_, z⟩ | ⟨_, z⟩⟩ | ⟨_, h⟩
    · cases z
    · cases z
    · obtain ⟨h0, h1, fv, h2, h3, h4⟩ := st.ex j c fs h
      exact ⟨h0, h1, fv, h2.mono af.bb, h3, h4.mono af.bb⟩
  · obtain ⟨x', h1⟩ := any h1
    obtain ⟨y', h2⟩ := any h2
    exact st.inj j k q x' y' h1 h2 e1 e2
  · rcases reS_get hi h with ⟨_, ⟨_, z⟩ | ⟨_, z⟩⟩ | ⟨_, h⟩
    · cases z
    · cases z
    · exact (st.lk j ks ds h).mono af.bb rfl
  · have na : a ≠ p := fun z => no (z ▸ own)
    exact ⟨af.hh a o e na, fun nt => af.fr a ⟨o, e, nt⟩ b⟩
  · by_cases z : a = p
    · subst z
      obtain ⟨o, ho⟩ := ho_of_own af.ow
      rw [ho]; exact fun z => nomatch z
    · cases k : H a with
      | none => exact absurd k e
      | some o => rw [af.hh a o k z]; exact fun z => nomatch z
  · obtain ⟨y, h⟩ := any h
    exact .inl ⟨j, y, h, e⟩
theorem reS_own (hi : Γ[i]? = some (.ow d) ∨ Γ[i]? = some (.pn d)) {q : Addr} (h : OwnAt (reS Γ i d') σ q) : OwnAt Γ σ q := by
  obtain ⟨j, x, h, e⟩ := h
  rcases h with h | h
  · rcases reS_get hi h with ⟨rfl, ⟨h, z⟩ | ⟨h, z⟩⟩ | ⟨_, h⟩
    · exact ⟨_, d, .inl h, e⟩
    · exact ⟨_, d, .inr h, e⟩
    · exact ⟨j, x, .inl h, e⟩
  · rcases reS_get hi h with ⟨rfl, ⟨h, z⟩ | ⟨h, z⟩⟩ | ⟨_, h⟩
    · exact ⟨_, d, .inl h, e⟩
    · exact ⟨_, d, .inr h, e⟩
    · exact ⟨j, x, .inr h, e⟩
/-- the object at p is another -/
theorem aft_upd (sub : Same B H) (bp : B p = none) {o : HO} (hp : H p ≠ none) (ow : OwnRep K B (upd H p o) p d') : AftP K p d' B H B (upd H p o) :=
  ⟨Same.refl B, fun a u e n => by rw [upd_ne n]; exact e, fun a u e => by rw [upd_ne (ne_of_none e bp)]; exact sub _ _ e, fun a _ b => b, ow⟩
end

/-! ### a def whose first parameter is changed in its place -/
section
variable {K : PySem.W.Frag} {π : Pm} {N ps : List Str} {B H : Hp} {vs : List V} {ds : List D} {d : D}
theorem get_pn {n i : Nat} {x : Sl} (h : (Sl.pn d :: ds.map Sl.fz ++ List.replicate n .no)[i]? = some x) : (i = 0 ∧ x = .pn d) ∨ (∃ j, i = j + 1 ∧ (ds.map Sl.fz ++ List.replicate n .no)[j]? = some x) := by
  cases i with
  | zero => exact .inl ⟨rfl, (Option.some.inj h).symm⟩
  | succ j => exact .inr ⟨j, rfl, h⟩
theorem own_pn {n i : Nat} {x : D} (h : (Sl.pn d :: ds.map Sl.fz ++ List.replicate n .no)[i]? = some (.ow x) ∨ (Sl.pn d :: ds.map Sl.fz ++ List.replicate n .no)[i]? = some (.pn x)) : i = 0 ∧ x = d := by
  rcases h with h | h
  · rcases get_pn h with ⟨_, z⟩ | ⟨j, _, h⟩
    · cases z
    · rcases get_fz h with ⟨_, _, z⟩ | z <;> cases z
  · rcases get_pn h with ⟨e, z⟩ | ⟨j, _, h⟩
    · cases z; exact ⟨e, rfl⟩
    · rcases get_fz h with ⟨_, _, z⟩ | z <;> cases z
theorem stt_startP {p ea la : Addr} {ed : Option Addr} {ec : Str} (s : Same B H) (bp : B p = none) (ow : OwnRep K B H p d) (r : Reps K B vs ds) (hn : ds.length + 1 ≤ N.length) : Stt K ⟨p, ea, ed, la, ec⟩ B H (start N (.ref p :: vs)) (.pn d :: ds.map .fz ++ List.replicate (N.length - (ds.length + 1)) .no) := by
  have s0 : (start N (.ref p :: vs))[0]? = some (some (.ref p)) := start_get rfl
  refine ⟨s, ?_, fun i x e => ?_, fun i x e => ?_, fun i x e => ?_, fun i c fs e => ?_, fun i j q x y h1 h2 _ _ => ?_, fun i ks ds e => ?_⟩
  · unfold start
    simp only [List.length_append, List.length_cons, List.length_map, List.length_replicate, r.length]
  · rcases get_pn e with ⟨_, z⟩ | ⟨j, rfl, h⟩
    · cases z
    · rcases get_fz h with ⟨d', h, z⟩ | z
      · cases z
        obtain ⟨v, h1, h2⟩ := r.get h
        exact ⟨v, start_get (by simpa using h1), h2⟩
      · cases z
  · obtain ⟨rfl, rfl⟩ := own_pn e
    exact ⟨p, s0, bp, ow⟩
  · obtain ⟨rfl, rfl⟩ := own_pn (.inr e)
    exact s0
  · rcases get_pn e with ⟨_, z⟩ | ⟨j, rfl, h⟩
    · cases z
    · rcases get_fz h with ⟨_, _, z⟩ | z <;> cases z
  · rw [(own_pn h1).1, (own_pn h2).1]
  · rcases get_pn e with ⟨_, z⟩ | ⟨j, rfl, h⟩
    · cases z
    · rcases get_fz h with ⟨_, _, z⟩ | z <;> cases z
end
section
variable {P : Program} {w : World} {K : PySem.W.Frag} {mg : Str → Option Value} {base : Heap} {x qual : Str} {params : Arguments} {body : List Stmt} {scope : Scope} {dvs : List V} {kws : List (Str × V)} {f : Addr} {fd : FuncData} {N ps : List Str} {k n : Nat} {m : M Fl}
theorem pn_ok {σ' : L2.St} {B' H' : Hp} {π : Pm} {p : Addr} {Γ : List Sl} {d' : D} {B H : Hp} {ds : List D} {d : D} {vs : List V} {nn : Nat} (hpa : π.pa = p) (s : Same B H)
    (nx : Nx K π (start N (.ref p :: vs)) (.pn d :: ds.map .fz ++ List.replicate nn .no) B H σ' (.pn d' :: Γ) B' H') : AftP K p d' B H B' H' := by
  subst hpa
  have no_ : ∀ a, a ≠ π.pa → ¬ OwnAt (Sl.pn d :: ds.map .fz ++ List.replicate nn .no) (start N (.ref π.pa :: vs)) a := fun a na ⟨i, x, h, e⟩ => by
    obtain ⟨rfl, rfl⟩ := own_pn h
    rw [show (start N (.ref π.pa :: vs))[0]? = some (some (.ref π.pa)) from start_get rfl] at e
    cases e; exact na rfl
  have own := nx.st.ow 0 d' (.inr rfl)
  have at0 := nx.st.pn 0 d' rfl
  obtain ⟨q, h1, h2, h3⟩ := own
  rw [at0] at h1; cases h1
  refine ⟨nx.bb, fun a o e n => ?_, nx.st.sub, fun a e b => ?_, h3⟩
  · cases k : B a with
    | none => exact (nx.fr a o e k (no_ a n)).1
    | some u =>
      have := s _ _ k
      rw [e] at this; cases this
      exact nx.st.sub _ _ (nx.bb _ _ k)
  · by_cases z : a = π.pa
    · subst z; exact h2
    · obtain ⟨o, k, nt⟩ := e
      exact (nx.fr a o k b (no_ a z)).2 nt
theorem fn_P (F : FunD K x qual params body scope dvs kws f fd) (S : FnScope N ps scope) (hn : n + 1 = ps.length) (hN : n + 1 ≤ N.length)
    (hbody : ∀ (π : Pm) (cdv : Value) (A : Around) (outer : List Env) (s : Shared) (H : Hp) (E : XK), Room k (A.deeper (envOfC qual scope s.heap.objs.size f cdv)) → TrSs (cxOf (L2.CX P w) P w K mg base N qual scope f cdv A outer s H E) π body m) :
    FnOk P w K mg base (L2.CX P w) (k + 1) f fd ps (spP K n (fnP N.length n m)) := by
  refine F.ok S (fun vs H Q E ⟨B, p, us, d, ds, d', r, s, e, _, _, rs, hl, _⟩ => by rw [e, List.length_cons, rs.length, hl, hn]) fun cdv A outer s H vs Q E hr ⟨B, p, us, d, ds, d', r, sB, ev, bp, ow, rs, hl, hF, out⟩ => ⟨_, pss_w, ?_⟩
  have tk : Takes (cxOf (L2.CX P w) P w K mg base N qual scope f cdv A outer s H E) (fun cls d _ H => E cls d H) := takes_of rfl rfl rfl rfl
  subst hl
  subst ev
  refine (hbody ⟨p, p, none, p, ""⟩ cdv A outer s H E hr).run _ tk (start N _) _ B H _ (stt_startP (K := K) sB bp ow rs hN) ?_
  unfold fnP at hF
  cases e : m (.pn d :: ds.map .fz ++ List.replicate (N.length - (ds.length + 1)) .no) with
  | none => rw [e] at hF; cases hF
  | some rr =>
    rw [e] at hF
    have no_ : ∀ q, OwnAt (Sl.pn d :: ds.map .fz ++ List.replicate (N.length - (ds.length + 1)) .no) (start N (.ref p :: us)) q → q = p := fun a ⟨i, x, h, ee⟩ => by
      obtain ⟨rfl, rfl⟩ := own_pn h
      rw [show (start N (.ref p :: us))[0]? = some (some (.ref p)) from start_get rfl] at ee
      cases ee; rfl
    have hF : pnOf rr = some (d', r) := hF
    unfold pnOf at hF
    split at hF
    · cases hF
      rename_i rd o _
      intro σ' B' H' nx v r
      have af := pn_ok (π := ⟨p, p, none, p, ""⟩) rfl sB nx
      refine out v B' H' af ?_
      cases o with
      | false => exact r
      | true =>
        obtain ⟨q, e1, e2, e3, e4, e5⟩ := r
        refine ⟨q, e1, e2.resolve_left fun z => ?_, e3, e4⟩
        rw [no_ q z] at e5
        exact e5 ⟨0, _, .inr rfl, nx.st.pn 0 _ rfl⟩
    · cases hF
      exact fun σ' B' H' nx => out .non B' H' (pn_ok (π := ⟨p, p, none, p, ""⟩) rfl sB nx) .non
    · cases hF
      exact fun dd σ' B' H' nx er hd => out dd B' H' (pn_ok (π := ⟨p, p, none, p, ""⟩) rfl sB nx) er hd
    · cases hF
end

section
variable {X : Cx} {π : Pm} {a b c e : Expr} {es : List Expr} {fs gs : M (List D)} {pos p1 p p2 : Pos} {k n : Nat} {f : Addr} {fd : FuncData} {ps : List Str} {x y : Str} {F : D → List D → Option (D × Out)}
def ownD (Γ : List Sl) (i : Nat) : Option D := match Γ[i]? with
  | some (.ow d) => some d
  | some (.pn d) => some d
  | _ => none
theorem ownD_ok {Γ : List Sl} {i : Nat} {d : D} (h : ownD Γ i = some d) : Γ[i]? = some (.ow d) ∨ Γ[i]? = some (.pn d) := by
  unfold ownD at h
  split at h <;> first | (cases h; done) | skip
  · rename_i e; cases h; exact .inl e
  · rename_i e; cases h; exact .inr e
def hasM {α : Type} (i : Nat) (m : M α) : M α := fun Γ => match ownD Γ i with
  | none => none
  | some _ => m Γ
def callPM (i n : Nat) (F : D → List D → Option (D × Out)) (fs : M (List D)) : M (D × Bool) := hasM i <| bd fs fun ds => if ds.length = n then fun Γ => match ownD Γ i with
  | none => none
  | some d => match F d ds with
    | none => none
    | some (d', r) => outM r (reS Γ i d') else fun _ => none
theorem tv_callP (i : Nat) (Fn : FnOk X.prog X.w X.K X.mg X.base (L2.CX X.prog X.w) k f fd ps (spP X.K n F)) (hr : Room k X.A) (hm : X.mg x = some (.ref f)) (hk : PySem.W.keepIn X.K (.ref f) = true) (hb : Binds X.K fd ps []) (ha : TrA X π es fs) (hg : Gl X x := by rfl)
    (hN : X.N[i]? = some y := by kernel_rfl) (hv : Vis X.env.scope y := by first | exact Or.inl rfl | exact Or.inr (Or.inl rfl) | exact Or.inr (Or.inr rfl)) (hd : (y == ("__debug__" : Str)) = false := by decide) (hcd : (y == ("__classdict__" : Str)) = false := by decide)
    (hdb : (x == ("__debug__" : Str)) = false := by decide) (he : starEach (.Name y p2 :: es) X.env = (false, eval (.Name y p2) X.env) :: starEach es X.env := by kernel_rfl) (hpl : (backTo pos (starEach es X.env)).any (·.1) = false := by kernel_rfl) :
    TrV X π (.Call (.Name x p) (.Name y p2 :: es) [] pos) (callPM i n F fs) := .mk fun W tk σ Γ B H Q st sat => by
  refine wE_of (pe_callS (E := WE W) Fn hr hg hm hk hb (fun σ => passAt tk σ) (pa_cons (pe_var hN hv hd hcd) pa_w he) hdb he hpl) ?_
  obtain ⟨p0, hp0, sat⟩ : ∃ p0, σ[i]? = some (some (.ref p0)) ∧ Sat X.K π W σ Γ B H (valR X.K) ((bd fs fun ds => if ds.length = n then fun Γ => match ownD Γ i with
      | none => none
      | some d => match F d ds with
        | none => none
        | some (d', r) => outM r (reS Γ i d') else fun _ => none) Γ) Q := by
    unfold callPM hasM at sat
    cases ho : ownD Γ i with
    | none => rw [ho] at sat; exact sat.false
    | some d =>
      rw [ho] at sat
      obtain ⟨p, hp, _⟩ := st.ow i d (ownD_ok ho)
      exact ⟨p, hp, sat⟩
  -- the name holds a thing that is owned: told behind the other arguments, the same then
  have key : ∀ {v : V}, σ[i]? = some (some v) → wA X es σ H (fun vs H1 => spP X.K n F (v :: vs) H1 Q (WE W σ)) := fun {v} hv' => by
    refine ha.run W tk σ Γ B H _ st (sat.bd up_valR fun ds Γ1 vs B1 H1 e1 nx rv sat1 => ?_)
    by_cases hl : ds.length = n
    · rw [if_pos hl] at sat1
      cases ho : ownD Γ1 i with
      | none => simp only [ho] at sat1; exact sat1.false
      | some d =>
        simp only [ho] at sat1
        cases hF : F d ds with
        | none => simp only [hF] at sat1; exact sat1.false
        | some q =>
          obtain ⟨d', r⟩ := q
          simp only [hF] at sat1
          have hi := ownD_ok ho
          obtain ⟨p, hp, bp, ow⟩ := nx.st.ow i d hi
          have ev : v = .ref p := by rw [hp] at hv'; cases hv'; rfl
          subst ev
          refine ⟨B1, p, vs, d, ds, d', r, nx.st.sub, rfl, bp, ow, rv, hl, hF, ?_⟩
          cases r with
          | v rd o =>
            intro v B' H' af nr
            have n2 := Nx.poke nx.st hi hp af
            refine sat1 v B' H' n2 ?_
            cases o with
            | false => exact nr
            | true =>
              obtain ⟨q, e1, e2, e3, e4⟩ := nr
              exact ⟨q, e1, e2, e3, e4, fun z => not_own_new nx.st e2 (reS_own hi z)⟩
          | e c fs =>
            intro dd B' H' af er hd
            exact sat1 dd B' H' (Nx.poke nx.st hi hp af) er hd
    · rw [if_neg hl] at sat1; exact sat1.false
  exact ⟨_, hp0, key hp0⟩
end
end L2.TT

set_option Elab.async false
set_option linter.all false
set_option maxRecDepth 100000
set_option maxHeartbeats 1000001
namespace L2.TT
open PySem PyProof.Rows PySem.Spec

/-! ### x[i] = v on what is owned -/
def putD (ks : List Key) (ds : List D) (k : Key) (v : D) : List Key × List D := match ks, ds with
  | k' :: ks, d :: ds => if k' = k then (k' :: ks, v :: ds) else ((k' :: (putD ks ds k v).1), (d :: (putD ks ds k v).2))
  | _, _ => ([k], [v])
theorem map_put_out {k : Key} {w : V} : ∀ {kvs : List (Key × V)}, k ∉ kvs.map (·.1) → kvs.map (fun kv => if kv.1 = k then (kv.1, w) else kv) = kvs
  | [], _ => rfl
  | p :: r, h => by
    simp only [List.map_cons, List.mem_cons, not_or] at h ⊢
    rw [if_neg (fun z => h.1 z.symm), map_put_out h.2]
theorem put_rep {K : PySem.W.Frag} {B : Hp} {k : Key} {w : V} {v : D} (rw' : Rep K B w v) : ∀ {kvs : List (Key × V)} {ds : List D}, (kvs.map (·.1)).Nodup → Reps K B (kvs.map (·.2)) ds →
    (putK kvs k w).map (·.1) = (putD (kvs.map (·.1)) ds k v).1 ∧ Reps K B ((putK kvs k w).map (·.2)) (putD (kvs.map (·.1)) ds k v).2
  | [], _, _, .nil => ⟨rfl, .one rw'⟩
  | p :: kvs, d :: ds, nd, .cons h t => by
    simp only [List.map_cons, List.nodup_cons] at nd
    simp only [List.map_cons, putD]
    by_cases e : p.1 = k
    · rw [if_pos e]
      unfold putK
      rw [if_pos (by simp [List.any_cons, e])]
      subst e
      simp only [List.map_cons, if_true]
      rw [map_put_out nd.1]
      exact ⟨rfl, .cons rw' t⟩
    · rw [if_neg e]
      obtain ⟨i1, i2⟩ := put_rep (kvs := kvs) rw' nd.2 t
      have step : putK (p :: kvs) k w = p :: putK kvs k w := by
        unfold putK
        rw [List.any_cons, show decide (p.1 = k) = false from decide_eq_false e, Bool.false_or]
        by_cases c : (kvs.any fun kv => decide (kv.1 = k)) = true
        · rw [if_pos c, if_pos c, List.map_cons, if_neg e]
        · (rw [if_neg c, if_neg c, List.cons_append])
      rw [step]
      exact ⟨congrArg (p.1 :: ·) i1, .cons h i2⟩
/-! tuple keys -/
def putT (ks : List (List Key)) (ds : List D) (k : List Key) (v : D) : List (List Key) × List D := match ks, ds with
  | k' :: ks, d :: ds => if k' = k then (k' :: ks, v :: ds) else ((k' :: (putT ks ds k v).1), (d :: (putT ks ds k v).2))
  | _, _ => ([k], [v])
theorem map_putT_out {k : List Key} {w : V} : ∀ {kvs : List (List Key × V)}, k ∉ kvs.map (·.1) → kvs.map (fun kv => if kv.1 = k then (kv.1, w) else kv) = kvs
  | [], _ => rfl
  | p :: r, h => by
    simp only [List.map_cons, List.mem_cons, not_or] at h ⊢
    rw [if_neg (fun z => h.1 z.symm), map_putT_out h.2]
theorem putT_rep {K : PySem.W.Frag} {B : Hp} {k : List Key} {w : V} {v : D} (rw' : Rep K B w v) : ∀ {kvs : List (List Key × V)} {ds : List D}, (kvs.map (·.1)).Nodup → Reps K B (kvs.map (·.2)) ds →
    (putK kvs k w).map (·.1) = (putT (kvs.map (·.1)) ds k v).1 ∧ Reps K B ((putK kvs k w).map (·.2)) (putT (kvs.map (·.1)) ds k v).2
  | [], _, _, .nil => ⟨rfl, .one rw'⟩
  | p :: kvs, d :: ds, nd, .cons h t => by
    simp only [List.map_cons, List.nodup_cons] at nd
    simp only [List.map_cons, putT]
    by_cases e : p.1 = k
    · rw [if_pos e]
      unfold putK
      rw [if_pos (by simp [List.any_cons, e])]
      subst e
      simp only [List.map_cons, if_true]
      rw [map_putT_out nd.1]
      exact ⟨rfl, .cons rw' t⟩
    · rw [if_neg e]
      obtain ⟨i1, i2⟩ := putT_rep (kvs := kvs) rw' nd.2 t
      have step : putK (p :: kvs) k w = p :: putK kvs k w := by
        unfold putK
        rw [List.any_cons, show decide (p.1 = k) = false from decide_eq_false e, Bool.false_or]
        by_cases c : (kvs.any fun kv => decide (kv.1 = k)) = true
        · rw [if_pos c, if_pos c, List.map_cons, if_neg e]
        · (rw [if_neg c, if_neg c, List.cons_append])
      rw [step]
      exact ⟨congrArg (p.1 :: ·) i1, .cons h i2⟩
/-- an empty dict may get tuple keys as well -/
theorem inv_toT {X : Cx} {pins : List (Addr × Obj)} {σ : L2.St} {H : Hp} {s : Shared} {a : Addr} (I : Inv X pins σ H s) (h : H a = some (.dK [])) : Inv X pins σ (upd H a (.dT [])) s := by
  obtain ⟨z, lo, vs, rel, o, es, ep, ho, ex, dt, nd, pr, nn⟩ := (show ObjOk X.prog X.w H s.heap a (.dK []) from I.hok a _ h)
  cases rel
  have e0 : es.toList = [] := List.eq_nil_of_length_eq_zero (by simpa using pr.length)
  have e1 : es = #[] := by simpa using e0
  subst e1
  have new : ObjOk X.prog X.w (upd H a (.dT [])) s.heap a (.dT []) := ⟨Nat.zero_le _, lo, [], .nil, o, #[], ep, ho, ex, dt, rfl, List.nodup_nil⟩
  exact I.write (x := a) (e := a) (t' := s.toks) (h' := s.heap) (by rw [h]; exact trivial) (.inl rfl) (fun b v _ q => q) ⟨o, ho⟩ new
/-- d[k] = v of an empty dict, k a tuple -/
def rSetE : TSet := fun o i v H Q => ∃ a b k, o = .ref a ∧ i = .ref b ∧ H a = some (.dK []) ∧ H b = some (.tup (k.map kV)) ∧ Q (upd H a (.dT [(k, v)]))
theorem set_empty {X : Cx} (hu : X.A.units + 1 < cLine) : PSet X rSetE := by
  intro pins s σ H o i v ov iv u Q I ro ri rv ⟨a, b, k, eo, ei, ha, hb, q⟩
  have I2 := inv_toT I ha
  have nb : b ≠ a := fun z => by rw [z, ha] at hb; cases hb
  have hb2 : (upd H a (.dT [])) b = some (.tup (k.map kV)) := by rw [upd_ne nb]; exact hb
  have hu2 : upd (upd H a (.dT [])) a (.dT (putK [] k v)) = upd H a (.dT [(k, v)]) := by
    funext c
    by_cases z : c = a
    · subst z; rw [upd_same, upd_same]; rfl
    · rw [upd_ne z, upd_ne z, upd_ne z]
  refine set_dict hu pins s σ _ o i v ov iv u Q I2 ro ri rv ⟨a, _, eo, .inr ⟨[], k, b, upd_same, ei, hb2, by show 0 < sizeLine; rw [sizeLine_eq]; decide, rfl⟩, ?_⟩
  rw [hu2]; exact q
def setIxD (d x v : D) : Option D := match d, x with
  | .lst ds, .int k => (ixN ds.length k).map fun j => .lst (ds.set j v)
  | .dic ks ds, x => match toKey x with
    | some k => if ks.Nodup ∧ ks.length < 1000000 then some (.dic (putD ks ds k v).1 (putD ks ds k v).2) else none
    | none => if ks = [] then (tkD x).map fun k => .dit [k] [v] else none
  | .dit ks ds, x => match tkD x with
    | some k => if ks.Nodup ∧ ks.length < 1000000 then some (.dit (putT ks ds k v).1 (putT ks ds k v).2) else none
    | none => none
  | _, _ => none
def rSetA : TSet := fun o i v H Q => rSetL o i v H Q ∨ rSetD o i v H Q ∨ rSetE o i v H Q
theorem set_any {X : Cx} {k : Nat} (hr : Room k X.A) : PSet X rSetA := fun pins s σ H o i v ov iv u Q I ro ri rv h => by
  rcases h with h | h | h
  · exact set_list pins s σ H o i v ov iv u Q I ro ri rv h
  · exact set_dict (by have := hr.un; omega) pins s σ H o i v ov iv u Q I ro ri rv h
  · exact set_empty (by have := hr.un; omega) pins s σ H o i v ov iv u Q I ro ri rv h
theorem set_own {K : PySem.W.Frag} {B H : Hp} {p : Addr} {d x v d' : D} {i w : V} {Q : Hp → Prop} (s : Same B H) (bp : B p = none) (ow : OwnRep K B H p d) (ri : Rep K B i x) (rw' : Rep K B w v) (e : setIxD d x v = some d') (h : ∀ H', AftP K p d' B H B H' → Q H') : rSetA (.ref p) i w H Q := by
  cases d <;> simp only [setIxD] at e <;> first | (cases e; done) | skip
  · cases x <;> simp only at e <;> first | (cases e; done) | skip
    rename_i ds k
    cases ri
    obtain ⟨xs, hp, rs⟩ := ow
    cases hj : ixN ds.length k with
    | none => rw [hj] at e; cases e
    | some j =>
      rw [hj] at e; cases e
      refine .inl ⟨p, xs, k, j, rfl, rfl, hp, by rw [rs.length]; exact hj, h _ (aft_upd s bp (by rw [hp]; exact fun z => nomatch z) ⟨_, upd_same, rs.set rw' j⟩)⟩
  · rename_i ks ds
    cases hk : toKey x with
    | none =>
      rw [hk] at e
      simp only at e
      split at e
      · rename_i hn
        cases ht : tkD x with
        | none => rw [ht] at e; cases e
        | some k =>
          rw [ht] at e; cases e
          obtain ⟨kvs, hp, ek, rs⟩ := ow
          subst ek
          have e0 : kvs = [] := List.map_eq_nil_iff.mp hn
          subst e0
          obtain ⟨b, rfl, hb⟩ := rep_tk ri ht
          exact .inr (.inr ⟨p, b, k, rfl, rfl, hp, s _ _ hb, h _ (aft_upd s bp (by rw [hp]; exact fun z => nomatch z) ⟨_, upd_same, rfl, .one rw'⟩)⟩)
      · cases e
    | some k =>
      rw [hk] at e
      simp only at e
      split at e
      · rename_i hn
        cases e
        obtain ⟨kvs, hp, ek, rs⟩ := ow
        subst ek
        cases rep_key ri hk
        have hl : kvs.length < sizeLine := by have := hn.2; rw [List.length_map] at this; rw [sizeLine_eq]; omega
        obtain ⟨a1, a2⟩ := put_rep (k := k) rw' hn.1 rs
        exact .inr (.inl ⟨p, _, rfl, .k hp hl, h _ (aft_upd s bp (by rw [hp]; exact fun z => nomatch z) ⟨_, upd_same, a1, a2⟩)⟩)
      · cases e
  · rename_i ks ds
    cases hk : tkD x with
    | none => rw [hk] at e; cases e
    | some k =>
      rw [hk] at e
      simp only at e
      split at e
      · rename_i hn
        cases e
        obtain ⟨kvs, hp, ek, rs⟩ := ow
        subst ek
        obtain ⟨b, rfl, hb⟩ := rep_tk ri hk
        have hl : kvs.length < sizeLine := by have := hn.2; rw [List.length_map] at this; rw [sizeLine_eq]; omega
        obtain ⟨a1, a2⟩ := putT_rep (k := k) rw' hn.1 rs
        exact .inr (.inl ⟨p, _, rfl, .t hp (s _ _ hb) hl, h _ (aft_upd s bp (by rw [hp]; exact fun z => nomatch z) ⟨_, upd_same, a1, a2⟩)⟩)
      · cases e
section
variable {X : Cx} {π : Pm} {a b c e ix : Expr} {es : List Expr} {f g h : M D} {fs : M (List D)} {pos p1 p2 apos cpos : Pos} {y name : Str}
theorem SatS.false {K : PySem.W.Frag} {W : WX} {σ : L2.St} {Γ : List Sl} {B H : Hp} {Dn : Ends} (h : SatS K π W σ Γ B H none Dn) {p : Prop} : p := (show False from h).elim
def setIxM (i : Nat) (f g : M D) : M Fl := bd f fun v => hasM i (bd g fun x => fun Γ => match ownD Γ i with
  | none => none
  | some d => match setIxD d x v with
    | none => none
    | some d' => some (.ok .nx (reS Γ i d')))
theorem ts_setix (i : Nat) {k : Nat} (hr : Room k X.A) (hf : TrF X π e f) (hg : TrF X π ix g) (hN : X.N[i]? = some y := by kernel_rfl) (hv : Vis X.env.scope y := by first | exact Or.inl rfl | exact Or.inr (Or.inl rfl) | exact Or.inr (Or.inr rfl)) (hd : (y == ("__debug__" : Str)) = false := by decide) (hcd : (y == ("__classdict__" : Str)) = false := by decide)
    (ha : ∀ v, assign (.Subscript (.Name y p2) ix p1) X.env v = (do
      let ov ← holding [v] (eval (.Name y p2) X.env)
      let iv ← holding [v, ov] (eval ix X.env)
      standAt p1
      (holding [v, ov, iv] (setItem ov iv v))
      release [v, ov, iv] []) := by intro _; kernel_rfl) (hs : swapsWithSole [.Subscript (.Name y p2) ix p1] e pos.line X.env = pure false := by kernel_rfl) (hw : swappedStores [.Subscript (.Name y p2) ix p1] e X.env = pure none := by kernel_rfl)
    (h1 : (assignEach [.Subscript (.Name y p2) ix p1] X.env).map (·.2) = [assign (.Subscript (.Name y p2) ix p1) X.env] := by kernel_rfl) : TrS X π (.Assign [.Subscript (.Name y p2) ix p1] e pos) (setIxM i f g) := .mk fun W tk σ Γ B H Dn st sat => by
  refine wS_of (ps_asg pe_w (pg_sub (pe_var hN hv hd hcd) pe_w (set_any hr) ha) hs hw h1) ?_
  refine hf.run W tk σ Γ B H _ st (sat.bd fun v Γ1 w B1 H1 e1 nx rv sat1 => ?_)
  unfold hasM at sat1
  cases ho : ownD Γ1 i with
  | none => simp only [ho] at sat1; exact sat1.false
  | some d0 =>
    simp only [ho] at sat1
    obtain ⟨p, hp, _⟩ := nx.st.ow i d0 (ownD_ok ho)
    refine ⟨.ref p, hp, ?_⟩
    refine hg.run W tk σ Γ1 B1 H1 _ nx.st ((sat1.via nx).bd fun x Γ2 iv B2 H2 e2 nx2 ri sat2 => ?_)
    cases ho2 : ownD Γ2 i with
    | none => simp only [ho2] at sat2; exact sat2.false
    | some d =>
      simp only [ho2] at sat2
      cases hd' : setIxD d x v with
      | none => simp only [hd'] at sat2; exact sat2.false
      | some d' =>
        simp only [hd'] at sat2
        obtain ⟨q, hq, bq, ow⟩ := nx2.st.ow i d (ownD_ok ho2)
        rw [hp] at hq; cases hq
        exact set_own nx2.st.sub bq ow ri (rv.mono nx2.bb) hd' fun H' af => sat2 σ B2 H' (nx2.trans (Nx.poke nx2.st (ownD_ok ho2) hp af))

/-! ### x.m(..) on what is owned -/
def OwnOp (X : Cx) (T : String) (r : V → List V → Hp → VK → Prop) (o : D → List D → Option (D × D)) : Prop := ∀ (B H : Hp) (p : Addr) (d : D) (ds : List D) (vs : List V) (d' z : D) (Q : VK), Same B H → B p = none → OwnRep X.K B H p d → Reps X.K B vs ds → o d ds = some (d', z) →
  (∀ H', AftP X.K p d' B H B H' → ∀ v, Rep X.K B v z → Q v H') → r (.ref p) vs H Q
def ownM (i : Nat) (o : D → List D → Option (D × D)) (fs : M (List D)) : M (D × Bool) := hasM i (bd fs fun ds => fun Γ => match ownD Γ i with
  | none => none
  | some d => match o d ds with
    | none => none
    | some (d', z) => some (.ok (z, false) (reS Γ i d')))
def tyD (T : String) : D → Bool
  | .lst _ => T == "list"
  | .dic _ _ => T == "dict"
  | _ => false
theorem ty_own {K : PySem.W.Frag} {B H : Hp} {p : Addr} {d : D} {T : String} (ow : OwnRep K B H p d) (h : tyD T d = true) : tyV K T (.ref p) H := by
  cases d <;> simp only [tyD, beq_iff_eq] at h <;> first | (cases h; done) | skip
  · obtain ⟨xs, e, _⟩ := ow
    exact .inl ⟨h, xs, .inl (.inl e)⟩
  · obtain ⟨kvs, e, _⟩ := ow
    exact .inr (.inr (.inl ⟨h, .inl ⟨kvs, e⟩⟩))
def tyM {α : Type} (T : String) (i : Nat) (m : M α) : M α := fun Γ => match ownD Γ i with
  | some d => if tyD T d then m Γ else none
  | none => none
theorem tv_own (i : Nat) {T id : String} {r : V → List V → Hp → VK → Prop} {o : D → List D → Option (D × D)} (pa : PlainAttrs T) (slot : Slot T name id) (hty : typeOf (.builtin id) = pure (.type "method_descriptor")) (hm : MtR X id r) (op : OwnOp X T r o) (ha : TrA X π (e :: es) fs)
    (hN : X.N[i]? = some y := by kernel_rfl) (hv : Vis X.env.scope y := by first | exact Or.inl rfl | exact Or.inr (Or.inl rfl) | exact Or.inr (Or.inr rfl)) (hd : (y == ("__debug__" : Str)) = false := by decide) (hcd : (y == ("__classdict__" : Str)) = false := by decide)
    (hbase : attributeBase (.Name y p2) name X.env (eval (.Name y p2) X.env) = eval (.Name y p2) X.env := by kernel_rfl)
    (hfew : ((backTo cpos (starEach (e :: es) X.env)).all (fun q => !q.1) && (backToKw cpos (keywordEach [] X.env)).all (fun q => q.1.isSome)
      && decide ((e :: es).length + ([] : List Keyword).length + (if ([] : List Keyword).isEmpty then 0 else 1) < 30)) = true := by kernel_rfl)
    (hline : (apos.endLine == cpos.line) = true := by kernel_rfl) (hs : starEach (e :: es) X.env = (false, eval e X.env) :: starEach es X.env := by kernel_rfl) (hplain : (backTo cpos (starEach es X.env)).any (·.1) = false := by kernel_rfl) :
    TrV X π (.Call (.Attribute (.Name y p2) name apos) (e :: es) [] cpos) (tyM T i (ownM i o fs)) := .mk fun W tk σ Γ B H Q st sat => by
  refine wE_of (pe_bm pa slot hty hm (pe_var hN hv hd hcd) pa_w hbase hfew hline hs hplain) ?_
  unfold tyM at sat
  cases ho : ownD Γ i with
  | none => simp only [ho] at sat; exact sat.false
  | some d0 =>
    simp only [ho] at sat
    by_cases ht : tyD T d0 = true
    · rw [if_pos ht] at sat
      unfold ownM hasM at sat
      simp only [ho] at sat
      obtain ⟨p, hp, _, ow0⟩ := st.ow i d0 (ownD_ok ho)
      refine ⟨.ref p, hp, ty_own ow0 ht, ?_⟩
      refine ha.run W tk σ Γ B H _ st (sat.bd up_valR fun ds Γ2 vs B2 H2 e2 nx2 rs sat2 => ?_)
      cases ho2 : ownD Γ2 i with
      | none => simp only [ho2] at sat2; exact sat2.false
      | some d =>
        simp only [ho2] at sat2
        cases hd' : o d ds with
        | none => simp only [hd'] at sat2; exact sat2.false
        | some q =>
          obtain ⟨d', z⟩ := q
          simp only [hd'] at sat2
          obtain ⟨q, hq, bq, ow⟩ := nx2.st.ow i d (ownD_ok ho2)
          rw [hp] at hq; cases hq
          exact op B2 H2 p d ds vs d' z Q nx2.st.sub bq ow rs hd' fun H' af v rz => sat2 v B2 H' (Nx.poke nx2.st (ownD_ok ho2) hp af) rz
    · rw [if_neg ht] at sat; exact sat.false
theorem tv_own0 (i : Nat) {T id : String} {r : V → List V → Hp → VK → Prop} {o : D → List D → Option (D × D)} (pa : PlainAttrs T) (slot : Slot T name id) (hty : typeOf (.builtin id) = pure (.type "method_descriptor")) (hm : MtR X id r) (op : OwnOp X T r o)
    (hN : X.N[i]? = some y := by kernel_rfl) (hv : Vis X.env.scope y := by first | exact Or.inl rfl | exact Or.inr (Or.inl rfl) | exact Or.inr (Or.inr rfl)) (hd : (y == ("__debug__" : Str)) = false := by decide) (hcd : (y == ("__classdict__" : Str)) = false := by decide)
    (hbase : attributeBase (.Name y p2) name X.env (eval (.Name y p2) X.env) = eval (.Name y p2) X.env := by kernel_rfl) (hline : (apos.endLine == cpos.line) = true := by kernel_rfl) :
    TrV X π (.Call (.Attribute (.Name y p2) name apos) [] [] cpos) (tyM T i (ownM i o (ret []))) := .mk fun W tk σ Γ B H Q st sat => by
  refine wE_of (pe_bm0 pa slot hty hm (pe_var hN hv hd hcd) hbase hline) ?_
  unfold tyM at sat
  cases ho : ownD Γ i with
  | none => simp only [ho] at sat; exact sat.false
  | some d =>
    simp only [ho] at sat
    by_cases ht : tyD T d = true
    · rw [if_pos ht] at sat
      unfold ownM hasM at sat
      simp only [ho] at sat
      obtain ⟨p, hp, bq, ow⟩ := st.ow i d (ownD_ok ho)
      refine ⟨.ref p, hp, ty_own ow ht, ?_⟩
      cases hd' : o d [] with
      | none => simp only [bd, ret, ho, hd'] at sat; exact sat.false
      | some q =>
        obtain ⟨d', z⟩ := q
        simp only [bd, ret, ho, hd'] at sat
        exact op B H p d [] [] d' z Q st.sub bq ow .nil hd' fun H' af v rz => sat v B H' (Nx.poke st (ownD_ok ho) hp af) rz
    · rw [if_neg ht] at sat; exact sat.false
def appD : D → List D → Option (D × D)
  | .lst ds, [y] => if ds.length < 1000000 then some (.lst (ds ++ [y]), .non) else none
  | _, _ => none
theorem own_app : OwnOp X "list" rAppend appD := fun B H p d ds vs d' z Q s bp ow rs e q => by
  unfold appD at e
  split at e
  · split at e
    · rename_i hl
      cases e
      cases rs with
      | cons ry t =>
        cases t
        obtain ⟨xs, hp, r⟩ := ow
        exact ⟨p, xs, _, rfl, rfl, hp, by rw [r.length, sizeLine_eq]; omega, q _ (aft_upd s bp (by rw [hp]; exact fun z => nomatch z) ⟨_, upd_same, r.append (.one ry)⟩) _ .non⟩
    · cases e
  · cases e
def popAtD : D → List D → Option (D × D)
  | .lst ds, [.int i] => if -(2 ^ 63) ≤ i ∧ i < 2 ^ 63 then (seqIndex? i ds.length).bind fun k => (ds[k]?).map fun y => (.lst (ds.eraseIdx k), y) else none
  | _, _ => none
theorem Reps.erase {K : PySem.W.Frag} {B : Hp} : ∀ {vs : List V} {ds : List D} (i : Nat), Reps K B vs ds → Reps K B (vs.eraseIdx i) (ds.eraseIdx i)
  | _, _, _, .nil => .nil
  | _, _, 0, .cons _ t => t
  | _, _, i + 1, .cons h t => .cons h (Reps.erase i t)
theorem own_popAt : OwnOp X "list" rPopAt popAtD := fun B H p d ds vs d' z Q s bp ow rs e q => by
  unfold popAtD at e
  split at e
  · split at e
    · rename_i xd i hl
      cases rs with
      | cons ry t =>
        cases t
        cases ry
        obtain ⟨xs, hp, r⟩ := ow
        cases hk : seqIndex? i xd.length with
        | none => rw [hk] at e; cases e
        | some k =>
          rw [hk] at e
          simp only [Option.bind] at e
          cases hy : xd[k]? with
          | none => rw [hy] at e; cases e
          | some y =>
            rw [hy] at e; cases e
            obtain ⟨v, h1, h2⟩ := r.get hy
            exact ⟨p, xs, i, k, v, rfl, rfl, hp, hl.1, hl.2, by rw [r.length]; exact hk, h1, q _ (aft_upd s bp (by rw [hp]; exact fun z => nomatch z) ⟨_, upd_same, r.erase k⟩) _ h2⟩
    · cases e
  · cases e
def clrD : D → List D → Option (D × D)
  | .dic _ _, [] => some (.dic [] [], .non)
  | _, _ => none
theorem tv_append (i : Nat) (ha : TrA X π [e] fs) (hN : X.N[i]? = some y := by kernel_rfl) (hv : Vis X.env.scope y := by first | exact Or.inl rfl | exact Or.inr (Or.inl rfl) | exact Or.inr (Or.inr rfl)) (hd : (y == ("__debug__" : Str)) = false := by decide) (hcd : (y == ("__classdict__" : Str)) = false := by decide)
    (hbase : attributeBase (.Name y p2) "append" X.env (eval (.Name y p2) X.env) = eval (.Name y p2) X.env := by kernel_rfl)
    (hfew : ((backTo cpos (starEach [e] X.env)).all (fun q => !q.1) && (backToKw cpos (keywordEach [] X.env)).all (fun q => q.1.isSome)
      && decide ([e].length + ([] : List Keyword).length + (if ([] : List Keyword).isEmpty then 0 else 1) < 30)) = true := by kernel_rfl)
    (hline : (apos.endLine == cpos.line) = true := by kernel_rfl) (hs : starEach [e] X.env = (false, eval e X.env) :: starEach [] X.env := by kernel_rfl) (hplain : (backTo cpos (starEach [] X.env)).any (·.1) = false := by kernel_rfl) :
    TrV X π (.Call (.Attribute (.Name y p2) "append" apos) [e] [] cpos) (tyM "list" i (ownM i appD fs)) :=
  tv_own i PySem.F.plainAttrs_list PySem.F.slot_list_append PySem.F.type_list_append mt_append own_app ha hN hv hd hcd hbase hfew hline hs hplain
theorem tv_popAt (i : Nat) (ha : TrA X π [e] fs) (hN : X.N[i]? = some y := by kernel_rfl) (hv : Vis X.env.scope y := by first | exact Or.inl rfl | exact Or.inr (Or.inl rfl) | exact Or.inr (Or.inr rfl)) (hd : (y == ("__debug__" : Str)) = false := by decide) (hcd : (y == ("__classdict__" : Str)) = false := by decide)
    (hbase : attributeBase (.Name y p2) "pop" X.env (eval (.Name y p2) X.env) = eval (.Name y p2) X.env := by kernel_rfl)
    (hfew : ((backTo cpos (starEach [e] X.env)).all (fun q => !q.1) && (backToKw cpos (keywordEach [] X.env)).all (fun q => q.1.isSome)
      && decide ([e].length + ([] : List Keyword).length + (if ([] : List Keyword).isEmpty then 0 else 1) < 30)) = true := by kernel_rfl)
    (hline : (apos.endLine == cpos.line) = true := by kernel_rfl) (hs : starEach [e] X.env = (false, eval e X.env) :: starEach [] X.env := by kernel_rfl) (hplain : (backTo cpos (starEach [] X.env)).any (·.1) = false := by kernel_rfl) :
    TrV X π (.Call (.Attribute (.Name y p2) "pop" apos) [e] [] cpos) (tyM "list" i (ownM i popAtD fs)) :=
  tv_own i PySem.F.plainAttrs_list PySem.F.slot_list_pop PySem.F.type_list_pop mt_popAt own_popAt ha hN hv hd hcd hbase hfew hline hs hplain
end
end L2.TT

set_option Elab.async false
set_option linter.all false
set_option maxRecDepth 100000
set_option maxHeartbeats 1000001
namespace L2.TT
open PySem PyProof.Rows PySem.Spec

section
variable {X : Cx} {π : Pm} {a b c e ix : Expr} {es : List Expr} {f g h : M D} {fs : M (List D)} {pos p1 p2 p3 apos cpos : Pos} {y name : Str}
/-! ### comparisons as tests -/
theorem tt_op2 {op : CmpOp} {r : R2} {o : D → D → Option D} (hf : TrF X π a f) (hg : TrF X π b g) (ho : FlatOp X r o) (pr : OpR X (compareOp op) r) (hm : behindInMarks op b = false) : TrT X π (.Compare a [op] [b] pos) (tv (op2 o f g)) := tt_cmp pr hm fun W tk σ Γ B H Q st sat => by
  refine hf.run W tk σ Γ B H _ st (sat.bd up_repR fun x Γ1 v B1 H1 e1 nx rv sat1 => ?_)
  refine hg.run W tk σ Γ1 B1 H1 _ nx.st (sat1.bd up_repR fun y Γ2 u B2 H2 e2 nx2 ru sat2 => ?_)
  obtain ⟨z, ez, q⟩ := sat2.opt nx2.st
  exact ho B2 H2 x y v u z Q nx2.st.sub (rv.mono nx2.bb) ru ez q
theorem tt_rd2 {op : CmpOp} {r : R2} {o : D → D → Option D} (hf : TrF X π a f) (hg : TrP X π b g) (ho : RdOp2 X r o) (pr : OpR X (compareOp op) r) (hm : behindInMarks op b = false) : TrT X π (.Compare a [op] [b] pos) (tv (op2 o f g)) := tt_cmp pr hm fun W tk σ Γ B H Q st sat => by
  refine hf.run W tk σ Γ B H _ st (sat.bd up_repR fun x Γ1 v B1 H1 e1 nx rv sat1 => ?_)
  refine hg.run W tk σ Γ1 B1 H1 _ nx.st (sat1.bd up_repR fun y Γ2 u B2 H2 e2 nx2 ru sat2 => ?_)
  obtain ⟨z, ez, q⟩ := sat2.opt nx2.st
  exact ho B2 H2 x y v u z Q nx2.st.sub (rv.mono nx2.bb) ru ez q
theorem tt_lt (hf : TrF X π a f) (hg : TrF X π b g) : TrT X π (.Compare a [.Lt] [b] pos) (tv (op2 ltD f g)) := tt_op2 hf hg fl_ord (op_lt.or op_lt_str) (nomark _)
theorem tt_le (hf : TrF X π a f) (hg : TrF X π b g) : TrT X π (.Compare a [.LtE] [b] pos) (tv (op2 leD f g)) := tt_op2 hf hg fl_ord (op_le.or op_le_str) (nomark _)
theorem tt_gt (hf : TrF X π a f) (hg : TrF X π b g) : TrT X π (.Compare a [.Gt] [b] pos) (tv (op2 gtD f g)) := tt_op2 hf hg fl_ord (op_gt.or op_gt_str) (nomark _)
theorem tt_ge (hf : TrF X π a f) (hg : TrF X π b g) : TrT X π (.Compare a [.GtE] [b] pos) (tv (op2 geD f g)) := tt_op2 hf hg fl_ord (op_ge.or op_ge_str) (nomark _)
theorem tt_eq {k : Nat} (hr : Room k X.A) (hf : TrF X π a f) (hg : TrP X π b g) : TrT X π (.Compare a [.Eq] [b] pos) (tv (op2 eqD f g)) := tt_rd2 hf hg rd_eq (op_eqD hr.units) (nomark _)
theorem tt_ne {k : Nat} (hr : Room k X.A) (hf : TrF X π a f) (hg : TrP X π b g) : TrT X π (.Compare a [.NotEq] [b] pos) (tv (op2 neD f g)) := tt_rd2 hf hg rd_ne (op_neD hr.units) (nomark _)
theorem tt_in {k : Nat} (hr : Room k X.A) (hf : TrF X π a f) (hg : TrP X π b g) (hm : behindInMarks .In b = false := by kernel_rfl) : TrT X π (.Compare a [.In] [b] pos) (tv (op2 inD f g)) := tt_rd2 hf hg rd_in ((op_inD (by have := hr.un; omega)).or op_in_sign) hm
theorem tt_notIn {k : Nat} (hr : Room k X.A) (hf : TrF X π a f) (hg : TrP X π b g) (hm : behindInMarks .NotIn b = false := by kernel_rfl) : TrT X π (.Compare a [.NotIn] [b] pos) (tv (op2 niD f g)) := tt_rd2 hf hg rd_ni ((op_notInD (by have := hr.un; omega)).or op_notIn_sign) hm
theorem tt_isN (hf : TrP X π a f) {j pos'} : TrT X π (.Compare a [.Is] [.Constant .none j pos'] pos) (tv (op1 isN f)) := .mk fun W tk σ Γ B H Q st sat => by
  refine wT_of (pt_cmp (pc_isN pe_w) rfl) ?_
  unfold TT.tv op1 at sat
  refine hf.run W tk σ Γ B H _ st (Sat.bd (k := fun x => TT.bd (opt (isN x)) fun z => opt (tst z)) up_boolR (by
    unfold TT.bd at sat ⊢
    cases e : f Γ with
    | none => rw [e] at sat; exact sat
    | some r => rw [e] at sat; cases r <;> exact sat) fun x Γ1 v B1 H1 e1 nx rv sat1 => ?_)
  have hv := see_non rv
  refine ⟨_, rfl, ?_⟩
  rw [hv]
  cases x <;> exact Sat.here (rel := boolR) nx.st sat1 rfl
def chT (o o' : D → D → Option D) (f g h : M D) : M Bool := bd f fun x => bd g fun y => bd (opt ((o x y).bind tst)) fun k => if k = true then bd h fun w => opt ((o' y w).bind tst) else ret false
theorem bind_some {α β : Type} {o : Option α} {k : α → Option β} {z : β} (h : o.bind k = some z) : ∃ x, o = some x ∧ k x = some z := by
  cases o with
  | none => cases h
  | some x => exact ⟨x, rfl, h⟩
theorem tst_some {d : D} {k : Bool} (h : tst d = some k) : d = .bl k := by
  cases d <;> simp only [tst] at h <;> first | (cases h; done) | skip
  cases h; rfl
theorem tt_lele (hf : TrF X π a f) (hg : TrF X π b g) (hh : TrF X π c h) (hm : lastMarks [CmpOp.LtE, CmpOp.LtE] [b, c] = false := by kernel_rfl) : TrT X π (.Compare a [.LtE, .LtE] [b, c] pos) (chT leD leD f g h) := .mk fun W tk σ Γ B H Q st sat => by
  refine wT_of (pt_chain (op_le.or op_le_str) (op_le.or op_le_str) pe_w pe_w pe_w hm) ?_
  have fo : FlatOp X _ leD := fl_ord
  refine hf.run W tk σ Γ B H _ st (sat.bd up_boolR fun x Γ1 v B1 H1 e1 nx rv sat1 => ?_)
  refine hg.run W tk σ Γ1 B1 H1 _ nx.st (sat1.bd up_boolR fun y Γ2 u B2 H2 e2 nx2 ru sat2 => ?_)
  cases e3 : (leD x y).bind tst with
  | none => rw [e3] at sat2; exact (show False from sat2).elim
  | some k =>
    rw [e3] at sat2
    obtain ⟨z, e4, e5⟩ := bind_some e3
    cases tst_some e5
    refine fo B2 H2 x y v u _ _ nx2.st.sub (rv.mono nx2.bb) ru e4 fun w0 rw0 => ?_
    cases rw0
    refine ⟨k, rfl, ?_⟩
    cases k with
    | false => exact iteF ⟨_, rfl, Sat.here (rel := boolR) nx2.st (show Sat X.K π W σ Γ2 B2 H2 boolR (ret false Γ2) Q from sat2) rfl⟩
    | true =>
      refine iteT ?_
      have sat3 : Sat X.K π W σ Γ2 B2 H2 boolR (TT.bd h (fun w => opt ((leD y w).bind tst)) Γ2) Q := sat2
      refine hh.run W tk σ Γ2 B2 H2 _ nx2.st (sat3.bd up_boolR fun w Γ3 wv B3 H3 e6 nx3 rwv sat4 => ?_)
      cases e7 : (leD y w).bind tst with
      | none => rw [e7] at sat4; exact (show False from sat4).elim
      | some k =>
        rw [e7] at sat4
        obtain ⟨z, e8, e9⟩ := bind_some e7
        cases tst_some e9
        refine fo B3 H3 y w u wv _ _ nx3.st.sub (ru.mono nx3.bb) rwv e8 fun w0 rw0 => ?_
        cases rw0
        exact ⟨_, rfl, Sat.here (rel := boolR) nx3.st (show Sat X.K π W σ Γ3 B3 H3 boolR (ret k Γ3) Q from sat4) rfl⟩
/-- a global whole number -/
theorem tr_gi {i : Int} {t} (hm : X.mg y = some (.int i t)) (hg : Gl X y := by rfl) (hdb : (y == ("__debug__" : Str)) = false := by decide) : TrF X π (.Name y pos) (ret (.int i)) := trf_of (pe_glob (v := .int i) hg hm ⟨t, rfl⟩ hdb) <| .mk fun W tk σ Γ B H Q st sat => sat.here st (.int i)

/-! ### [..][i], what is owned stays so -/
def ValsR (K : PySem.W.Frag) (H : Hp) (σ : L2.St) (B' H' : Hp) (Γ' : List Sl) (ps : List (D × Bool)) (vs : List V) : Prop := ps.length = vs.length ∧ ∀ (i : Nat) p v, ps[i]? = some p → vs[i]? = some v → valR K H σ B' H' Γ' p v
def valsR (K : PySem.W.Frag) : Rl (List (D × Bool)) (List V) := fun H σ B' H' Γ' ps vs => ValsR K H σ B' H' Γ' ps vs
theorem up_valsR {K} : Up (valsR K) := fun H H1 σ B' H' Γ' ps vs n h => ⟨h.1, fun i p v e1 e2 => up_valR H H1 σ B' H' Γ' p v n (h.2 i p v e1 e2)⟩
abbrev TrAV (X : Cx) (π : Pm) (es : List Expr) (m : M (List (D × Bool))) : Prop := Tr X π (valsR X.K) (wA X es) m
theorem valR_on {K : PySem.W.Frag} {H : Hp} {σ : L2.St} {Γ1 Γ2 : List Sl} {B1 H1 B2 H2 : Hp} {p : D × Bool} {v : V} (r : valR K H σ B1 H1 Γ1 p v) (nx : Nx K π σ Γ1 B1 H1 σ Γ2 B2 H2) : valR K H σ B2 H2 Γ2 p v := by
  obtain ⟨d, o⟩ := p
  cases o with
  | false => exact Rep.mono nx.bb r
  | true =>
    obtain ⟨q, e, hq, bq, ow, no⟩ := r
    obtain ⟨u, hu, nt⟩ := nt_of_own ow
    obtain ⟨a1, a2, a3⟩ := lst_kept nx hu bq no nt
    exact ⟨q, e, hq, a2, (ow.eqH (by rw [a1, hu])).monoB nx.bb, a3⟩
theorem tav_nil : TrAV X π [] (ret []) := .mk fun W tk σ Γ B H Q st sat => wA_of pa_nil (sat.here st ⟨rfl, fun i p v e _ => by cases e⟩)
def cnsV (f : M (D × Bool)) (fs : M (List (D × Bool))) : M (List (D × Bool)) := bd f fun d => bd fs fun ds => ret (d :: ds)
theorem tav_cons {f : M (D × Bool)} {fs : M (List (D × Bool))} (hf : TrV X π e f) (hs : TrAV X π es fs) (hst : starEach (e :: es) X.env = (false, eval e X.env) :: starEach es X.env := by kernel_rfl) : TrAV X π (e :: es) (cnsV f fs) := .mk fun W tk σ Γ B H Q st sat => by
  refine wA_of (pa_cons pe_w pa_w hst) ?_
  refine hf.run W tk σ Γ B H _ st (sat.bd0 fun x Γ1 v B1 H1 e1 nx rv sat1 => ?_)
  refine hs.run W tk σ Γ1 B1 H1 _ nx.st ?_
  unfold TT.bd at sat1
  cases e2 : fs Γ1 with
  | none => rw [e2] at sat1; exact sat1.false
  | some r =>
    rw [e2] at sat1
    cases r with
    | er c fs Γ2 => exact fun dd B' H' nx2 er hd => sat1 dd B' H' (nx.trans nx2) er (nonO_of nx.nd hd)
    | ok y Γ2 =>
      intro u B2 H2 nx2 ru
      refine sat1 (v :: u) B2 H2 (nx.trans nx2) ⟨by rw [List.length_cons, List.length_cons, ru.1], fun i p w e1 e2 => ?_⟩
      cases i with
      | zero =>
        simp only [List.getElem?_cons_zero, Option.some.injEq] at e1 e2
        subst e1 e2
        exact valR_on rv nx2
      | succ j =>
        simp only [List.getElem?_cons_succ] at e1 e2
        exact up_valR _ _ _ _ _ _ _ _ nx.nd (ru.2 j p w e1 e2)
def pickD (ps : List (D × Bool)) : D → Option (D × Bool)
  | .int k => atI ps k
  | _ => none
def pickM (ms : M (List (D × Bool))) (g : M D) : M (D × Bool) := bd ms fun ps => if ps.length ≤ 1000 then bd g fun x => opt (pickD ps x) else fun _ => none
theorem atI_both {α β : Type} {xs : List α} {ys : List β} {i : Int} {x : α} (hl : xs.length = ys.length) (h : L2.atI xs i = some x) : ∃ (y : β) (j : Nat), L2.atI ys i = some y ∧ xs[j]? = some x ∧ ys[j]? = some y := by
  unfold L2.atI at h ⊢
  rw [← hl]
  cases e : (ixN xs.length i) with
  | none => (rw [e] at h; cases h)
  | some j =>
    rw [e] at h
    have h : xs[j]? = some x := h
    have l := (List.getElem?_eq_some_iff.mp h).1
    exact ⟨ys[j]'(hl ▸ l), j, List.getElem?_eq_getElem (hl ▸ l), h, List.getElem?_eq_getElem (hl ▸ l)⟩
theorem tv_pick {ms : M (List (D × Bool))} (hs : TrAV X π es ms) (hg : TrF X π ix g) (hx : PlainIx ix := by exact fun _ _ => rfl) : TrV X π (.Subscript (.List es p1) ix pos) (pickM ms g) := .mk fun W tk σ Γ B H Q st sat => by
  refine wE_of (pe_ix ix_list (pe_lst pa_w) pe_w hx) ?_
  refine hs.run W tk σ Γ B H _ st (sat.bd0 fun ps Γ1 vs B1 H1 e1 nx rv sat1 => ?_)
  by_cases hl : ps.length ≤ 1000
  · rw [if_pos hl] at sat1
    refine ⟨by rw [← rv.1]; exact le1000 hl, fun p hp => ?_⟩
    have nw := Nx.new (o := .lst vs) nx.st hp
    have bp : B1 p = none := nx.st.sub.free hp
    have no := not_own_new nx.st hp
    have rv2 : ValsR X.K H σ B1 (upd H1 p (.lst vs)) Γ1 ps vs := ⟨rv.1, fun i q w e1 e2 => valR_on (rv.2 i q w e1 e2) nw⟩
    refine hg.run W tk σ Γ1 B1 _ _ nw.st ?_
    unfold TT.bd at sat1
    cases e2 : g Γ1 with
    | none => rw [e2] at sat1; exact sat1.false
    | some r =>
      rw [e2] at sat1
      cases r with
      | er c fs Γ2 => exact fun dd B' H' nx2 er hd => sat1 dd B' H' (nx.trans (nw.trans nx2)) er (nonO_of (nx.trans nw).nd hd)
      | ok x Γ2 =>
        intro u B2 H2 nx2 ru
        have sat1 : Sat X.K π W σ Γ B H (valR X.K) (opt (pickD ps x) Γ2) Q := sat1
        cases e3 : pickD ps x with
        | none => rw [e3] at sat1; exact sat1.false
        | some q =>
          rw [e3] at sat1
          have satq : ∀ b B' H', Nx X.K π σ Γ B H σ Γ2 B' H' → valR X.K H σ B' H' Γ2 q b → Q b H' := sat1
          cases x <;> simp only [pickD] at e3 <;> first | (cases e3; done) | skip
          cases ru
          obtain ⟨w, j, h1, h2, h3⟩ := atI_both rv.1 e3
          obtain ⟨a1, a2, a3⟩ := lst_kept nx2 upd_same bp no
          exact ⟨p, vs, _, w, rfl, rfl, SqL.of a1, h1, satq w B2 H2 (nx.trans (nw.trans nx2)) (valR_on (rv2.2 j q w h2 h3) nx2)⟩
  · rw [if_neg hl] at sat1; exact sat1.false

/-! ### list + list -/
def catM (f g : M D) : M (D × Bool) := bd f fun x => bd g fun y => match x, y with
  | .lst xs, .lst ys => if xs.length + ys.length ≤ 1000000 then ret (.lst (xs ++ ys), true) else fun _ => none
  | _, _ => fun _ => none
theorem tv_cat (hf : TrF X π a f) (hg : TrF X π b g) : TrV X π (.BinOp a .Add b pos) (catM f g) := .mk fun W tk σ Γ B H Q st sat => by
  refine wE_of (pe_op op_cat pe_w pe_w) ?_
  refine hf.run W tk σ Γ B H _ st (sat.bd up_valR fun x Γ1 v B1 H1 e1 nx rv sat1 => ?_)
  refine hg.run W tk σ Γ1 B1 H1 _ nx.st (sat1.bd up_valR fun y Γ2 u B2 H2 e2 nx2 ru sat2 => ?_)
  have rv2 := rv.mono nx2.bb
  cases rv2 <;> try exact sat2.false
  cases ru <;> try exact sat2.false
  rename_i l xs dx h1 r1 m ys dy h2 r2
  simp only at sat2
  split at sat2
  · rename_i hl
    refine ⟨l, m, xs, ys, rfl, rfl, nx2.st.sub _ _ h1, nx2.st.sub _ _ h2, by rw [r1.length, r2.length, sizeLine_eq]; omega, fun p hp => ?_⟩
    exact sat2 _ _ _ (Nx.new nx2.st hp) ⟨p, rfl, hp, nx2.st.sub.free hp, ⟨_, upd_same, r1.append r2⟩, not_own_new nx2.st hp⟩
  · exact sat2.false

/-! ### {}, max of two -/
theorem tv_dict0 : TrV X π (.Dict [] [] pos) (ret (.dic [] [], true)) := .mk fun W tk σ Γ B H Q st sat => by
  refine wE_of pe_dnewK fun p hp => ?_
  exact sat _ _ _ (Nx.new st hp) ⟨p, rfl, hp, st.sub.free hp, ⟨[], upd_same, rfl, .nil⟩, not_own_new st hp⟩
def max2D : List D → Option D
  | [.int i, .int j] => some (.int (if j > i then j else i))
  | _ => none
def max2M (fs : M (List D)) : M D := bd fs fun ds => opt (max2D ds)
theorem tr_max2 (hc : X.calm = true) (hs : TrA X π (e :: es) fs) (hm : X.mg "max" = none) (hg : Gl X "max" := by rfl) (hst : starEach (e :: es) X.env = (false, eval e X.env) :: starEach es X.env := by kernel_rfl) (hpl : (backTo pos (starEach es X.env)).any (·.1) = false := by kernel_rfl) :
    TrF X π (.Call (.Name "max" p1) (e :: es) [] pos) (max2M fs) := .mk fun W tk σ Γ B H Q st sat => by
  refine wE_of (pe_callB (call_max2 hc) hg hm (by decide +kernel) pa_w (he := hst) (hpl := hpl)) ?_
  refine hs.run W tk σ Γ B H _ st (sat.bd up_repR fun ds Γ1 vs B1 H1 e1 nx rv sat1 => ?_)
  obtain ⟨z, ez, q⟩ := sat1.opt nx.st
  unfold max2D at ez
  split at ez
  · cases ez
    cases rv with
    | cons r1 t =>
      cases t with
      | cons r2 t =>
        cases t
        cases r1; cases r2
        exact ⟨_, _, rfl, q _ (.int _)⟩
  · cases ez
/-! ### x[lo:hi] of a list: a new list -/
def wO (X : Cx) (e : Option Expr) : TO := fun σ H Q => ∀ (pins : List (Addr × Obj)) (s : Shared), Inv X pins σ H s → wpAny (model X.prog X.w) X.A (evalPart e X.env) (fun u s' => ∃ o H', Inv X pins σ H' s' ∧ IsPart u o ∧ Q o H') X.xe s
theorem po_w {e : Option Expr} : PO X e (wO X e) := ⟨fun pins s σ H Q I h => h pins s I⟩
def optR : Rl (Option Int) (Option Int) := fun _ _ _ _ _ a b => a = b
theorem up_optR : Up optR := fun _ _ _ _ _ _ _ _ _ h => h
abbrev TrO (X : Cx) (π : Pm) (e : Option Expr) (m : M (Option Int)) : Prop := Tr X π optR (wO X e) m
theorem to_none : TrO X π none (ret none) := .mk fun W tk σ Γ B H Q st sat pins s I => po_none.run pins s σ H Q I (Sat.here st sat rfl)
def partD : D → Option (Option Int)
  | .int i => some (some i)
  | _ => none
def partM (f : M D) : M (Option Int) := bd f fun x => opt (partD x)
theorem to_some (hf : TrF X π e f) : TrO X π (some e) (partM f) := .mk fun W tk σ Γ B H Q st sat pins s I => by
  refine (po_some pe_w).run pins s σ H Q I ?_
  refine hf.run W tk σ Γ B H _ st (sat.bd up_optR fun x Γ1 v B1 H1 e1 nx rv sat1 => ?_)
  obtain ⟨z, ez, q⟩ := sat1.opt nx.st
  cases x <;> simp only [partD] at ez <;> first | (cases ez; done) | skip
  cases ez; cases rv
  exact ⟨_, rfl, q _ rfl⟩
def cutD {α : Type} (xs : List α) (lo hi : Option Int) : List α := (xs.drop (HT.sIx xs.length 0 lo)).take (HT.sIx xs.length xs.length hi - HT.sIx xs.length 0 lo)
def slcD : D → Option Int → Option Int → Option D
  | .lst ds, lo, hi => some (.lst (cutD ds lo hi))
  | .kl ds, lo, hi => some (.lst (cutD ds lo hi))
  | _, _, _ => none
def slcM (f : M D) (l u : M (Option Int)) : M (D × Bool) := bd f fun x => bd l fun lo => bd u fun hi => bd (opt (slcD x lo hi)) fun z => ret (z, true)
theorem tv_slc {lo hi : Option Expr} {l u : M (Option Int)} (hf : TrF X π a f) (hl : TrO X π lo l) (hu : TrO X π hi u) : TrV X π (.Subscript a (.Slice lo hi none p2) pos) (slcM f l u) := .mk fun W tk σ Γ B H Q st sat => by
  refine wE_of (pe_slice sl_list pe_w po_w po_w) ?_
  refine hf.run W tk σ Γ B H _ st (sat.bd up_valR fun x Γ1 v B1 H1 e1 nx rv sat1 => ?_)
  refine hl.run W tk σ Γ1 B1 H1 _ nx.st (sat1.bd up_valR fun y Γ2 lo' B2 H2 e2 nx2 e3 sat2 => ?_)
  refine hu.run W tk σ Γ2 B2 H2 _ nx2.st (sat2.bd up_valR fun z Γ3 hi' B3 H3 e4 nx3 e5 sat3 => ?_)
  cases e3; cases e5
  have rv3 := (rv.mono nx2.bb).mono nx3.bb
  have fin : ∀ {p : Addr} {xs : List V} {ds : List D}, v = .ref p → SqL X.K B3 p xs → Reps X.K B3 xs ds → Sat X.K π W σ Γ3 B3 H3 (valR X.K) (ret (.lst (cutD ds y z), true) Γ3) Q → rSlL X.K v y z H3 Q := fun {p xs ds} e h r sat => by
    refine ⟨p, xs, e, same_sqL nx3.st.sub h, fun q hq => ?_⟩
    refine sat _ _ _ (Nx.new nx3.st hq) ⟨q, rfl, hq, nx3.st.sub.free hq, ⟨_, upd_same, ?_⟩, not_own_new nx3.st hq⟩
    unfold cutV cutD
    rw [r.length]
    exact (r.drop _).take _
  cases rv3 <;> try exact sat3.false
  · rename_i h r
    exact fin rfl (SqL.of h) r sat3
  · rename_i h r
    exact fin rfl h r sat3
end
end L2.TT

set_option Elab.async false
set_option linter.all false
set_option maxRecDepth 100000
set_option maxHeartbeats 1000001
namespace L2.TT
open PySem PyProof.Rows PySem.Spec

/-- the global x is a def of n parameters that keeps sp -/
def DefOk (P : Program) (w : World) (K : PySem.W.Frag) (mg : Str → Option Value) (base : Heap) (k : Nat) (x : Str) (sp : Sp) : Prop :=
  ∃ f fd ps, FnOk P w K mg base (L2.CX P w) k f fd ps sp ∧ mg x = some (.ref f) ∧ PySem.W.keepIn K (.ref f) = true ∧ Binds K fd ps []
section
variable {X : Cx} {π : Pm} {a b c e ix : Expr} {es : List Expr} {f g h : M D} {fs : M (List D)} {pos p1 p2 p3 p apos cpos : Pos} {x y name : Str} {k n : Nat}
theorem tv_callD {F : List D → Option Out} (G : DefOk X.prog X.w X.K X.mg X.base k x (spF X.K n F)) (hr : Room k X.A) (ha : TrA X π (e :: es) fs) (hg : Gl X x := by rfl)
    (hdb : (x == ("__debug__" : Str)) = false := by decide) (he : starEach (e :: es) X.env = (false, eval e X.env) :: starEach es X.env := by kernel_rfl) (hpl : (backTo pos (starEach es X.env)).any (·.1) = false := by kernel_rfl) :
    TrV X π (.Call (.Name x p) (e :: es) [] pos) (callM n F fs) := by
  obtain ⟨f, fd, ps, Fn, hm, hk, hb⟩ := G
  exact tv_call Fn hr hm hk hb ha hg hdb he hpl
theorem tv_callPD (i : Nat) {F : D → List D → Option (D × Out)} (G : DefOk X.prog X.w X.K X.mg X.base k x (spP X.K n F)) (hr : Room k X.A) (ha : TrA X π es fs) (hg : Gl X x := by rfl)
    (hN : X.N[i]? = some y := by kernel_rfl) (hv : Vis X.env.scope y := by first | exact Or.inl rfl | exact Or.inr (Or.inl rfl) | exact Or.inr (Or.inr rfl)) (hd : (y == ("__debug__" : Str)) = false := by decide) (hcd : (y == ("__classdict__" : Str)) = false := by decide)
    (hdb : (x == ("__debug__" : Str)) = false := by decide) (he : starEach (.Name y p2 :: es) X.env = (false, eval (.Name y p2) X.env) :: starEach es X.env := by kernel_rfl) (hpl : (backTo pos (starEach es X.env)).any (·.1) = false := by kernel_rfl) :
    TrV X π (.Call (.Name x p) (.Name y p2 :: es) [] pos) (callPM i n F fs) := by
  obtain ⟨f, fd, ps, Fn, hm, hk, hb⟩ := G
  exact tv_callP i Fn hr hm hk hb ha hg hN hv hd hcd hdb he hpl
theorem tr_gx {i : Int} (hm : ∃ t, X.mg y = some (.int i t)) (hg : Gl X y := by rfl) (hdb : (y == ("__debug__" : Str)) = false := by decide) : TrF X π (.Name y pos) (ret (.int i)) := by
  obtain ⟨t, hm⟩ := hm
  exact tr_gi hm hg hdb
end
section
variable {P : Program} {w : World} {K : PySem.W.Frag} {mg : Str → Option Value} {base : Heap} {x qual : Str} {params : Arguments} {body : List Stmt} {scope : Scope} {dvs : List V} {kws : List (Str × V)} {f : Addr} {fd : FuncData} {N ps : List Str} {k n : Nat} {m : M Fl}
theorem def_F (F : ∃ fd, FunD K x qual params body scope [] [] f fd) (hg : mg x = some (.ref f)) (S : FnScope N ps scope) (hn : n = ps.length) (hN : n ≤ N.length)
    (hbody : ∀ (π : Pm) (cdv : Value) (A : Around) (outer : List Env) (s : Shared) (H : Hp) (E : XK), Room k (A.deeper (envOfC qual scope s.heap.objs.size f cdv)) → TrSs (cxOf (L2.CX P w) P w K mg base N qual scope f cdv A outer s H E) π body m)
    (hB : ∀ fd, FunD K x qual params body scope [] [] f fd → Binds K fd ps []) : DefOk P w K mg base (k + 1) x (spF K n (fnM N.length n m)) := by
  obtain ⟨fd, F⟩ := F
  exact ⟨f, fd, ps, fn_F F S hn hN hbody, hg, F.kp, hB fd F⟩
theorem def_P (F : ∃ fd, FunD K x qual params body scope [] [] f fd) (hg : mg x = some (.ref f)) (S : FnScope N ps scope) (hn : n + 1 = ps.length) (hN : n + 1 ≤ N.length)
    (hbody : ∀ (π : Pm) (cdv : Value) (A : Around) (outer : List Env) (s : Shared) (H : Hp) (E : XK), Room k (A.deeper (envOfC qual scope s.heap.objs.size f cdv)) → TrSs (cxOf (L2.CX P w) P w K mg base N qual scope f cdv A outer s H E) π body m)
    (hB : ∀ fd, FunD K x qual params body scope [] [] f fd → Binds K fd ps []) : DefOk P w K mg base (k + 1) x (spP K n (fnP N.length n m)) := by
  obtain ⟨fd, F⟩ := F
  exact ⟨f, fd, ps, fn_P F S hn hN hbody, hg, F.kp, hB fd F⟩
end
end L2.TT

set_option Elab.async false
set_option linter.all false
set_option maxRecDepth 100000
set_option maxHeartbeats 1000001
namespace L2.TT
open PySem PyProof.Rows PySem.Spec

section
variable {K : PySem.W.Frag} {π : Pm} {σ σ1 : L2.St} {Γ Γ1 : List Sl} {B H B1 H1 : Hp} {i : Nat}
theorem set_at {Γ : List Sl} {i j : Nat} {s x : Sl} (h : (Γ.set i s)[j]? = some x) : (j = i ∧ x = s) ∨ (j ≠ i ∧ Γ[j]? = some x) := by
  by_cases e : j = i
  · subst e
    by_cases l : j < Γ.length
    · rw [List.getElem?_set_self l] at h; exact .inl ⟨rfl, (Option.some.inj h).symm⟩
    · rw [List.getElem?_eq_none (by simpa using l)] at h; cases h
  · rw [List.getElem?_set_ne (Ne.symm e)] at h; exact .inr ⟨e, h⟩
theorem own_set {s : Sl} (hs : (∃ x, s = .fz x) ∨ (∃ ks ds, s = .lk ks ds)) {q : Addr} (h : OwnAt (Γ.set i s) σ q) : OwnAt Γ σ q := by
  obtain ⟨j, x, h, e⟩ := h
  rcases h with h | h
  · rcases set_at h with ⟨_, z⟩ | ⟨_, h⟩
    · subst z; rcases hs with ⟨_, z⟩ | ⟨_, _, z⟩ <;> cases z
    · exact ⟨j, x, .inl h, e⟩
  · rcases set_at h with ⟨_, z⟩ | ⟨_, h⟩
    · subst z; rcases hs with ⟨_, z⟩ | ⟨_, _, z⟩ <;> cases z
    · exact ⟨j, x, .inr h, e⟩
end
end L2.TT

set_option Elab.async false
set_option linter.all false
set_option maxRecDepth 100000
set_option maxHeartbeats 1000001
namespace L2.TT
open PySem PyProof.Rows PySem.Spec

/-! ### d.items(), keys ints, texts or tuples of these -/
def pairD : List Key → List D → List D
  | k :: ks, d :: ds => .tup [keyD k, d] :: pairD ks ds
  | _, _ => []
def pairT : List (List Key) → List D → List D
  | k :: ks, d :: ds => .tup [tkeyD k, d] :: pairT ks ds
  | _, _ => []
theorem pairD_at : ∀ {ks : List Key} {ds : List D} {i : Nat} {x : D}, (pairD ks ds)[i]? = some x → ∃ k d, ks[i]? = some k ∧ ds[i]? = some d ∧ x = .tup [keyD k, d]
  | k :: ks, d :: ds, 0, x, h => by simp only [pairD, List.getElem?_cons_zero, Option.some.injEq] at h; exact ⟨k, d, rfl, rfl, h.symm⟩
  | k :: ks, d :: ds, i + 1, x, h => by
    simp only [pairD, List.getElem?_cons_succ] at h
    obtain ⟨k', d', a, b, c⟩ := pairD_at h
    exact ⟨k', d', by simpa using a, by simpa using b, c⟩
  | [], _, _, _, h => by simp [pairD] at h
  | _ :: _, [], _, _, h => by simp [pairD] at h
theorem pairT_at : ∀ {ks : List (List Key)} {ds : List D} {i : Nat} {x : D}, (pairT ks ds)[i]? = some x → ∃ k d, ks[i]? = some k ∧ ds[i]? = some d ∧ x = .tup [tkeyD k, d]
  | k :: ks, d :: ds, 0, x, h => by simp only [pairT, List.getElem?_cons_zero, Option.some.injEq] at h; exact ⟨k, d, rfl, rfl, h.symm⟩
  | k :: ks, d :: ds, i + 1, x, h => by
    simp only [pairT, List.getElem?_cons_succ] at h
    obtain ⟨k', d', a, b, c⟩ := pairT_at h
    exact ⟨k', d', by simpa using a, by simpa using b, c⟩
  | [], _, _, _, h => by simp [pairT] at h
  | _ :: _, [], _, _, h => by simp [pairT] at h
theorem pairD_len : ∀ {ks : List Key} {ds : List D}, ks.length = ds.length → (pairD ks ds).length = ks.length
  | [], [], _ => rfl
  | _ :: ks, _ :: ds, h => by simp only [pairD, List.length_cons] at h ⊢; rw [pairD_len (by omega)]
theorem pairT_len : ∀ {ks : List (List Key)} {ds : List D}, ks.length = ds.length → (pairT ks ds).length = ks.length
  | [], [], _ => rfl
  | _ :: ks, _ :: ds, h => by simp only [pairT, List.length_cons] at h ⊢; rw [pairT_len (by omega)]

/-! a locked dict with tuple keys, its entries -/
structure LockT (X : Cx) (H : Hp) (z : Shared) (d : Addr) (es : Array DictEntry) (ep : Nat) (kvs : List (List Key × V)) : Prop where
  other : (d == sysModules) = false
  raw : z.heap.DictRaw d es ep
  many : es.size = kvs.length
  entry : ∀ (i : Nat) (k : List Key) (v : V), kvs[i]? = some (k, v) → ∃ (b : Addr) (u : Value) (en : DictEntry), es[i]? = some en ∧ en.key = .ref b ∧ en.val = u ∧ H b = some (.tup (k.map kV)) ∧ RelV v u
theorem lockT {X : Cx} {pins : List (Addr × Obj)} {τ : L2.St} {H : Hp} {z : Shared} {d : Addr} {od : Obj} {es : Array DictEntry} {ep : Nat} {kvs : List (List Key × V)} (inv : Inv X pins τ H z) (h : H d = some (.frz od (.dT kvs))) (data : od.data = .dict es ep) : LockT X H z d es ep kvs := by
  obtain ⟨here, _, low, xs, pairs, o2, es2, ep2, there, exact_, data2, entries, _⟩ := inv.hok d _ h
  rw [here] at there
  cases there
  rw [data] at data2
  cases data2
  have sizes : es.size = kvs.length := by rw [size_of_entries entries, ← Paired.length pairs]
  refine ⟨low, ⟨od, here, exact_, data⟩, sizes, fun i k v at_ => ?_⟩
  obtain ⟨⟨k2, b, u⟩, hx, ek, hb, rel⟩ := paired_get pairs at_
  have at2 := entry_at entries i
  rw [hx] at at2
  exact ⟨b, u, _, at2, rfl, rfl, hb, rel⟩
/-- the pairs of the locked dict at d, each a new tuple, its key's tuple in it -/
def Itit (d : Addr) (o : Obj) (kvs : List (List Key × V)) : It :=
  ⟨fun i H => H d = some (.frz o (.dT kvs)) ∧ i < kvs.length, fun i H x H' => ∃ T k v q, kvs[i]? = some (k, v) ∧ x = .ref T ∧ H T = none ∧ H q = some (.tup (k.map kV)) ∧ H' = upd H T (.tup [.ref q, v]), fun i H => H d = some (.frz o (.dT kvs)) ∧ kvs.length ≤ i⟩
theorem turn_itemsTu {P : Program} {w : World} {K : PySem.W.Frag} {d : Addr} {od : Obj} {es : Array DictEntry} {ep : Nat} {kvs : List (List Key × V)} {elts : List Expr} {n1 : Nat} {tpos : Pos} (jt : Addr) (data : od.data = .dict es ep) :
    Turn P w K (.Tuple elts n1 tpos) (Itit d od kvs) [jt] jt (fun i h => ∃ a b, IsItemIter h jt d i es.size ep a b) where
  mem := List.mem_singleton.mpr rfl
  obj := fun _ _ st b hb => by
    obtain ⟨a, a2, e⟩ := st
    cases List.mem_singleton.mp hb
    exact ⟨_, e, fun _ q => by cases q⟩
  keep := fun _ _ _ ⟨a, b, e⟩ kp => ⟨a, b, kp jt (List.mem_singleton.mpr rfl) _ e⟩
  item := by
    rintro X rfl rfl rfl calm i pins z τ H E inv foot ⟨a, b, e⟩ ⟨locked, lt⟩
    have L := lockT inv locked data
    obtain ⟨p, at_⟩ : ∃ p, kvs[i]? = some p := ⟨_, List.getElem?_eq_getElem lt⟩
    obtain ⟨q, u, en, ent, isK, isV, keyAt, rel⟩ := L.entry i p.1 p.2 at_
    obtain ⟨lt2, same⟩ := Array.getElem?_eq_some_iff.mp ent
    have young : jt < z.heap.objs.size := Heap.lt_size e
    refine wpAny_pyNext_items_item_raw e L.raw lt2 fun h1 out newT size1 kept1 => ⟨_, rfl, wpAny_letOwnedTupleGo_items (s := { z with heap := h1 }) (by rw [same] at out; exact out) fun h2 iter2 but => ?_⟩
    rw [same, isK, isV] at newT
    have atT : h2.get? z.heap.objs.size = some { cls := .type "tuple", data := .seq #[.ref q, u] } := (but.2 _ (Nat.ne_of_gt young)).trans newT
    have isT : ObjOk X.prog X.w (upd H z.heap.objs.size (.tup [.ref q, p.2])) h2 z.heap.objs.size (.tup [.ref q, p.2]) := ⟨by show 2 ≤ sizeLine; rw [sizeLine_eq]; decide, [.ref q, u], .cons rfl (.cons rel .nil), _, atT, rfl, _, rfl⟩
    have inv2 := inv.turnedNew (t' := z.toks) (ch := [jt]) (h' := h2) (fun b ob nb eb => (but.2 b fun w => nb (List.mem_singleton.mpr w)).trans (kept1 b ob (fun w => nb (List.mem_singleton.mpr w)) eb)) foot (Nat.le_refl _) isT
    refine ⟨.ref z.heap.objs.size, _, inv2, rfl, ⟨_, p.1, p.2, q, at_, rfl, inv.hok.fresh (Nat.le_refl _), keyAt, rfl⟩, ⟨_, _, iter2⟩, fun b hb => ?_⟩
    rw [List.mem_singleton.mp hb]
    exact (upd_ne (Nat.ne_of_lt young)).trans (foot jt (List.mem_singleton.mpr rfl)).1
  done := by
    rintro X rfl rfl rfl calm i pins z τ H E inv foot ⟨a, b, e⟩ ⟨locked, ge⟩
    have L := lockT inv locked data
    obtain ⟨c0, c1, _, c3, c4, c5⟩ := foot jt (List.mem_singleton.mpr rfl)
    exact wpAny_pyNext_items_end_raw (inv.ok.hd calm) e L.raw (by rw [L.many]; exact ge) fun h1 but => ⟨rfl, inv.turned (t' := z.toks) (fun b ob nb eb => but b ob nb eb) c0 c1 c3 c4 c5⟩
  self := fun _ _ _ _ _ ⟨_, _, e⟩ told => PySem.W.kcp_self e told
def iItemsT (td : TE) : TI := fun σ H R => td σ H fun x H1 => ∃ (d : Addr) (o : Obj) (kvs : List (List Key × V)), x = .ref d ∧ H1 d = some (.frz o (.dT kvs)) ∧ R (Itit d o kvs) H1
section
variable {X : Cx} {π : Pm} {a b c e tg : Expr} {pos p1 p2 p3 p apos cpos : Pos} {td : TE} {f : M D}
theorem pi_itemsTu {elts : List Expr} {n1 : Nat} {tpos : Pos} (he : PE X e td) (hbase : attributeBase e "items" X.env (eval e X.env) = eval e X.env) (hline : (apos.endLine == cpos.line) = true) :
    PI X (.Tuple elts n1 tpos) (.Call (.Attribute e "items" apos) [] [] cpos) (iItemsT td) := .mk fun pins z τ H R inv want => by
  refine wpAny_Call_method hbase rfl hline F.plainAttrs_dict F.slot_dict_items F.type_dict_items (thn (he.run pins z τ H _ inv want) fun u z1 got => ?_)
  obtain ⟨x, H1, inv1, rel, d, od, kvs, ex, locked, told⟩ := got
  subst ex
  cases (show (u : Value) = .ref d from rel)
  obtain ⟨es, ep, data⟩ : ∃ es ep, od.data = .dict es ep := let ⟨_, _, _, es, ep, q, _⟩ := inv1.frzT locked; ⟨es, ep, q⟩
  have L := lockT inv1 locked data
  refine ⟨L.raw.typeIs, fun b eb => ?_, ?_⟩
  · cases eb
    obtain ⟨ob, ho, hc, _⟩ := L.raw
    exact ⟨ob, ho, hc.2.1⟩
  generalize hv : ({ cls := .type "dict_items", data := .fields #[.ref d] } : Obj) = view
  have inv2 : Inv X pins τ H1 { z1 with heap := z1.heap.push view } := inv1.kept (t' := z1.toks) fun _ _ q => Heap.get?_push_of_some _ q
  have raw2 : (z1.heap.push view).DictRaw d es ep := L.raw.at fun _ q => Heap.get?_push_of_some _ q
  have isV : (z1.heap.push view).get? z1.heap.objs.size = some view := Heap.get?_push_size _ (by rw [← hv]; rfl)
  have walk : wpAny (model X.prog X.w) X.A (pyIter (.ref z1.heap.objs.size)) (PIE X pins τ (.Tuple elts n1 tpos) R) X.xe { z1 with heap := z1.heap.push view } :=
    wpAny_pyIter_items_raw ⟨view, isV, by rw [← hv], by rw [← hv]⟩ raw2 (pi_one (tk := z1.toks) inv2 _ (turn_itemsTu _ data) ⟨.none, .none, Heap.get?_push_size _ rfl⟩ told)
  subst hv
  exact method_meetsIn F.slot_dict_items F.entry_dict_items rfl (PySem.evalArgs_none ⟨rfl, L.raw.typeIs, F.args_dict_items_1 _, _, meets_dict_items_raw d L.other, ⟨es, ep, L.raw⟩, walk⟩)
theorem walk_items {K : PySem.W.Frag} {B : Hp} {d : Addr} {od : Obj} {kvs : List (Key × V)} {ds : List D} (h : B d = some (.frz od (.dK kvs))) (r : Reps K B (kvs.map (·.2)) ds) : WalkR K B (Iti d od kvs) (pairD (kvs.map (·.1)) ds) := by
  intro i B' H' s t
  have h' := t _ _ (s _ _ h)
  have hl : (kvs.map (·.1)).length = ds.length := by rw [List.length_map, ← r.length, List.length_map]
  refine ⟨fun hle => ⟨h', by rw [pairD_len hl, List.length_map] at hle; exact hle⟩, fun x hx => ?_⟩
  obtain ⟨k, dd, e1, e2, e3⟩ := pairD_at hx
  subst e3
  rw [List.getElem?_map] at e1
  cases kk : kvs[i]? with
  | none => rw [kk] at e1; cases e1
  | some kv =>
    rw [kk] at e1; cases e1
    refine ⟨⟨h', (List.getElem?_eq_some_iff.mp kk).1⟩, fun x H'' ⟨T, k', v', f1, f2, f3, f4⟩ => ?_⟩
    rw [kk] at f1; cases f1
    subst f2 f4
    have bT := t.free f3
    obtain ⟨v, g1, g2⟩ := r.get e2
    rw [List.getElem?_map, kk] at g1
    cases g1
    have sB : Same B' (upd B' T (.tup [kV k', v'])) := fun a u z => by rw [upd_ne (ne_of_none z bT)]; exact z
    refine ⟨upd B' T (.tup [kV k', v']), sB, fun a u z => ?_, fun a u z => by rw [upd_ne (ne_of_none z f3)]; exact z, fun a ⟨u, z, _⟩ n => ?_, .tup upd_same (.cons (rep_kV _) (.one ((g2.mono s).mono sB)))⟩
    · by_cases q : a = T
      · subst q; rw [upd_same] at z ⊢; exact z
      · rw [upd_ne q] at z ⊢; exact t _ _ z
    · rw [upd_ne (ne_of_none z f3)]; exact n
theorem walk_itemsTu {K : PySem.W.Frag} {B : Hp} {d : Addr} {od : Obj} {kvs : List (List Key × V)} {ds : List D} (h : B d = some (.frz od (.dT kvs))) (r : Reps K B (kvs.map (·.2)) ds) : WalkR K B (Itit d od kvs) (pairT (kvs.map (·.1)) ds) := by
  intro i B' H' s t
  have h' := t _ _ (s _ _ h)
  have hl : (kvs.map (·.1)).length = ds.length := by rw [List.length_map, ← r.length, List.length_map]
  refine ⟨fun hle => ⟨h', by rw [pairT_len hl, List.length_map] at hle; exact hle⟩, fun x hx => ?_⟩
  obtain ⟨k, dd, e1, e2, e3⟩ := pairT_at hx
  subst e3
  rw [List.getElem?_map] at e1
  cases kk : kvs[i]? with
  | none => rw [kk] at e1; cases e1
  | some kv =>
    rw [kk] at e1; cases e1
    refine ⟨⟨h', (List.getElem?_eq_some_iff.mp kk).1⟩, fun x H'' ⟨T, k', v', q, f1, f2, f3, f5, f4⟩ => ?_⟩
    rw [kk] at f1; cases f1
    subst f2 f4
    obtain ⟨v, g1, g2⟩ := r.get e2
    rw [List.getElem?_map, kk] at g1
    cases g1
    -- the key's tuple first, then the pair
    have qT : q ≠ T := fun z => by rw [z, f3] at f5; cases f5
    generalize hB1 : upd B' q (.tup (k'.map kV)) = B1
    have s1 : Same B' B1 := fun a u z => by
      rw [← hB1]
      by_cases w : a = q
      · subst w; rw [upd_same, ← t _ _ z, f5]
      · rw [upd_ne w]; exact z
    have t1 : Same B1 H' := fun a u z => by
      rw [← hB1] at z
      by_cases w : a = q
      · subst w; rw [upd_same] at z; cases z; exact f5
      · rw [upd_ne w] at z; exact t _ _ z
    have atq : B1 q = some (.tup (k'.map kV)) := by rw [← hB1]; exact upd_same
    have bT := t1.free f3
    have s2 : Same B1 (upd B1 T (.tup [.ref q, v'])) := fun a u z => by rw [upd_ne (ne_of_none z bT)]; exact z
    refine ⟨upd B1 T (.tup [.ref q, v']), s1.trans s2, fun a u z => ?_, fun a u z => by rw [upd_ne (ne_of_none z f3)]; exact z, fun a ⟨u, z, nt⟩ n => ?_, .tup upd_same (.cons (.tup (s2 _ _ atq) (reps_kVs _)) (.one ((g2.mono s).mono (s1.trans s2))))⟩
    · by_cases w : a = T
      · subst w; rw [upd_same] at z ⊢; exact z
      · rw [upd_ne w] at z ⊢; exact t1 _ _ z
    · rw [upd_ne (ne_of_none z f3), ← hB1, upd_ne fun w => nt _ (by rw [w, f5] at z; exact (Option.some.inj z).symm)]
      exact n
def itsD : D → Option (List D)
  | .dic ks ds => if ks.length = ds.length then some (pairD ks ds) else none
  | .dit ks ds => if ks.length = ds.length then some (pairT ks ds) else none
  | _ => none
def itemsM (f : M D) : M (List D) := bd f fun x => opt (itsD x)
/-- the reading is chosen by the keys -/
theorem ti_items {elts : List Expr} {kk : Nat} {tpos : Pos} (hf : TrF X π e f) (hbase : attributeBase e "items" X.env (eval e X.env) = eval e X.env := by kernel_rfl) (hline : (apos.endLine == cpos.line) = true := by kernel_rfl) :
    TrI X π (.Tuple elts kk tpos) (.Call (.Attribute e "items" apos) [] [] cpos) (itemsM f) := .mk fun W tk σ Γ B H R st sat => by
  by_cases hd : ∃ (ks : List Key) (ds : List D) (Γ1 : List Sl), f Γ = some (.ok (.dic ks ds) Γ1)
  · refine wI_of (pi_items pe_w hbase hline) ?_
    refine hf.run W tk σ Γ B H _ st (sat.bd up_walkR fun x Γ1 v B1 H1 e1 nx rv sat1 => ?_)
    obtain ⟨ks, ds, Γ2, e2⟩ := hd
    rw [e1] at e2; cases e2
    simp only [itsD] at sat1
    cases rv with
    | @dic p kvs _ _ hs he rs =>
      split at sat1
      · obtain ⟨od, hs⟩ := hs
        subst he
        exact ⟨p, od, kvs, rfl, nx.st.sub _ _ hs, sat1 _ B1 H1 (Nx.refl nx.st) (walk_items hs rs)⟩
      · exact (show False from sat1).elim
  · refine wI_of (pi_itemsTu pe_w hbase hline) ?_
    refine hf.run W tk σ Γ B H _ st (sat.bd up_walkR fun x Γ1 v B1 H1 e1 nx rv sat1 => ?_)
    cases rv <;> simp only [itsD] at sat1 <;> first | exact (show False from sat1).elim | skip
    · exact absurd ⟨_, _, _, e1⟩ hd
    · rename_i p kvs ks ds hs he rs
      split at sat1
      · obtain ⟨od, hs⟩ := hs
        subst he
        exact ⟨p, od, kvs, rfl, nx.st.sub _ _ hs, sat1 _ B1 H1 (Nx.refl nx.st) (walk_itemsTu hs rs)⟩
      · exact (show False from sat1).elim
end
end L2.TT

set_option Elab.async false
set_option linter.all false
set_option maxRecDepth 100000
set_option maxHeartbeats 1000001
namespace L2.TT
open PySem PyProof.Rows PySem.Spec

/-! ### one sorted list -/
section
variable {α : Type} {le : α → α → Bool}
theorem perm_uniq (anti : ∀ a b, le a b = true → le b a = true → a = b) : ∀ {l m : List α}, l.Pairwise (fun a b => le a b = true) → m.Pairwise (fun a b => le a b = true) → l.Perm m → l = m
  | [], m, _, _, p => (List.Perm.eq_nil p.symm).symm
  | a :: l, [], _, _, p => absurd p.length_eq (by simp)
  | a :: l, b :: m, h1, h2, p => by
    obtain ⟨h1a, h1b⟩ := List.pairwise_cons.mp h1
    obtain ⟨h2a, h2b⟩ := List.pairwise_cons.mp h2
    have e : a = b := by
      rcases List.mem_cons.mp (p.mem_iff.mp (List.mem_cons_self (a := a) (l := l))) with e | ha
      · exact e
      · rcases List.mem_cons.mp (p.mem_iff.mpr (List.mem_cons_self (a := b) (l := m))) with e | hb
        · exact e.symm
        · exact anti a b (h1a b hb) (h2a a ha)
    subst e
    rw [perm_uniq anti h1b h2b (List.Perm.cons_inv p)]
theorem sort_is (tr : ∀ a b c, le a b = true → le b c = true → le a c = true) (tot : ∀ a b, (le a b || le b a) = true) (anti : ∀ a b, le a b = true → le b a = true → a = b) {l m : List α} (h : m.Pairwise (fun a b => le a b = true)) (p : m.Perm l) : m = l.mergeSort le :=
  perm_uniq anti h (List.pairwise_mergeSort tr tot l) (p.trans (List.mergeSort_perm l le).symm)
end
def leI (i j : Int) : Bool := decide (i ≤ j)
theorem sortI_is {l m : List Int} (h : m.Pairwise (· ≤ ·)) (p : m.Perm l) : m = l.mergeSort leI :=
  sort_is (fun a b c h1 h2 => by simp only [leI, decide_eq_true_eq] at *; omega) (fun a b => by simp only [leI, Bool.or_eq_true, decide_eq_true_eq]; omega) (fun a b h1 h2 => by simp only [leI, decide_eq_true_eq] at *; omega) (h.imp fun q => by simp only [leI, decide_eq_true_eq]; exact q) p
def leP (p q : Int × Int) : Bool := !SrtO.lexB q p
theorem leP_iff {p q : Int × Int} : leP p q = true ↔ ¬ (q.1 < p.1 ∨ (q.1 = p.1 ∧ q.2 < p.2)) := by
  unfold leP
  rw [Bool.not_eq_true', SrtO.lexB_no]
theorem sortP_is {l m : List (Int × Int)} (h : m.Pairwise (fun x y => leP x y = true)) (p : m.Perm l) : m = l.mergeSort leP :=
  sort_is (fun a b c h1 h2 => by rw [leP_iff] at *; omega) (fun a b => by
    cases e : leP a b with
    | true => rfl
    | false =>
      rw [Bool.false_or, leP_iff]
      have : ¬ leP a b = true := by rw [e]; exact Bool.false_ne_true
      rw [leP_iff] at this
      omega) (fun a b h1 h2 => by rw [leP_iff] at *; exact Prod.ext (by omega) (by omega)) h p
theorem ltC_asym : ∀ {a b : List Nat}, ltCps a b = true → ltCps b a = false
  | [], _ :: _, _ => rfl
  | a :: r, b :: t, h => by
    simp only [ltCps, Bool.or_eq_true, decide_eq_true_eq, Bool.and_eq_true, beq_iff_eq] at h
    simp only [ltCps, Bool.or_eq_false_iff, decide_eq_false_iff_not, Bool.and_eq_false_iff, beq_eq_false_iff_ne]
    rcases h with h | ⟨rfl, h⟩
    · exact ⟨by omega, .inl (by omega)⟩
    · exact ⟨by omega, .inr (ltC_asym h)⟩
theorem ltC_anti : ∀ {a b : List Nat}, ltCps a b = false → ltCps b a = false → a = b
  | [], [], _, _ => rfl
  | [], _ :: _, h, _ => by simp [ltCps] at h
  | _ :: _, [], _, h => by simp [ltCps] at h
  | a :: r, b :: t, h1, h2 => by
    simp only [ltCps, Bool.or_eq_false_iff, decide_eq_false_iff_not, Bool.and_eq_false_iff, beq_eq_false_iff_ne] at h1 h2
    have e : a = b := by omega
    subst e
    rw [ltC_anti (h1.2.resolve_left fun z => z rfl) (h2.2.resolve_left fun z => z rfl)]
/-- not less goes on -/
theorem ltC_tr : ∀ {a b c : List Nat}, ltCps b a = false → ltCps c b = false → ltCps c a = false
  | [], _, [], _, _ => rfl
  | [], [], _ :: _, _, h => by simp [ltCps] at h ⊢
  | [], _ :: _, _ :: _, h, _ => rfl
  | _ :: _, [], _, h, _ => by simp [ltCps] at h
  | _ :: _, _ :: _, [], _, h => by simp [ltCps] at h
  | a :: r, b :: t, c :: u, h1, h2 => by
    simp only [ltCps, Bool.or_eq_false_iff, decide_eq_false_iff_not, Bool.and_eq_false_iff, beq_eq_false_iff_ne] at h1 h2 ⊢
    refine ⟨by omega, ?_⟩
    by_cases e : c = a
    · right
      have e2 : b = a := by omega
      subst e2
      subst e
      exact ltC_tr (h1.2.resolve_left fun z => z rfl) (h2.2.resolve_left fun z => z rfl)
    · exact .inl e
def leS (x y : Str) : Bool := !ltCps y.cps.toList x.cps.toList
theorem leS_iff {x y : Str} : leS x y = true ↔ ltCps y.cps.toList x.cps.toList = false := by unfold leS; rw [Bool.not_eq_true']
theorem leS_tr : ∀ a b c, leS a b = true → leS b c = true → leS a c = true := fun a b c h1 h2 => by
  rw [leS_iff] at *; exact ltC_tr h1 h2
theorem rising_pw : ∀ {p : Str} {l : List Str}, risingS p l = true → (p :: l).Pairwise (fun a b => leS a b = true)
  | p, [], _ => List.pairwise_cons.mpr ⟨fun _ h => (by cases h), .nil⟩
  | p, x :: r, h => by
    have h : (!ltCps x.cps.toList p.cps.toList && risingS x r) = true := h
    rw [Bool.and_eq_true] at h
    have ih := rising_pw h.2
    refine List.pairwise_cons.mpr ⟨fun y hy => ?_, ih⟩
    rcases (List.mem_cons.mp hy) with rfl | hy
    · exact h.1
    · exact leS_tr p x y h.1 ((List.pairwise_cons.mp ih).1 y hy)
theorem sortS_is {l m : List Str} (h : sortedS m = true) (p : m.Perm l) : m = l.mergeSort leS := by
  refine sort_is leS_tr (fun a b => ?_) (fun a b h1 h2 => ?_) ?_ p
  · cases e : leS a b with
    | true => rfl
    | false =>
      rw [Bool.false_or, leS_iff]
      unfold leS at e
      exact ltC_asym (by simpa using e)
  · rw [leS_iff] at h1 h2
    have e := ltC_anti h1 h2
    obtain ⟨⟨x⟩⟩ := a
    obtain ⟨⟨y⟩⟩ := b
    simp only at e
    rw [e]
  · cases m with
    | nil => exact .nil
    | cons x r => exact rising_pw h

def asInts : List D → Option (List Int)
  | [] => some []
  | .int i :: r => (asInts r).map (i :: ·)
  | _ :: _ => none
def asStrs : List D → Option (List Str)
  | [] => some []
  | .str i :: r => (asStrs r).map (i :: ·)
  | _ :: _ => none
def asPrs : List D → Option (List (Int × Int))
  | [] => some []
  | .tup [.int i, .int j] :: r => (asPrs r).map ((i, j) :: ·)
  | _ :: _ => none
def mkPr (p : Int × Int) : D := .tup [.int p.1, .int p.2]
def sortD (ds : List D) : Option (List D) := match asInts ds with
  | some ns => some ((ns.mergeSort leI).map .int)
  | none => match asStrs ds with
    | some ss => if ss.length < 64 then some ((ss.mergeSort leS).map .str) else none
    | none => match asPrs ds with
      | some ps => some ((ps.mergeSort leP).map mkPr)
      | none => none
section
variable {K : PySem.W.Frag} {B H : Hp}
theorem asInts_v : ∀ {vs : List V} {ds : List D} {ns : List Int}, Reps K B vs ds → asInts ds = some ns → vs = ns.map V.int
  | _, _, _, .nil, e => by cases e; rfl
  | v :: vs, d :: ds, ns, .cons h t, e => by
    cases d <;> simp only [asInts] at e <;> first | (cases e; done) | skip
    cases k : asInts ds with
    | none => rw [k] at e; cases e
    | some m => rw [k] at e; cases e; cases h; rw [asInts_v t k]; rfl
theorem asStrs_v : ∀ {vs : List V} {ds : List D} {ns : List Str}, Reps K B vs ds → asStrs ds = some ns → vs = ns.map V.str
  | _, _, _, .nil, e => by cases e; rfl
  | v :: vs, d :: ds, ns, .cons h t, e => by
    cases d <;> simp only [asStrs] at e <;> first | (cases e; done) | skip
    cases k : asStrs ds with
    | none => rw [k] at e; cases e
    | some m => rw [k] at e; cases e; cases h; rw [asStrs_v t k]; rfl
/-- the pair at a value -/
def prAt (H : Hp) (v : V) : Int × Int := match v with
  | .ref t => match H t with
    | some (.tup [.int i, .int j]) => (i, j)
    | _ => (0, 0)
  | _ => (0, 0)
theorem asPrs_v (s : Same B H) : ∀ {vs : List V} {ds : List D} {ps : List (Int × Int)}, Reps K B vs ds → asPrs ds = some ps → vs.map (prAt H) = ps ∧ ∀ x ∈ vs, ∃ t, x = V.ref t ∧ B t = some (.tup [.int (prAt H x).1, .int (prAt H x).2])
  | _, _, _, .nil, e => by cases e; exact ⟨rfl, fun x h => (by cases h)⟩
  | v :: vs, d :: ds, ps, .cons h t, e => by
    unfold asPrs at e
    split at e
    · rename_i heq; cases heq
    · rename_i i j r heq
      cases heq
      cases k : asPrs ds with
      | none => rw [k] at e; cases e
      | some m =>
        rw [k] at e; cases e
        obtain ⟨i1, i2⟩ := asPrs_v s t k
        cases h with
        | tup ht hr =>
          cases hr with
          | cons ra hr =>
            cases hr with
            | cons rb hr =>
              cases hr
              cases ra; cases rb
              rename_i a
              have e1 : prAt H (.ref a) = (i, j) := by simp only [prAt, s _ _ ht]
              refine ⟨by rw [List.map_cons, e1, i1], fun x hx => ?_⟩
              rcases (List.mem_cons.mp hx) with rfl | hx
              · exact ⟨a, rfl, by rw [e1]; exact ht⟩
              · exact i2 x hx
    · cases e
theorem reps_prs : ∀ {ys : List V}, (∀ x ∈ ys, ∃ t, x = V.ref t ∧ B t = some (.tup [.int (prAt H x).1, .int (prAt H x).2])) → Reps K B ys ((ys.map (prAt H)).map mkPr)
  | [], _ => .nil
  | y :: ys, h => by
    obtain ⟨t, e1, e2⟩ := h y List.mem_cons_self
    refine .cons ?_ (reps_prs fun x hx => h x (List.mem_cons_of_mem _ hx))
    subst e1
    exact .tup e2 (.cons (.int _) (.one (.int _)))
theorem reps_ints : ∀ (ns : List Int), Reps K B (ns.map V.int) (ns.map .int)
  | [] => .nil
  | i :: r => .cons (.int i) (reps_ints r)
theorem reps_strs : ∀ (ns : List Str), Reps K B (ns.map V.str) (ns.map .str)
  | [] => .nil
  | i :: r => .cons (.str i) (reps_strs r)
end
def sortL : D → Option D
  | .lst ds => (sortD ds).map .lst
  | _ => none
section
variable {X : Cx} {π : Pm} {a b c e : Expr} {f : M D} {pos p1 : Pos}
theorem nw_sorted : NewCall X (fun vs H Q => rSortedI X.K vs H Q ∨ rSortedS X.K vs H Q ∨ rSortedPO X.K vs H Q) sortL := fun B H x v z Q s rv e q => by
  cases x <;> simp only [sortL] at e <;> first | (cases e; done) | skip
  rename_i ds
  obtain ⟨p, xs, rfl, h, rs⟩ := rv
  unfold sortD at e
  cases k1 : asInts ds with
  | some ns =>
    rw [k1] at e; cases e
    have ev := asInts_v rs k1
    subst ev
    exact .inl ⟨p, ns, rfl, SqL.of h, fun ns' l pm pw hl => q l _ hl ⟨_, upd_same, by rw [sortI_is pw pm]; exact reps_ints _⟩⟩
  | none =>
    rw [k1] at e
    simp only at e
    cases k2 : asStrs ds with
    | some ss =>
      rw [k2] at e
      simp only at e
      split at e
      · rename_i hl
        cases e
        have ev := asStrs_v rs k2
        subst ev
        exact .inr (.inl ⟨p, ss, rfl, SqL.of h, hl, fun ys l pm so hp => q l _ hp ⟨_, upd_same, by rw [sortS_is so pm]; exact reps_strs _⟩⟩)
      · cases e
    | none =>
      rw [k2] at e
      simp only at e
      cases k3 : asPrs ds with
      | none => rw [k3] at e; cases e
      | some ps =>
        rw [k3] at e; cases e
        obtain ⟨e1, e2⟩ := asPrs_v s rs k3
        refine .inr (.inr ⟨p, xs, prAt H, rfl, SqL.of h, fun x hx => ?_, fun ys l so st hp => q l _ hp ⟨_, upd_same, ?_⟩⟩)
        · obtain ⟨t, t1, t2⟩ := e2 x hx
          exact ⟨t, t1, s _ _ t2⟩
        · have pm := st.perm
          have r := reps_prs (K := X.K) (B := B) (H := H) (ys := ys) fun x hx => e2 x (pm.mem_iff.mp hx)
          have em : ys.map (prAt H) = ps.mergeSort leP := by
            refine sortP_is (List.pairwise_map.mpr (so.imp fun q => ?_)) (by rw [← e1]; exact pm.map _)
            show (!SrtO.lexB _ _) = true
            rw [Bool.not_eq_true']; exact q
          rw [em] at r
          exact r
theorem tv_sorted (hf : TrP X π a f) (hm : X.mg "sorted" = none) (hg : Gl X "sorted" := by rfl) (hst : starEach [a] X.env = (false, eval a X.env) :: starEach [] X.env := by kernel_rfl) (hpl : (backTo pos (starEach [] X.env)).any (·.1) = false := by kernel_rfl) : TrV X π (.Call (.Name "sorted" p1) [a] [] pos) (op1n sortL f) :=
  tv_call1 hf nw_sorted (fun h => pe_callB (cr_sortedI.or (cr_sortedS.or cr_sortedPO)) hg hm (by decide +kernel) h (he := hst) (hpl := hpl)) hst
/-! ### x.join(..) -/
def joinD (x y : D) : Option D := match x, y with
  | .str a, .lst ds => match asStrs ds with
    | some ys => if (ys.map (·.length)).sum + ys.length * a.length ≤ 16777216 then some (.str (Txt.join a ys)) else none
    | none => none
  | _, _ => none
def isS : D → Bool
  | .str _ => true
  | _ => false
def joinM (f g : M D) : M D := bd f fun x => if isS x = true then bd g fun y => opt (joinD x y) else fun _ => none
theorem tr_join {apos : Pos} {g : M D} (hf : TrF X π a f) (hg : TrF X π b g) (hs : starEach [b] X.env = [(false, eval b X.env)] := by kernel_rfl) (hbase : attributeBase a "join" X.env (eval a X.env) = eval a X.env := by kernel_rfl) (hline : (apos.endLine == pos.line) = true := by kernel_rfl) :
    TrF X π (.Call (.Attribute a "join" apos) [b] [] pos) (joinM f g) := .mk fun W tk σ Γ B H Q st sat => by
  refine wE_of (pe_join pe_w pe_w hs hbase hline) ?_
  refine hf.run W tk σ Γ B H _ st (sat.bd up_repR fun x Γ1 v B1 H1 e1 nx rv sat1 => ?_)
  by_cases hx : isS x = true
  · rw [if_pos hx] at sat1
    cases x <;> simp only [isS] at hx <;> first | (cases hx; done) | skip
    cases rv
    rename_i z
    refine ⟨⟨z, rfl⟩, ?_⟩
    refine hg.run W tk σ Γ1 B1 H1 _ nx.st (sat1.bd up_repR fun y Γ2 u B2 H2 e2 nx2 ru sat2 => ?_)
    obtain ⟨w, ew, q⟩ := sat2.opt nx2.st
    cases y <;> simp only [joinD] at ew <;> first | (cases ew; done) | skip
    cases ru with
    | lst h rs =>
      split at ew
      · rename_i ys k
        split at ew
        · rename_i hl
          cases ew
          have ev := asStrs_v rs k
          subst ev
          exact ⟨z, _, ys, rfl, rfl, .inl (SqL.of (nx2.st.sub _ _ h)), hl, q _ (.str _)⟩
        · cases ew
      · cases ew
  · rw [if_neg hx] at sat1; exact sat1.false
end
end L2.TT

set_option Elab.async false
set_option linter.all false
set_option maxRecDepth 100000
set_option maxHeartbeats 1000001
namespace L2.TT
open PySem PyProof.Rows PySem.Spec
section
variable {P : Program} {w : World} {K : PySem.W.Frag} {mg : Str → Option Value} {base : Heap} {x qual : Str} {params : Arguments} {body : List Stmt} {scope : Scope} {f : Addr} {ps : List Str} {k n : Nat}
/-- nothing is promised -/
theorem def_none (F : ∃ fd, FunD K x qual params body scope [] [] f fd) (hg : mg x = some (.ref f)) (hB : ∀ fd, FunD K x qual params body scope [] [] f fd → Binds K fd ps []) : DefOk P w K mg base k x (spF K n fun _ => none) := by
  obtain ⟨fd, F⟩ := F
  refine ⟨f, fd, ps, ⟨fun vs H Q E h => ?_, fun A outer s H args us vs Q E _ _ _ _ h => ?_⟩, hg, F.kp, hB fd F⟩
  · obtain ⟨_, _, _, _, _, _, z, _⟩ := h; cases z
  · obtain ⟨_, _, _, _, _, _, z, _⟩ := h; cases z
end
end L2.TT

set_option Elab.async false
set_option linter.all false
set_option maxRecDepth 100000
set_option maxHeartbeats 1000001
namespace L2.TT
open PySem PyProof.Rows PySem.Spec

/-! ### a store that a dict comprehension makes -/
def DSt (H : Hp) (d : Addr) (y z : V) (H' : Hp) : Prop := DPut H d y z H' ∨ ∃ b k, y = .ref b ∧ H d = some (.dK []) ∧ H b = some (.tup (k.map kV)) ∧ H' = upd H d (.dT [(k, z)])
theorem dtSet {X : Cx} {pins : List (Addr × Obj)} {σ : L2.St} {H : Hp} {s : Shared} {E : Value → Shared → Prop} {a b : Addr} {kvs : List (List Key × V)} {k : List Key} {v : V} {r : Value} {Q : Unit → Shared → Prop} (hu : X.A.units < cLine) (I : Inv X pins σ H s) (ea : H a = some (.dT kvs)) (hz : kvs.length < sizeLine)
    (eb : H b = some (.tup (k.map kV))) (rv : RelV v r) (h : ∀ s', Inv X pins σ (upd H a (.dT (putK kvs k v))) s' → Q () s') : wpAny (model X.prog X.w) X.A (dictSet a (.ref b) r) Q E s := by
  obtain ⟨z, lo, xs, rel, dd⟩ := dt_of I.hok ea
  have zx : xs.length ≤ sizeLine := by rw [← Paired.length rel]; exact z
  have zl : (putK kvs k v).length ≤ sizeLine := by have := length_putK kvs k v; omega
  refine wpAny_dictSet_heap (hsz := zx) (knd := tupleKind (mixKind X.prog X.w)) hu (key_of I.hok eb) dd fun h2 dd2 same => h _ ?_
  obtain ⟨o, es, ep, ho, g2, g3, g4, _, g5⟩ := dd2
  refine d_write I (by rw [ea]; exact True.intro) same ⟨o, ho⟩ ⟨zl, lo, _, (rel.put k eb rv).keeps fun c ys ec => ?_, o, es, ep, ho, g2, g3, g4, g5⟩
  rw [upd_ne (fun w => by rw [w, ea] at ec; cases ec)]
  exact ec
theorem dictSetX {X : Cx} {pins : List (Addr × Obj)} {σ : L2.St} {H H' : Hp} {s : Shared} {E : Value → Shared → Prop} {a : Addr} {y v : V} {u r : Value} {Q : Unit → Shared → Prop} (hu : X.A.units < cLine) (I : Inv X pins σ H s) (g : DSt H a y v H') (ry : RelV y u) (rv : RelV v r) (h : ∀ s', Inv X pins σ H' s' → Q () s') :
    wpAny (model X.prog X.w) X.A (dictSet a u r) Q E s := by
  rcases g with (⟨kvs, k, e, ey, l, eH⟩ | ⟨kvs, k, b, e, ey, eb, l, eH⟩) | ⟨b, k, ey, ea, eb, eH⟩
  · subst ey eH
    exact d_dictSet I e l ry rv h
  · subst ey eH
    cases (show (u : Value) = .ref b from ry)
    exact dtSet hu I e l eb rv h
  · subst ey eH
    cases (show (u : Value) = .ref b from ry)
    have nb : b ≠ a := fun z => by rw [z, ea] at eb; cases eb
    refine dtSet (kvs := []) (k := k) hu (inv_toT I ea) upd_same (by show 0 < sizeLine; rw [sizeLine_eq]; decide) (by rw [upd_ne nb]; exact eb) rv fun s' J => h s' ?_
    have eq : upd (upd H a (.dT [])) a (.dT (putK [] k v)) = upd H a (.dT [(k, v)]) := by
      funext c
      by_cases z : c = a
      · subst z; rw [upd_same, upd_same]; rfl
      · rw [upd_ne z, upd_ne z, upd_ne z]
    rw [← eq]; exact J
/-! ### a clause of a comprehension takes its next item: drawn, stored, tested -/
abbrev tstS (cs : List Expr) (env : Env) : Sem Bool := forIn cs true fun c r => if (r = true) then do let ok ← isTrue c env (eval c env); pure (ForInStep.yield ok) else pure (ForInStep.yield r)
def Taken (P : Program) (w : World) (A : Around) (E : Value → Shared → Prop) (it : Value) (tg : Expr) (cs : List Expr) (env : Env) (stop : Shared → Prop) (good : Bool → Shared → Prop) (s : Shared) : Prop :=
  wpAny (model P w) A (pyNext it) (fun r z => match r with
    | none => stop z
    | some v => wpAny (model P w) A (letOwnedTupleGo tg it v) (fun _ z1 => wpAny (model P w) A (assign tg env v) (fun _ z2 => wpAny (model P w) A (tstS cs env) good E z2) E z1) E z) E s
section
variable {X : Cx} {pins : List (Addr × Obj)} {σ : L2.St} {H : Hp} {s : Shared} {fp : List Addr} {it : Addr} {tg : Expr} {tn : Nat → Heap → Prop} {J : It} {i : Nat}
/-- behind the item's work the iterator stands where it stood behind the draw -/
theorem turn_kept (T : Turn X.prog X.w X.K tg J fp it tn) {h : Heap} {σ' : L2.St} {H' : Hp} {z : Shared} (at_ : tn i h) (I : Inv X (pins ++ pinsAt fp h) σ' H' z) : tn i z.heap ∧ ∀ b ∈ fp, H' b = none := by
  have pin : ∀ b ∈ fp, ∀ o, h.get? b = some o → z.heap.get? b = some o ∧ H' b = none := fun b hb o e => by
    have q := I.pin (b, o) (List.mem_append_right _ (List.mem_append_right _ (mem_pinsAt hb e)))
    exact ⟨q.1, q.2.1⟩
  refine ⟨T.keep i _ _ at_ fun b hb o e => (pin b hb o e).1, fun b hb => ?_⟩
  obtain ⟨o, e, _⟩ := T.obj i _ at_ b hb
  exact (pin b hb o e).2
theorem turn_taken {g : TG} {cs : List Expr} {tt : TT} {E : Value → Shared → Prop} {stop : Shared → Prop} {good : Bool → Shared → Prop} {wk : L2.St → Prop} {K : Bool → L2.St → Hp → Prop} (calm : X.calm = true) (false_ : X.xe = fun _ _ => False) (T : Turn X.prog X.w X.K tg J fp it tn) (I : Inv X pins σ H s) (ft : ∀ b ∈ fp, FpOk X pins H b) (at_ : tn i s.heap)
    (pg : PG X tg g) (pt : PTs X cs tt)
    (h : (J.stop i H ∧ ∀ z, Inv X pins σ H z → stop z) ∨ (J.go i H ∧ (∀ x H', J.yld i H x H' → g x σ H' fun σ2 H2 => wk σ2 ∧ tt σ2 H2 fun b H3 => K b σ2 H3) ∧
      ∀ (b : Bool) (σ2 : L2.St) (h7 : Heap) (H3 : Hp) (z : Shared), wk σ2 → tn (i + 1) h7 → Inv X (pins ++ pinsAt fp h7) σ2 H3 z → K b σ2 H3 → good b z)) : Taken X.prog X.w X.A E (.ref it) tg cs X.env stop good s := by
  rcases h with ⟨ends, fin⟩ | ⟨goes, step, fin⟩
  · refine thnF (T.done X rfl rfl rfl calm i pins s σ H (fun _ _ => False) I ft at_ ends) fun r z ⟨isNone, J1⟩ => ?_
    rw [isNone]
    exact fin z J1
  · refine thnF (T.item X rfl rfl rfl calm i pins s σ H (fun _ _ => False) I ft at_ goes) fun r z ⟨u, isSome, more⟩ => ?_
    rw [isSome]
    refine thnF more fun _ z1 ⟨x, H1, I1, rel, yl, at1, none1⟩ => ?_
    have I2 := I1.pinned (fun b hb => ⟨none1 b hb, (ft b hb).2⟩) (T.obj _ _ at1)
    have a1 := pg.run _ z1 σ H1 x u _ I2 rel (step x H1 yl)
    rw [false_] at a1
    refine thnF a1 fun _ z2 ⟨σ2, H2, I3, w2, q⟩ => ?_
    have a2 := pt.run _ z2 σ2 H2 _ I3 q
    rw [false_] at a2
    exact thnF a2 fun b z3 ⟨H3, I4, k⟩ => fin b σ2 z1.heap H3 z3 w2 at1 I4 k
end
/-! ### a dict comprehension whose stores are told by DSt -/
/-- one store of it, behind the tests -/
def tPut (tk tv : TE) (D : Addr) (On : Hp → Prop) (b : Bool) (σ : L2.St) (H : Hp) : Prop :=
  if b = true then tk σ H fun y K => tv σ K fun z K1 => ∃ K2, DSt K1 D y z K2 ∧ On K2 else On H
def tDx (wi : TI) (g : TG) (tt : TT) (tk tv : TE) (vs : List Nat) : TE := fun σ H Q => wi σ H fun J H1 => ∀ D, H1 D = none → ∃ W : Nat → Nat → Hp → Prop, (∃ m, W 0 m (upd H1 D (.dK []))) ∧ ∀ i m K, W i m K →
  ((J.stop i K ∧ Q (.ref D) K) ∨ (J.go i K ∧ ∃ On : Hp → Prop, (∀ K', On K' → ∃ m', m' < m ∧ W (i + 1) m' K') ∧ ∀ x K', J.yld i K x K' → g x (wipe σ vs) K' fun σ2 K2 => (wipe σ2 vs = wipe σ vs) ∧ tt σ2 K2 fun b K3 => tPut tk tv D On b σ2 K3))
theorem pe_dx {X : Cx} {kx vx tg iter : Expr} {ifs : List Expr} {scope : Scope} {own : List (Str × Nat)} {pos : Pos} {wi : TI} {g : TG} {tt : TT} {tk tv : TE} (units : X.A.units < cLine) (calm : X.calm = true) (nd : X.N.Nodup) (walk : PI X tg iter wi) (blk : BlkOk X.N X.env.scope scope own)
    (pg : ∀ (z : Shared) (K : Hp) (C : Addr) (cl : List (Str × Addr)) (fp : List Addr), PG (X.blk z K scope (compEnvC scope cl C X.env) fp) tg g) (pt : ∀ (z : Shared) (K : Hp) (C : Addr) (cl : List (Str × Addr)) (fp : List Addr), PTs (X.blk z K scope (compEnvC scope cl C X.env) fp) ifs tt)
    (pk : ∀ (z : Shared) (K : Hp) (C : Addr) (cl : List (Str × Addr)) (fp : List Addr), PE (X.blk z K scope (compEnvC scope cl C X.env) fp) kx tk)
    (pv : ∀ (z : Shared) (K : Hp) (C : Addr) (cl : List (Str × Addr)) (fp : List Addr), PE (X.blk z K scope (compEnvC scope cl C X.env) fp) vx tv)
    (fold : ∀ x, foldedSetIterable iter X.env x = pure x) : PE X (.DictComp kx vx [⟨tg, iter, ifs, 0⟩] scope pos) (tDx wi g tt tk tv (own.map (·.2))) := .mk fun pins s σ H Q inv want => by
  rw [arm_eval_DictComp]
  have outer : ∀ y ∈ scope.names, y.2 = .free → ∃ c, X.env.cells.lookup y.1 = some c := fun y hy e => (blk.free y hy e).elim (fun q => inv.ok.has _ (.inl q)) fun q => inv.ok.has _ (.inr q)
  refine wpAny_comprehension_free (use := none) rfl fold (closure_ok outer) blk.kind (fun y hy e => by rw [blk.uniq y hy, e]) (thn (walk.run pins s σ H _ inv want) fun _ z1 first => thn first fun _ z2 got => ?_)
  obtain ⟨it, fp, tn, J, H2, isIt, inv2, T, begun, foot2, rest⟩ := got
  subst isIt
  refine wpAny_newObj_type (T := "dict") (newEnv_comp ?_)
  generalize isD : z2.heap.objs.size = D
  obtain ⟨W, ⟨m0, w0⟩, turn⟩ := rest D (inv2.hok.fresh (Nat.le_of_eq isD))
  generalize is3 : ({ z2 with heap := z2.heap.push { cls := .type "dict", data := .dict #[] } } : Shared) = z3
  have heap3 : z3.heap = z2.heap.push { cls := .type "dict", data := .dict #[] } := by rw [← is3]
  have inv3 : Inv X pins σ (upd H2 D (.dK [])) z3 := by
    have q := inv2.laid (t' := z2.toks) (o := .dK []) (h' := z3.heap) (a := D) (fun b o e => by rw [heap3]; exact Heap.get?_push_of_some _ e) (Nat.le_of_eq isD) (by rw [heap3, ← isD]; exact dk_empty z2.heap inv2.big)
    rw [← is3] at q ⊢
    exact q
  have small : ∀ b ∈ fp, b < z2.heap.objs.size := fun b hb => (T.obj _ _ begun b hb).elim fun o q => Heap.lt_size q.1
  have foot3 : ∀ b ∈ fp, FpOk X pins (upd H2 D (.dK [])) b ∧ b < z3.heap.objs.size := fun b hb => by
    refine ⟨⟨?_, (foot2 b hb).2⟩, by rw [heap3, Heap.size_push]; exact Nat.lt_succ_of_lt (small b hb)⟩
    rw [upd_ne (by rw [← isD]; exact Nat.ne_of_lt (small b hb))]
    exact (foot2 b hb).1
  have begun3 : tn 0 z3.heap := T.keep _ _ _ begun fun b _ o e => by rw [heap3]; exact Heap.get?_push_of_some _ e
  have inv4 := block_start inv3 blk nd foot3
  generalize isH : upd H2 D (.dK []) = H3 at inv3 inv4 foot3 w0
  generalize isC : cellsFrom (z3.heap.objs.size + 1) scope.names (cloFrom X.env.cells scope.names []) = cl at inv4 ⊢
  have pgA := pg z3 H3 z3.heap.objs.size cl fp
  have ptA := pt z3 H3 z3.heap.objs.size cl fp
  have pkA := pk z3 H3 z3.heap.objs.size cl fp
  have pvA := pv z3 H3 z3.heap.objs.size cl fp
  show codeAny _ _ (.compStart (.DictComp kx vx [⟨tg, iter, ifs, 0⟩] scope pos) 0 (.ref it) (.ref D) (compEnvC scope cl z3.heap.objs.size X.env)) (compPost (model X.prog X.w) X.A X.xe none (EP X pins σ Q) (.ref D) z3.heap.objs.size) { z3 with heap := pushCells (z3.heap.push { cls := .type "dict", data := .dict #[] }) scope.names }
  generalize isE : compEnvC scope cl z3.heap.objs.size X.env = ev at inv4 pgA ptA pkA pvA ⊢
  have ownE : ev.locals = z3.heap.objs.size := by rw [← isE]; rfl
  have begun4 : tn 0 (pushCells (z3.heap.push { cls := .type "dict", data := .dict #[] }) scope.names) := T.keep _ _ _ begun3 fun b _ o e => pushCells_keeps _ _ _ _ (Heap.get?_push_of_some _ e)
  generalize is4 : ({ z3 with heap := pushCells (z3.heap.push { cls := .type "dict", data := .dict #[] }) scope.names } : Shared) = z4 at inv4 ⊢
  replace begun4 : tn 0 z4.heap := by rw [← is4]; exact begun4
  have still : ∀ {τ : L2.St} {K : Hp} {z : Shared}, Inv (X.blk z3 H3 scope ev fp) [] τ K z → (∀ b ∈ fp, K b = none) → ∀ b ∈ fp, FpOk (X.blk z3 H3 scope ev fp) [] K b := fun {τ K z} iv n b hb =>
    ⟨n b hb, (iv.ok.exf b hb).1, iv.ok.exfs b hb, .inl hb, fun x c e => (iv.ok.exf b hb).2 x c e, fun p hp => (List.not_mem_nil (show p ∈ ([] : List (Addr × Obj)) from hp)).elim⟩
  have loop : codeAny (model X.prog X.w) X.A (.compLoop (.DictComp kx vx [⟨tg, iter, ifs, 0⟩] scope pos) 0 (.ref it) (.ref D) ev) (compPost (model X.prog X.w) X.A X.xe none (EP X pins σ Q) (.ref D) z3.heap.objs.size) z4 := by
    refine compLoop_anyD (fun n z => ∃ i K, Inv (X.blk z3 H3 scope ev fp) [] (wipe σ (own.map (·.2))) K z ∧ tn i z.heap ∧ (∀ b ∈ fp, K b = none) ∧ W i n K) ?_ m0 ⟨0, H3, inv4, begun4, fun b hb => (foot3 b hb).1.1, w0⟩
    rintro n z5 ⟨i, H5, inv5, at5, none5, w5⟩
    rcases turn i n H5 w5 with ⟨ends, good⟩ | ⟨goes, On, less, step⟩
    · refine turn_taken (X := X.blk z3 H3 scope ev fp) (g := g) (tt := tt) (wk := fun _ => True) (K := fun _ _ _ => True) calm rfl T inv5 (still inv5 none5) at5 pgA ptA (.inl ⟨ends, fun z6 inv6 => ?_⟩)
      have inv7 : Inv X pins σ H5 z6 := inv3.call' (ch := fp) inv6.os inv6.base inv6.hok inv6.bare fun b hb => ⟨(foot3 b hb).1.2.2.2.1, (foot3 b hb).1.2.1, (foot3 b hb).1.2.2.2.2.1, (foot3 b hb).1.2.2.2.2.2⟩
      have noC : H5 z3.heap.objs.size = none := by
        rw [← ownE]; exact inv6.free
      obtain ⟨m, names, _⟩ := inv6.loc
      replace names : z6.heap.Ns ev.locals m := names
      rw [ownE] at names
      obtain ⟨f0, f1, f2, f3, f4, f5⟩ := inv3.fpOk (Nat.le_refl _) noC
      exact ⟨m, names, fun h'' sb => ⟨.ref D, H5, inv7.turned (t' := z6.toks) (fun b o hb e => (sb.2 b hb).trans e) f0 f1 f3 f4 f5, rfl, good⟩⟩
    · refine turn_taken (X := X.blk z3 H3 scope ev fp) (g := g) (tt := tt) (wk := fun τ => wipe τ (own.map (·.2)) = wipe σ (own.map (·.2))) (K := fun b τ K => tPut tk tv D On b τ K)
        calm rfl T inv5 (still inv5 none5) at5 pgA ptA (.inr ⟨goes, step, fun b τ h7 H7 z7 same at7 inv7 q => ?_⟩)
      have back : ∀ {K : Hp} {z : Shared}, Inv (X.blk z3 H3 scope ev fp) ([] ++ pinsAt fp h7) τ K z → On K →
          ∃ m, m < n ∧ ∃ i K, Inv (X.blk z3 H3 scope ev fp) [] (wipe σ (own.map (·.2))) K z ∧ tn i z.heap ∧ (∀ b ∈ fp, K b = none) ∧ W i m K := fun {K z} iv on => by
        obtain ⟨m, lt, w'⟩ := less K on
        obtain ⟨a, b⟩ := turn_kept (X := X.blk z3 H3 scope ev fp) T at7 iv
        exact ⟨m, lt, i + 1, K, (iv.unpinned (pins := [])).weak (by rw [← same, wipe_length]) (fun j v e => by rw [← same] at e; exact (wipe_some e).1), a, b, w'⟩
      cases b with
      | false => exact back inv7 q
      | true =>
        refine thnF (pkA.run _ z7 τ H7 _ inv7 q) fun a z8 ⟨y, H8, inv8, rel8, q8⟩ => ?_
        refine thnF (pvA.run _ z8 τ H8 _ inv8 q8) fun b z9 ⟨c, H9, inv9, rel9, H10, put, on⟩ => ?_
        exact dictSetX (X := X.blk z3 H3 scope ev fp) units inv9 put rel8 rel9 fun z10 inv10 => back inv10 on
  exact codeAny_compStart_dict loop (T.self X.A 0 _ _ _ begun4 loop)

/-! ### {k: v for ..} -/
/-- acc[y] = z where acc is a dict of ours -/
theorem dst_own {K : PySem.W.Frag} {B H : Hp} {p : Addr} {d x v d' : D} {i w : V} (s : Same B H) (bp : B p = none) (ow : OwnRep K B H p d) (ri : Rep K B i x) (rw' : Rep K B w v) (e : setIxD d x v = some d') (nd : ∀ ds, d ≠ .lst ds) :
    ∃ o, DSt H p i w (upd H p o) ∧ OwnRep K B (upd H p o) p d' ∧ (∀ ds, d' ≠ .lst ds) ∧ (∀ xs, o ≠ .tup xs) := by
  cases d <;> simp only [setIxD] at e <;> first | (cases e; done) | skip
  · exact absurd rfl (nd _)
  · rename_i ks ds
    obtain ⟨kvs, hp, ek, rs⟩ := ow
    subst ek
    cases hk : toKey x with
    | none =>
      rw [hk] at e
      simp only at e
      split at e
      · rename_i hn
        cases ht : tkD x with
        | none => rw [ht] at e; cases e
        | some k =>
          rw [ht] at e; cases e
          have e0 : kvs = [] := List.map_eq_nil_iff.mp hn
          subst e0
          obtain ⟨b, rfl, hb⟩ := rep_tk ri ht
          exact ⟨_, .inr ⟨b, k, rfl, hp, s _ _ hb, rfl⟩, ⟨_, upd_same, rfl, .one rw'⟩, fun _ z => (by cases z), fun _ z => (by cases z)⟩
      · cases e
    | some k =>
      rw [hk] at e
      simp only at e
      split at e
      · rename_i hn
        cases e
        cases rep_key ri hk
        have hl : kvs.length < sizeLine := by have := hn.2; rw [List.length_map] at this; rw [sizeLine_eq]; omega
        obtain ⟨a1, a2⟩ := put_rep (k := k) rw' hn.1 rs
        exact ⟨_, .inl (.inl ⟨kvs, k, hp, rfl, hl, rfl⟩), ⟨_, upd_same, a1, a2⟩, fun _ z => (by cases z), fun _ z => (by cases z)⟩
      · cases e
  · rename_i ks ds
    obtain ⟨kvs, hp, ek, rs⟩ := ow
    subst ek
    cases hk : tkD x with
    | none => rw [hk] at e; cases e
    | some k =>
      rw [hk] at e
      simp only at e
      split at e
      · rename_i hn
        cases e
        obtain ⟨b, rfl, hb⟩ := rep_tk ri hk
        have hl : kvs.length < sizeLine := by have := hn.2; rw [List.length_map] at this; rw [sizeLine_eq]; omega
        obtain ⟨a1, a2⟩ := putT_rep (k := k) rw' hn.1 rs
        exact ⟨_, .inl (.inr ⟨kvs, k, b, hp, rfl, s _ _ hb, hl, rfl⟩), ⟨_, upd_same, a1, a2⟩, fun _ z => (by cases z), fun _ z => (by cases z)⟩
      · cases e
def dcL (vs : List Nat) (gm : D → M Unit) (mt : M Bool) (mk mv : M D) : List D → D → M D
  | [], acc => ret acc
  | d :: r, acc => fun Γ => match gm d Γ with
    | some (.ok () Γ1) => match mt Γ1 with
      | some (.ok true Γ2) => match mk Γ2 with
        | some (.ok y Γ3) => match mv Γ3 with
          | some (.ok z Γ4) => match setIxD acc y z with
            | some acc' => dcL vs gm mt mk mv r acc' (dropS vs Γ4)
            | none => none
          | _ => none
        | _ => none
      | some (.ok false Γ2) => dcL vs gm mt mk mv r acc (dropS vs Γ2)
      | _ => none
    | _ => none
theorem dcL_er {vs gm mt mk mv} : ∀ (r : List D) (acc : D) (Γ : List Sl) (c fs Γ'), dcL vs gm mt mk mv r acc Γ ≠ some (.er c fs Γ')
  | [], acc, Γ, c, fs, Γ', h => by cases h
  | d :: r, acc, Γ, c, fs, Γ', h => by
    simp only [dcL] at h
    split at h
    · split at h
      · split at h
        · split at h
          · split at h
            · exact dcL_er _ _ _ _ _ _ h
            · cases h
          · cases h
        · cases h
      · exact dcL_er _ _ _ _ _ _ h
      · cases h
    · cases h
def dcM (vs : List Nat) (mi : M (List D)) (gm : D → M Unit) (mt : M Bool) (mk mv : M D) : M (D × Bool) := bd mi fun ds => fun Γ => match dcL vs gm mt mk mv ds (.dic [] []) (dropS vs Γ) with
  | some (.ok acc Γ') => some (.ok (acc, true) Γ')
  | _ => none
section
variable {X : Cx} {π : Pm} {kx vx tg iter : Expr} {ifs : List Expr} {scope : Scope} {own : List (Str × Nat)} {pos : Pos} {mi : M (List D)} {gm : D → M Unit} {mt : M Bool} {mk mv : M D} {v1 : List Nat}
theorem tv_dc {k : Nat} (hr : Room k X.A) (hc : X.calm = true) (hN : X.N.Nodup) (hi : TrI X π tg iter mi) (ok : BlkOk X.N X.env.scope scope own) (hv : ∀ j ∈ v1, j ∈ own.map (·.2))
    (hg : ∀ (s0 : Shared) (H0 : Hp) (C : Addr) (cl : List (Str × Addr)) (fp : List Addr), TrG (X.blk s0 H0 scope (compEnvC scope cl C X.env) fp) π tg gm v1)
    (ht : ∀ (s0 : Shared) (H0 : Hp) (C : Addr) (cl : List (Str × Addr)) (fp : List Addr), TrTs (X.blk s0 H0 scope (compEnvC scope cl C X.env) fp) π ifs mt)
    (hk : ∀ (s0 : Shared) (H0 : Hp) (C : Addr) (cl : List (Str × Addr)) (fp : List Addr), TrF (X.blk s0 H0 scope (compEnvC scope cl C X.env) fp) π kx mk)
    (he : ∀ (s0 : Shared) (H0 : Hp) (C : Addr) (cl : List (Str × Addr)) (fp : List Addr), TrF (X.blk s0 H0 scope (compEnvC scope cl C X.env) fp) π vx mv) (hs : ∀ x, foldedSetIterable iter X.env x = pure x := by intro _; kernel_rfl) :
    TrV X π (.DictComp kx vx [⟨tg, iter, ifs, 0⟩] scope pos) (dcM (own.map (·.2)) mi gm mt mk mv) := .mk fun W tk σ Γ B H Q st sat => by
  refine wE_of (pe_dx (by have := hr.units; omega) hc hN pi_w ok (g := gB X scope tg) (tt := tB2 X scope ifs) (tk := eB X scope kx) (tv := eB X scope vx) (fun s0 H0 C cl fp => ⟨fun pins s σ H v u Q I r h => h s0 H0 C cl fp pins s u I r⟩) (fun s0 H0 C cl fp => ⟨fun pins s σ H Q I h => h s0 H0 C cl fp pins s I⟩)
    (fun s0 H0 C cl fp => ⟨fun pins s σ H Q I h => h s0 H0 C cl fp pins s I⟩) (fun s0 H0 C cl fp => ⟨fun pins s σ H Q I h => h s0 H0 C cl fp pins s I⟩) hs) ?_
  generalize hvs : own.map (·.2) = vs at sat hv ⊢
  refine hi.run W tk σ Γ B H _ st (sat.bd0 fun ds Γ1 J B1 H1 e1 nx rv sat1 => ?_)
  intro Dl hD
  have hD0 : H Dl = none := none_of nx.nd hD
  cases kc : dcL vs gm mt mk mv ds (.dic [] []) (dropS vs Γ1) with
  | none => simp only [kc] at sat1; exact sat1.elim
  | some rr =>
    cases rr with
    | er c fs Γ' => exact absurd kc (dcL_er _ _ _ _ _ _)
    | ok out Γo =>
      simp only [kc] at sat1
      have nx1 : Nx X.K π σ Γ B H (wipe σ vs) (dropS vs Γ1) B1 H1 := nx.less (by rw [dropS_len, wipe_length]; exact nx.st.len) fun j x e nn => by
        rcases dropS_get _ _ _ _ e with z | ⟨z1, z2⟩
        · exact absurd z nn
        · exact ⟨z2, wipe_out z1⟩
      have dr1 : ∀ (j : Nat) (x : Sl), (dropS vs Γ1)[j]? = some x → x ≠ .no → j ∉ vs := fun j x e nn => by
        rcases dropS_get _ _ _ _ e with z | ⟨z1, _⟩
        · exact absurd z nn
        · exact z1
      have nxD := nx1.trans (Nx.new (o := .dK []) nx1.st hD)
      refine ⟨fun i m Hi => m = ds.length - i ∧ i ≤ ds.length ∧ ∃ (Γi : List Sl) (Bi : Hp) (ac : D), Nx X.K π σ Γ B H (wipe σ vs) Γi Bi Hi ∧ Same B1 Bi ∧ (∀ (j : Nat) (x : Sl), Γi[j]? = some x → x ≠ .no → j ∉ vs) ∧ Bi Dl = none ∧ ¬ OwnAt Γi (wipe σ vs) Dl ∧ OwnRep X.K Bi Hi Dl ac ∧ (∀ ds, ac ≠ .lst ds) ∧
        dcL vs gm mt mk mv (ds.drop i) ac Γi = some (.ok out Γo), ⟨_, rfl, Nat.zero_le _, dropS vs Γ1, B1, .dic [] [], nxD, Same.refl _, dr1, nx1.st.sub.free hD, not_own_new nx1.st hD, ⟨[], upd_same, rfl, .nil⟩, fun _ z => (by cases z), kc⟩, ?_⟩
      rintro i m Hi ⟨rfl, hle, Γi, Bi, ac, nxi, sBi, dri, bL, nL, ow, nd, ki⟩
      obtain ⟨w1, w2⟩ := rv i Bi Hi sBi nxi.st.sub
      by_cases hlt : i < ds.length
      · right
        have hd : ds[i]? = some ds[i] := List.getElem?_eq_getElem hlt
        obtain ⟨g1, g2⟩ := w2 _ hd
        rw [List.drop_eq_getElem_cons hlt] at ki
        simp only [dcL] at ki
        refine ⟨g1, fun H' => ∃ (Γ' : List Sl) (B' : Hp) (ac' : D), Nx X.K π σ Γ B H (wipe σ vs) Γ' B' H' ∧ Same B1 B' ∧ (∀ (j : Nat) (x : Sl), Γ'[j]? = some x → x ≠ .no → j ∉ vs) ∧ B' Dl = none ∧ ¬ OwnAt Γ' (wipe σ vs) Dl ∧ OwnRep X.K B' H' Dl ac' ∧ (∀ ds, ac' ≠ .lst ds) ∧ dcL vs gm mt mk mv (ds.drop (i + 1)) ac' Γ' = some (.ok out Γo),
          fun H' ⟨Γ', B', acc', n⟩ => ⟨ds.length - (i + 1), by omega, rfl, hlt, Γ', B', acc', n⟩, fun x H' y => ?_⟩
        obtain ⟨B2, s1, s2, s3, s4, rx⟩ := g2 x H' y
        have ni : Nx X.K π (wipe σ vs) Γi Bi Hi (wipe σ vs) Γi B2 H' := (Nx.refl nxi.st).grow s1 s3 s2 s4
        cases k1 : gm ds[i] Γi with
        | none => rw [k1] at ki; cases ki
        | some r =>
          rw [k1] at ki
          cases r with
          | er c fs Γ2 => cases ki
          | ok u Γ2 =>
            cases u
            intro s0 H0 C cl fp
            refine (hg s0 H0 C cl fp).run _ _ _ _ _ _ Γ2 B2 H' x _ _ ni rx k1 fun σ2 n2 hl2 hk2 => ?_
            have agree : ∀ (j : Nat), j ∉ vs → (wipe σ vs)[j]? = σ2[j]? := fun j hj => (hk2 j fun z => hj (hv j z)).symm
            have fin : ∀ {Γ3 : List Sl} {B3 H3 : Hp}, Nx X.K π (wipe σ vs) Γi Bi Hi σ2 Γ3 B3 H3 → Nx X.K π (wipe σ vs) Γi Bi Hi (wipe σ vs) (dropS vs Γ3) B3 H3 := fun {Γ3 B3 H3} n3 => n3.less (by rw [dropS_len, n3.st.len, hl2]) fun j x e nn => by
              rcases dropS_get _ _ _ _ e with z | ⟨z1, z2⟩
              · exact absurd z nn
              · exact ⟨z2, agree j z1⟩
            have drd : ∀ {Γ3 : List Sl} (j : Nat) (x : Sl), (dropS vs Γ3)[j]? = some x → x ≠ .no → j ∉ vs := fun {Γ3} j x e nn => by
              rcases dropS_get _ _ _ _ e with z | ⟨z1, _⟩
              · exact absurd z nn
              · exact z1
            refine ⟨?_, ?_⟩
            · rw [wipe_eq (hl2.trans (wipe_length σ vs)) (vs := vs) fun j hj => (agree j hj).symm.trans (wipe_out hj)]
            · intro s0 H0 C cl fp
              refine (ht s0 H0 C cl fp).run (fun _ _ _ _ => False) takes0 σ2 Γ2 B2 H' _ n2.st ?_
              simp only at ki
              cases k2 : mt Γ2 with
              | none => rw [k2] at ki; cases ki
              | some r =>
                rw [k2] at ki
                cases r with
                | er c fs Γ3 => cases ki
                | ok bb Γ3 =>
                  intro b B3 H3 n3 rb
                  cases rb
                  have n23 := n2.trans n3
                  cases bb with
                  | false =>
                    simp only at ki
                    refine iteF ?_
                    obtain ⟨o, ho, nt⟩ := nt_of_own ow
                    obtain ⟨a1, a2, a3⟩ := lst_kept (fin n23) ho bL nL nt
                    exact ⟨_, B3, ac, nxi.trans (fin n23), sBi.trans n23.bb, drd, a2, a3, (ow.eqH (by rw [a1, ho])).monoB n23.bb, nd, ki⟩
                  | true =>
                    simp only at ki
                    refine iteT ?_
                    intro s0 H0 C cl fp
                    refine (hk s0 H0 C cl fp).run (fun _ _ _ _ => False) takes0 σ2 Γ3 B3 H3 _ n3.st ?_
                    cases k3 : mk Γ3 with
                    | none => rw [k3] at ki; cases ki
                    | some r =>
                      rw [k3] at ki
                      cases r with
                      | er c fs Γ4 => cases ki
                      | ok yd Γ4 =>
                        simp only at ki
                        intro yv B4 H4 n4 ry
                        intro s0 H0 C cl fp
                        refine (he s0 H0 C cl fp).run (fun _ _ _ _ => False) takes0 σ2 Γ4 B4 H4 _ n4.st ?_
                        cases k5 : mv Γ4 with
                        | none => rw [k5] at ki; cases ki
                        | some r =>
                          rw [k5] at ki
                          cases r with
                          | er c fs Γ5 => cases ki
                          | ok zd Γ5 =>
                            simp only at ki
                            cases k6 : setIxD ac yd zd with
                            | none => rw [k6] at ki; cases ki
                            | some ac' =>
                              rw [k6] at ki
                              intro zv B5 H5 n5 rz
                              have n25 := fin ((n23.trans n4).trans n5)
                              obtain ⟨o, ho, nt⟩ := nt_of_own ow
                              obtain ⟨a1, a2, a3⟩ := lst_kept n25 ho bL nL nt
                              have ow5 := (ow.eqH (H' := H5) (by rw [a1, ho])).monoB n25.bb
                              obtain ⟨o', c1, c2, c3, c4⟩ := dst_own n5.st.sub a2 ow5 (ry.mono n5.bb) rz k6 nd
                              exact ⟨_, c1, dropS vs Γ5, B5, ac', (nxi.trans n25).setl hD0 a1 a2 a3, sBi.trans n25.bb, drd, a2, a3, c2, c3, ki⟩
      · left
        refine ⟨w1 (by omega), ?_⟩
        rw [List.drop_eq_nil_of_le (by omega)] at ki
        cases ki
        have nf : Nx X.K π σ Γ B H σ Γo Bi Hi := nxi.less (by rw [nxi.st.len, wipe_length]) fun j x e nn => ⟨e, (wipe_out (dri j x e nn)).symm⟩
        refine sat1 _ Bi Hi nf ⟨Dl, rfl, hD0, bL, ow, fun ⟨j, d, hj, ej⟩ => nL ⟨j, d, hj, ?_⟩⟩
        rw [wipe_out]
        · exact ej
        · rcases hj with hj | hj
          · exact dri j _ hj (by intro z; cases z)
          · exact dri j _ hj (by intro z; cases z)
end
end L2.TT

set_option Elab.async false
set_option linter.all false
set_option maxRecDepth 100000
set_option maxHeartbeats 1000001
namespace L2.TT
open PySem PyProof.Rows PySem.Spec

/-! ### a new instance of a class; what it raises is wished for at the slots -/
def tMk (C : Addr) (sp : Sp) (E : L2.St → XK) (t : TA) : TE := fun σ H Q => t σ H fun vs H1 => ∀ x dx, H1 x = none → H1 dx = none → dx ≠ x → sp (.ref x :: vs) (upd (upd H1 dx (.own x)) x (.ins C dx [])) (fun v H2 => v = .non ∧ Q (.ref x) H2) (E σ)
section
variable {X : Cx} {CX : CXT} {k : Nat} {f C : Addr} {fd : FuncData} {ps : List Str} {sp : Sp} {E : L2.St → XK} {x : Str} {p pos : Pos} {e : Expr} {es : List Expr} {t : TA}
theorem mk_runs {pins : List (Addr × Obj)} {σ : L2.St} {H : Hp} {s : Shared} {Q : VK} {us : List Value} {vs : List V} (mk : Mk X.K C f) (Fn : FnOk X.prog X.w X.K X.mg X.base CX k f fd ps sp) (room : Room (k + 1) X.A) (bind : Binds X.K fd ps []) (out : PassesAt CX X σ (E σ))
    (inv : Inv X pins σ H s) (rel : Vals vs us)
    (want : ∀ x dx, H x = none → H dx = none → dx ≠ x → sp (.ref x :: vs) (upd (upd H dx (.own x)) x (.ins C dx [])) (fun v H2 => v = .non ∧ Q (.ref x) H2) (E σ)) : wpAny (model X.prog X.w) X.A (call (.ref C) us) (EP X pins σ Q) X.xe s := by
  have at_ := want (s.heap.objs.size + 1) s.heap.objs.size (inv.hok.fresh (Nat.le_succ _)) (inv.hok.fresh (Nat.le_refl _)) (Nat.ne_of_lt (Nat.lt_succ_self _))
  have made := Inv.made (C := C) inv
  have rel' : Vals (V.ref (s.heap.objs.size + 1) :: vs) (Value.ref (s.heap.objs.size + 1) :: us) := .cons rfl rel
  have many : (Value.ref (s.heap.objs.size + 1) :: us).length = ps.length := by rw [← rel'.length]; exact Fn.len _ _ _ _ at_
  have bound := bind _ (Value.ref (s.heap.objs.size + 1) :: us) made.kIn (by rw [List.append_nil]; exact many)
  rw [List.append_nil] at bound
  have body := Fn.run _ X.stack _ _ ⟨Value.ref (s.heap.objs.size + 1) :: us, []⟩ _ _ _ (E σ) (room.make C us []) (made.env0.make C us []) bound rel' at_
  refine wpAny_call (make_map (f := f) inv.kIn mk.makes mk.init (beq_iff_eq.mp mk.fn) (codeAny_mono body fun res s' told => ?_))
  cases res with
  | error ev => exact out pins _ _ ev s' made told
  | ok way =>
    cases way with
    | ret u =>
      obtain ⟨v, H', after, rv, isNone, q⟩ := made.after told
      subst isNone
      exact ⟨rv, V.ref (s.heap.objs.size + 1), H', after, rfl, q⟩
    | next => exact told.elim
    | brk => exact told.elim
    | cont => exact told.elim
theorem pe_mk (mk : Mk X.K C f) (Fn : FnOk X.prog X.w X.K X.mg X.base CX k f fd ps sp) (room : Room (k + 1) X.A) (glob : Gl X x) (is : X.mg x = some (.ref C)) (bind : Binds X.K fd ps []) (out : ∀ σ, PassesAt CX X σ (E σ)) (args : PA X (e :: es) t)
    (hdb : (x == ("__debug__" : Str)) = false := by decide) (he : starEach (e :: es) X.env = (false, eval e X.env) :: starEach es X.env := by kernel_rfl) (hpl : (backTo pos (starEach es X.env)).any (·.1) = false := by kernel_rfl) : PE X (.Call (.Name x p) (e :: es) [] pos) (tMk C sp E t) := .mk fun pins s σ H Q inv want => by
  refine wpAny_Call_Name_kw (ld_glob inv glob is ?_ hdb)
  refine PySem.W.callWith_K (h₀ := X.base) inv.ok.mod.kin mk.kp ?_ he hpl
  exact thn (args.run pos pins s σ H _ inv want) fun us s1 ⟨vs, H1, inv1, rel, q⟩ => ⟨inv1.kIn, mk_runs mk Fn room bind (out σ) inv1 rel q⟩
end
/-- the class x: made by an __init__ that keeps sp -/
def ClsOk (P : Program) (w : World) (K : PySem.W.Frag) (mg : Str → Option Value) (base : Heap) (k : Nat) (x : Str) (sp : Sp) : Prop :=
  ∃ f fd ps, FnOk P w K mg base (L2.CX P w) k f fd ps sp ∧ mg x = some (.ref (He.ga K x)) ∧ Mk K (He.ga K x) f ∧ Binds K fd ps []
section
variable {X : Cx} {π : Pm} {a b c e : Expr} {es : List Expr} {f g h : M D} {fs : M (List D)} {pos p p1 p2 apos : Pos} {x y name : Str} {k n : Nat}
def makeD (x : Str) (n : Nat) (F : D → List D → Option (D × Out)) (ds : List D) : M (D × Bool) := if ds.length = n then match F (.obj x [] []) ds with
  | some (d', .v .non false) => ret (d', true)
  | some (_, .e c fs) => fun Γ => some (.er c fs Γ)
  | _ => fun _ => none else fun _ => none
def makeM (x : Str) (n : Nat) (F : D → List D → Option (D × Out)) (fs : M (List D)) : M (D × Bool) := bd fs (makeD x n F)
theorem tv_make {F : D → List D → Option (D × Out)} (G : ClsOk X.prog X.w X.K X.mg X.base k x (spP X.K n F)) (hr : Room (k + 1) X.A) (ha : TrA X π (e :: es) fs) (hg : Gl X x := by rfl)
    (hdb : (x == ("__debug__" : Str)) = false := by decide) (he : starEach (e :: es) X.env = (false, eval e X.env) :: starEach es X.env := by kernel_rfl) (hpl : (backTo pos (starEach es X.env)).any (·.1) = false := by kernel_rfl) :
    TrV X π (.Call (.Name x p) (e :: es) [] pos) (makeM x n F fs) := .mk fun W tk σ Γ B H Q st sat => by
  obtain ⟨f, fd, ps, Fn, hm, mk, hb⟩ := G
  refine wE_of (pe_mk (E := WE W) mk Fn hr hg hm hb (fun σ => passAt tk σ) pa_w hdb he hpl) ?_
  refine ha.run W tk σ Γ B H _ st (sat.bd up_valR fun ds Γ1 vs B1 H1 e1 nx rv sat1 => ?_)
  intro q dx hq hdx hne
  unfold makeD at sat1
  by_cases hl : ds.length = n
  · rw [if_pos hl] at sat1
    have n1 := Nx.new (o := .own q) nx.st hdx
    have hq1 : (upd H1 dx (.own q)) q = none := by rw [upd_ne (Ne.symm hne)]; exact hq
    have n2 := n1.trans (Nx.new (o := .ins (He.ga X.K x) dx []) n1.st hq1)
    have bq : B1 q = none := nx.st.sub.free hq
    have no : ¬ OwnAt Γ1 σ q := not_own_new nx.st hq
    have aft : ∀ {d' : D} {B' H' : Hp}, AftP X.K q d' B1 (upd (upd H1 dx (.own q)) q (.ins (He.ga X.K x) dx [])) B' H' → Nx X.K π σ Γ1 B1 H1 σ Γ1 B' H' := fun {d' B' H'} af => by
      refine (Nx.refl nx.st).grow af.bb (fun u o z => ?_) af.sub (fun u z zb => ?_)
      · have nu : u ≠ q := ne_of_none z hq
        exact af.hh u o (by rw [upd_ne nu, upd_ne (ne_of_none z hdx)]; exact z) nu
      · obtain ⟨o, z, nt⟩ := z
        exact af.fr u ⟨o, by rw [upd_ne (ne_of_none z hq), upd_ne (ne_of_none z hdx)]; exact z, nt⟩ zb
    cases hF : F (.obj x [] []) ds with
    | none => simp only [hF] at sat1; exact sat1.false
    | some r =>
      obtain ⟨d', r⟩ := r
      refine ⟨B1, q, vs, .obj x [] [], ds, d', r, n2.st.sub, rfl, bq, ⟨dx, [], upd_same, rfl, .nil⟩, rv, hl, hF, ?_⟩
      cases r with
      | v rd o =>
        intro v B' H' af nr
        simp only [hF] at sat1
        cases rd with
        | non =>
          cases o with
          | false =>
            cases nr
            refine ⟨rfl, sat1 _ B' H' (aft af) ⟨q, rfl, hq, af.fr q ⟨_, upd_same, fun _ z => nomatch z⟩ bq, af.ow, fun ⟨i, d, z1, z2⟩ => no ⟨i, d, z1, z2⟩⟩⟩
          | true => exact sat1.false
        | _ => exact sat1.false
      | e c fs =>
        intro dd B' H' af er hd
        simp only [hF] at sat1
        refine sat1 dd B' H' (aft af) er ?_
        intro y ey
        have hd := hd y ey
        by_cases z : y = q
        · subst z; exact hq
        · rw [upd_ne z] at hd
          by_cases z2 : y = dx
          · subst z2; exact hdx
          · rw [upd_ne z2] at hd; exact hd
  · rw [if_neg hl] at sat1; exact sat1.false

/-! ### fields -/
def alook : List Str → List D → Str → Option D
  | k :: ks, d :: ds, j => if k = j then some d else alook ks ds j
  | _, _, _ => none
theorem alook_val {K : PySem.W.Frag} {B : Hp} {j : Str} : ∀ {fs : List (Str × V)} {ds : List D} {d : D}, Reps K B (fs.map (·.2)) ds → alook (fs.map (·.1)) ds j = some d → ∃ v, fs.lookup j = some v ∧ Rep K B v d
  | [], _, d, _, e => by simp [alook] at e
  | p :: fs, d0 :: ds, d, .cons h t, e => by
    simp only [List.map_cons, alook] at e
    by_cases c : p.1 = j
    · rw [if_pos c] at e
      cases e
      exact ⟨p.2, by rw [List.lookup_cons, show (j == p.1) = true from beq_iff_eq.mpr c.symm], h⟩
    · rw [if_neg c] at e
      obtain ⟨v, h1, h2⟩ := alook_val t e
      exact ⟨v, by rw [List.lookup_cons, show (j == p.1) = false from beq_eq_false_iff_ne.mpr (fun z => c z.symm)]; exact h1, h2⟩
def fldD (x f : Str) : D → Option D
  | .obj c ns ds => if c = x then alook ns ds f else none
  | _ => none
theorem tr_fld (x : Str) (hC : Cls X.K (He.ga X.K x)) (hn : NoAttr X.K (He.ga X.K x) name) (hf : TrP X π a f) (hb : attributeBase a name X.env (eval a X.env) = eval a X.env := by kernel_rfl) : TrF X π (.Attribute a name pos) (op1 (fldD x name) f) :=
  tr_rd1 (r := fun x H1 Q => ∃ q C dx fs v, x = .ref q ∧ H1 q = some (.ins C dx fs) ∧ Cls X.K C ∧ NoAttr X.K C name ∧ fs.lookup name = some v ∧ Q v H1) hf (fun B H d v z Q s rv e q => by
    cases d <;> simp only [fldD] at e <;> first | (cases e; done) | skip
    rename_i c ns ds
    split at e
    · rename_i hc
      subst hc
      obtain ⟨p, dx, fs, rfl, h, e2, rs⟩ := rv
      subst e2
      obtain ⟨w, h1, h2⟩ := alook_val rs e
      exact ⟨p, _, dx, fs, w, rfl, h, hC, hn, h1, q _ h2⟩
    · cases e) fun h => pe_fld h hb
def putA : List Str → List D → Str → D → List Str × List D
  | k :: ks, d :: ds, j, v => if k = j then (k :: ks, v :: ds) else (k :: (putA ks ds j v).1, d :: (putA ks ds j v).2)
  | _, _, j, v => ([j], [v])
theorem putA_rep {K : PySem.W.Frag} {B : Hp} {j : Str} {w : V} {d : D} (rw' : Rep K B w d) : ∀ {fs : List (Str × V)} {ds : List D}, Reps K B (fs.map (·.2)) ds → (putF j w fs).map (·.1) = (putA (fs.map (·.1)) ds j d).1 ∧ Reps K B ((putF j w fs).map (·.2)) (putA (fs.map (·.1)) ds j d).2
  | [], _, .nil => ⟨rfl, .one rw'⟩
  | p :: fs, d0 :: ds, .cons h t => by
    obtain ⟨g, x⟩ := p
    simp only [List.map_cons, putA, putF]
    by_cases c : g = j
    · rw [if_pos c, if_pos c]
      exact ⟨rfl, .cons rw' t⟩
    · rw [if_neg c, if_neg c]
      obtain ⟨i1, i2⟩ := putA_rep rw' t
      exact ⟨congrArg (g :: ·) i1, .cons h i2⟩
def setFD (x f : Str) (v : D) : D → Option D
  | .obj c ns ds => if c = x ∧ ns.length < 1000 then some (.obj c (putA ns ds f v).1 (putA ns ds f v).2) else none
  | _ => none
def setFM (x f : Str) (i : Nat) (m : M D) : M Fl := bd m fun v => fun Γ => match ownD Γ i with
  | none => none
  | some d => match setFD x f v d with
    | none => none
    | some d' => some (.ok .nx (reS Γ i d'))
theorem ts_fld (x : Str) (i : Nat) (hC : Cls X.K (He.ga X.K x)) (hn : NoAttr X.K (He.ga X.K x) name) (hf : TrF X π e f) (hN : X.N[i]? = some y := by kernel_rfl) (hv : Vis X.env.scope y := by first | exact Or.inl rfl | exact Or.inr (Or.inl rfl) | exact Or.inr (Or.inr rfl)) (hd : (y == ("__debug__" : Str)) = false := by decide) (hcd : (y == ("__classdict__" : Str)) = false := by decide)
    (hs : swapsWith e (some (.Attribute (.Name y p1) name p2)) pos.line X.env = pure false := by kernel_rfl) : TrS X π (.Assign [.Attribute (.Name y p1) name p2] e pos) (setFM x name i f) := .mk fun W tk σ Γ B H Dn st sat => by
  refine wS_of (ps_fld (pe_var hN hv hd hcd) pe_w hs) ?_
  refine hf.run W tk σ Γ B H _ st (sat.bd fun v Γ1 w B1 H1 e1 nx rv sat1 => ?_)
  cases ho : ownD Γ1 i with
  | none => simp only [ho] at sat1; exact sat1.false
  | some d =>
    simp only [ho] at sat1
    cases hd' : setFD x name v d with
    | none => simp only [hd'] at sat1; exact sat1.false
    | some d' =>
      simp only [hd'] at sat1
      obtain ⟨p, hp, bp, ow⟩ := nx.st.ow i d (ownD_ok ho)
      cases d <;> simp only [setFD] at hd' <;> first | (cases hd'; done) | skip
      rename_i c ns ds
      split at hd'
      · rename_i hc
        obtain ⟨hc, hl⟩ := hc
        subst hc
        cases hd'
        obtain ⟨dx, fs, ha, e2, rs⟩ := ow
        subst e2
        obtain ⟨a1, a2⟩ := putA_rep (j := name) rv rs
        rw [List.length_map] at hl
        refine ⟨.ref p, hp, p, _, dx, fs, rfl, ha, hC, hn, hl, ?_⟩
        exact sat1 σ B1 _ (nx.trans (Nx.poke nx.st (ownD_ok ho) hp (aft_upd nx.st.sub bp (by rw [ha]; exact fun z => nomatch z) ⟨dx, _, upd_same, a1, a2⟩)))
      · cases hd'
end
end L2.TT

set_option Elab.async false
set_option linter.all false
set_option maxRecDepth 100000
set_option maxHeartbeats 1000001
namespace L2.TT
open PySem PyProof.Rows PySem.Spec

/-! ### raise C(e), C's own __init__ keeps its one argument in a field -/
def spX (C : Addr) (f : Str) : Sp := fun vs H Q _ => ∃ (a : Addr) (v : V), vs = [.ref a, v] ∧ H a = some (exo a C none) ∧ ∀ dx, H dx = none → dx ≠ a → Q .non (upd (upd H dx (exd dx [(f, v)])) a (exo a C (some dx)))
/-- the exception class x with the one field f -/
def ExcOk (P : Program) (w : World) (K : PySem.W.Frag) (mg : Str → Option Value) (base : Heap) (k : Nat) (x f : Str) : Prop :=
  ∃ fI fd ps, OexC K (He.ga K x) ∧ PySem.W.findIn K (.ref (He.ga K x)) "__init__" = some (some (.ref fI)) ∧ PySem.W.typeIn K (.ref fI) = some (.type "function") ∧ FnOk P w K mg base (L2.CX P w) k fI fd ps (spX (He.ga K x) f) ∧ mg x = some (.ref (He.ga K x)) ∧ Binds K fd ps []
section
variable {P : Program} {w : World} {K : PySem.W.Frag} {mg : Str → Option Value} {base : Heap} {x qual : Str} {params : Arguments} {body : List Stmt} {scope : Scope} {fI C : Addr} {fd : FuncData} {ps : List Str} {fld self part : Str} {p1 p2 p3 pos : Pos}
theorem init_ok (F : FunD K x qual params body scope [] [] fI fd) (S : FnScope [self, part] [self, part] scope) (T : OexC K C) (no : PySem.W.findIn K (.ref C) fld = some none) (eb : body = [.Assign [.Attribute (.Name self p1) fld p2] (.Name part p3) pos])
    (hself : Vis scope self := by first | exact Or.inl rfl | exact Or.inr (Or.inl rfl) | exact Or.inr (Or.inr rfl)) (hpart : Vis scope part := by first | exact Or.inl rfl | exact Or.inr (Or.inl rfl) | exact Or.inr (Or.inr rfl))
    (d1 : (self == ("__debug__" : Str)) = false := by decide) (d2 : (self == ("__classdict__" : Str)) = false := by decide) (d3 : (part == ("__debug__" : Str)) = false := by decide) (d4 : (part == ("__classdict__" : Str)) = false := by decide) :
    FnOk P w K mg base (L2.CX P w) 1 fI fd [self, part] (spX C fld) := by
  subst eb
  refine F.ok S (fun vs H Q E ⟨a, v, e, _⟩ => by rw [e]; rfl) fun cdv A outer s H vs Q E hr ⟨a, v, ev, ea, q⟩ => ⟨_, pss_one (ps_ost (pe_var (i := 0) rfl hself d1 d2) (pe_var (i := 1) rfl hpart d3 d4)), ?_⟩
  subst ev
  refine ⟨v, rfl, .ref a, rfl, a, C, rfl, T, no, .inl ⟨ea, fun dx hdx hne => ?_⟩⟩
  exact q dx hdx hne
end
section
variable {X : Cx} {π : Pm} {e : Expr} {g : M D} {pos p p2 : Pos} {x f : Str} {k : Nat}
def raiseM (x f : Str) (g : M D) : M Fl := bd g fun d => fun Γ => some (.er x [(f, d)] Γ)
theorem ts_raise (G : ExcOk X.prog X.w X.K X.mg X.base k x f) (hc : X.calm = true) (hr : Room (k + 1) X.A) (hg : TrF X π e g) (hG : Gl X x := by rfl) (hdb : (x == ("__debug__" : Str)) = false := by decide) (he : starEach [e] X.env = (false, eval e X.env) :: starEach [] X.env := by kernel_rfl) (hpl : (backTo pos (starEach [] X.env)).any (·.1) = false := by kernel_rfl) :
    TrS X π (.Raise (some (.Call (.Name x p) [e] [] pos)) none p2) (raiseM x f g) := .mk fun W tk σ Γ B H Dn st sat => by
  obtain ⟨fI, fd, ps, T, iC, tI, Fn, hm, hb⟩ := G
  refine wS_of (ps_raise hc tk (pmk_oex (CX := L2.CX X.prog X.w) T iC tI Fn hr hb .nil (fun pins σ H s e s' I c => by
    obtain ⟨_, _, _, _, _, _, _, _, _, _, _, _, z⟩ := c
    exact z.elim) hG hm (pa_cons pe_w pa_nil he) hdb he hpl)) ?_
  refine hg.run W tk σ Γ B H _ st (sat.bd fun d Γ1 v B1 H1 e1 nx rv sat1 => ?_)
  refine ⟨by simp, fun a ha => ?_⟩
  refine ⟨a, v, rfl, upd_same, fun dx hdx hne => ⟨rfl, dx, [(f, v)], upd_same, ?_, ?_, ?_⟩⟩
  · rw [upd_ne hne, upd_same]
  · rw [upd_ne hne] at hdx; exact hdx
  · rw [upd_ne hne] at hdx
    have eH : upd (del (upd (upd (upd H1 a (exo a (He.ga X.K x) none)) dx (exd dx [(f, v)])) a (exo a (He.ga X.K x) (some dx))) a) dx (.xd [(f, v)]) = upd H1 dx (.xd [(f, v)]) := by
      funext b
      by_cases e : b = dx
      · subst e; rw [upd_same, upd_same]
      · rw [upd_ne e, upd_ne e]
        by_cases e2 : b = a
        · subst e2; rw [del_same, ha]
        · rw [del_ne e2, upd_ne e2, upd_ne e, upd_ne e2]
    rw [eH]
    have nl := Nx.laid (o := .xd [(f, v)]) nx.st hdx
    refine sat1 (some dx) σ _ _ (nx.trans nl) ⟨[(f, v)], upd_same, rfl, .one (rv.mono nl.bb)⟩ (fun y ey => by cases ey; exact none_of nx.nd hdx)
/-! ### raise C(), C a plain subclass -/
def raise0M (x : Str) : M Fl := fun Γ => some (.er x [] Γ)
end
/-- the exception class x without anything of its own -/
def Exc0 (K : PySem.W.Frag) (mg : Str → Option Value) (x : Str) : Prop :=
  PySem.W.excIn K (He.ga K x) [.type "ValueError", .type "Exception", .type "BaseException", .type "object"] "ValueError.__new__" = true ∧ PySem.W.keepIn K (.ref (He.ga K x)) = true ∧ PySem.W.subIn K (.ref (He.ga K x)) (.type "BaseException") = some true ∧
    PySem.W.typeIn K (.ref (He.ga K x)) = some (.type "type") ∧ mg x = some (.ref (He.ga K x))
section
variable {X : Cx} {π : Pm} {pos p p2 : Pos} {x : Str}
theorem pmk_own0 {C : Addr} {bmB : List Value} {B newId initId : String} (F : ExcBaseFacts B newId initId bmB) (q : PySem.W.excIn X.K C bmB newId = true) (gC : X.mg x = some (.ref C)) (kC : PySem.W.keepIn X.K (.ref C) = true) (r : Raises X (.ref C)) (hg : Gl X x)
    (hdb : (x == ("__debug__" : Str)) = false := by decide) : PMk X (.Call (.Name x p) [] [] pos) (fun _ H Q => Q (.ref C) none H) := by
  intro pins s σ H Q I h
  refine wpAny_Call_Name_kw ((ld_glob I hg gC ?_ hdb))
  refine PySem.W.callWith_K0 I.kIn kC ?_
  show wpAny _ _ (call (.ref C) []) _ _ _
  obtain ⟨bm, N, nm, qn, bs, hdct, sn, sub, ab, col, dd, k0, k1, k2, k3, k5, mN, hC, hN, hni, T⟩ := exc_obj I.kIn q
  refine wpAny_call_exc_subT F T hC hN hni (fun h' e hm => ?_) (Nat.zero_le _)
  exact mk_of I hm r h (I.hok.gone hm.new)
theorem ts_raise0 (G : Exc0 X.K X.mg x) (hc : X.calm = true) (hG : Gl X x := by rfl) (hdb : (x == ("__debug__" : Str)) = false := by decide) : TrS X π (.Raise (some (.Call (.Name x p) [] [] pos)) none p2) (raise0M x) := .mk fun W tk σ Γ B H Dn st sat => by
  obtain ⟨q, kC, s1, t1, gC⟩ := G
  refine wS_of (ps_raise hc tk (pmk_own0 PySem.F.excBase_ValueError q gC kC (raises_own s1 t1) hG hdb)) ?_
  exact sat none σ B H (Nx.refl st) ⟨[], rfl, rfl, .nil⟩ (fun y ey => by cases ey)
end
end L2.TT

set_option Elab.async false
set_option linter.all false
set_option maxRecDepth 100000
set_option maxHeartbeats 1000001
namespace L2.TT
open PySem PyProof.Rows PySem.Spec

/-! ### try with several clauses, each with a name or without -/
structure Cl where
  c : Value
  nm : Option Nat
  ts : Addr → Value → Option Addr → TS
def clEnds : Option Nat → Ends → Ends
  | none, D => D
  | some i, D => { nx := fun σ H => D.nx (σ.set i none) H, rt := D.rt, bk := fun σ H => D.bk (σ.set i none) H, ct := fun σ H => D.ct (σ.set i none) H }
def clFrom : Option Nat → Addr → L2.St → L2.St
  | none, _, σ => σ
  | some i, a, σ => σ.set i (some (.ref a))
def wCl (K : PySem.W.Frag) (Wout : WX) (D : Ends) : List Cl → WX
  | [] => Wout
  | q :: r => fun cls d σ H => ∃ b, PySem.W.exmOne K cls q.c = some b ∧ (b = true → ∀ a, H a = none → q.ts a cls d (clEnds q.nm D) (clFrom q.nm a σ) H) ∧ (b = false → wCl K Wout D r cls d σ H)
inductive ClH (X : Cx) : List ExceptHandler → List Cl → Prop
  | nil : ClH X [] []
  | bare {x : Str} {c : Value} {ts : Addr → Value → Option Addr → TS} {first : Stmt} {rest : List Stmt} {np hp : Pos} {hs : List ExceptHandler} {l : List Cl} (is : Names X x c)
      (suite : ∀ (a : Addr) (oe : Obj) (cls : Value) (d : Option Addr) (pn : List (Addr × Obj)), Zc cls d oe → (∃ vs, oe.data = .fields vs) → PSs (X.suite a ((a, oe) :: pn)) (first :: rest) (ts a cls d)) (more : ClH X hs l) :
      ClH X (.ExceptHandler (some (.Name x np)) none (first :: rest) hp :: hs) (⟨c, none, ts⟩ :: l)
  | named {x n : Str} {i : Nat} {c : Value} {ts : Addr → Value → Option Addr → TS} {first : Stmt} {rest : List Stmt} {np hp : Pos} {hs : List ExceptHandler} {l : List Cl} (is : Names X x c) (at_ : X.N[i]? = some n) (loc : X.env.kindOf n = some .local)
      (suite : ∀ (a : Addr) (oe : Obj) (cls : Value) (d : Option Addr) (pn : List (Addr × Obj)), Zc cls d oe → (∃ vs, oe.data = .fields vs) → PSs (X.suite a ((a, oe) :: pn)) (first :: rest) (ts a cls d)) (more : ClH X hs l) :
      ClH X (.ExceptHandler (some (.Name x np)) (some n) (first :: rest) hp :: hs) (⟨c, some i, ts⟩ :: l)
section
variable {X : Cx} {body : List Stmt} {h0 : ExceptHandler} {hs : List ExceptHandler} {l : List Cl} {pos : Pos} {tb : WX → TS} {Wout : WX}
theorem ps_tryC (stk : X.stack = X.env :: X.outer) (frm : X.env.frame = some X.env.locals) (nd : X.N.Nodup) (tk : Takes X Wout)
    (hb : ∀ (W : WX) (pn : List (Addr × Obj)) (xe : Value → Shared → Prop), Takes (X.tr pn xe) W → PassesOwn (model X.prog X.w) X.A X.env xe → PSs (X.tr pn xe) body (tb W)) (cl : ClH X (h0 :: hs) l) :
    PS X (.Try body (h0 :: hs) [] [] pos) (fun D σ H => tb (wCl X.K Wout D l) D σ H) := .mk fun pins s σ H D inv want => by
  have ok := inv.ok
  have frames : X.A.frames = some (X.env :: X.outer) := by rw [ok.frames, stk]
  have caught : Takes (X.tr (X.pn ++ pins) (fun e z => wpAny (model X.prog X.w) X.A (noteFrame e X.env) (fun _ z2 => wpAny (model X.prog X.w) X.A (setFlight e none) (fun _ z3 =>
    wpAny (model X.prog X.w) X.A (handleBy e X.env (h0 :: hs)) (SP X pins D) X.xe z3) X.xe z2) X.xe z)) (wCl X.K Wout D l) := fun u far air => by
    obtain ⟨a, G, low, pins', τ, J, cls, d, rfl, inv', kept, up, sky, new, sameOs, bare, wish⟩ := air
    have invJ : Inv X pins τ J low := inv'.ofTry ok
    have sky' : Sky G (X.env :: X.outer) a (Zc cls d) X.env.locals far.heap := by rw [← stk]; exact sky
    show wpAny (model X.prog X.w) X.A (noteFrame (Value.ref a) X.env) _ _ _
    refine Sky.land Zc.steady frames frm sky' fun hl air1 up1 => ?_
    have inv1 : Inv X pins τ J { far with heap := hl } := invJ.landed kept air1.1 (up.trans up1) sameOs bare
    obtain ⟨oe, vs, isAt, zc, data⟩ := air1.there
    have noFrame : a ∉ frs (X.env :: X.outer) := fun mem => by
      obtain ⟨_, o', e', notFields⟩ := air1.2.2.1.mem mem
      rw [isAt] at e'
      cases e'
      exact notFields _ data
    have notHere : a ≠ X.env.locals := fun z => noFrame (List.mem_filterMap.mpr ⟨X.env, List.mem_cons_self, by rw [frm, z]⟩)
    have notAny : a ∉ X.fs := fun mem => by
      obtain ⟨env', mem', q⟩ := List.mem_filterMap.mp mem
      exact noFrame (List.mem_filterMap.mpr ⟨env', List.mem_cons_of_mem _ mem', q⟩)
    have invS := inv1.suite isAt data new notHere notAny
    have looked : ∀ {x : Str} {c : Value} {np : Pos}, Names X x c → ∀ {Q E : Value → Shared → Prop}, Q c { far with heap := hl } → wpAny (model X.prog X.w) (X.A.mark (some (.ref a))) (eval (.Name x np) X.env) Q E { far with heap := hl } := fun {x c np} is {Q E} q => by
      obtain ⟨glob, plain, own | ⟨no, boot, notName⟩⟩ := is
      · exact ld_glob (X := X.suite a ((a, oe) :: (X.pn ++ pins))) invS glob own q plain
      · exact ld_blt (X := X.suite a ((a, oe) :: (X.pn ++ pins))) invS glob no boot q notName plain
    have typed : PySem.W.Looks (model X.prog X.w) hl (typeOf (.ref a)) cls := fun A Q E z keep q => wpAny_typeOf_ref (keep _ _ isAt) (by rw [zc.1]; exact q)
    have each : ∀ {hs' : List ExceptHandler} {l' : List Cl}, ClH X hs' l' → wCl X.K Wout D l' cls d τ J → wpAny (model X.prog X.w) X.A (handleBy (.ref a) X.env hs') (SP X pins D) X.xe { far with heap := hl } := fun {hs' l'} ch => by
      induction ch with
      | nil =>
        intro wish
        refine wpAny_handleBy_nil ?_
        obtain ⟨_, _, _, oe', vs', tb', otb, tvs, at1, _, fields, one, _⟩ := id air1
        unfold PySem.passOn
        refine wpAny_bind (wpAny_field at1 fields one ?_)
        rw [if_neg (show ¬ ((Value.ref tb' == Value.none) = true) from by simp)]
        have on : wpAny (model X.prog X.w) X.A (setFlight (.ref a) X.env.frame) (fun _ z => wpAny (model X.prog X.w) X.A (throw (.ref a) : Sem Flow) (SP X pins D) X.xe z) X.xe { far with heap := hl } := by
          rw [frm]
          exact HandSPX.setFlight_upZ air1 fun h4 held up4 => wpAny_throw (tk _ _ ⟨a, G, low, pins, τ, J, cls, d, rfl, invJ, kept, (up.trans up1).trans up4, .inr (.inr (by rw [stk]; exact held)), new, sameOs, bare, wish⟩)
        first
          | exact wpAny_bind (wpAny_pure (wpAny_bind on))
          | exact wpAny_bind on
      | @bare x c ts first rest np hp hs2 l2 is suite more ih =>
        rintro ⟨b, match_, yes, no⟩
        refine wpAny_handleBy_cons (codeAny_handlers_test (looked is ?_)) (by intro q; cases q)
        refine (PySem.W.exm_one (M := model X.prog X.w) inv1.kIn typed match_).here ?_
        cases b with
        | false => exact ih (no rfl)
        | true =>
          refine codeAny_handlers_suite (HandSPX.lands_againZ air1 fun h4 air4 up4 => ?_)
          have inv4 : Inv X pins τ J { far with heap := h4 } := invJ.landed kept air4.1 ((up.trans up1).trans up4) sameOs bare
          obtain ⟨oe4, vs4, at4, zc4, data4⟩ := air4.there
          have invS4 := inv4.suite at4 data4 new notHere notAny
          refine wpAny_mono ((suite a oe4 cls d (X.pn ++ pins) zc4 ⟨_, data4⟩).run [] _ _ J _ invS4 (yes rfl a new)) (fun f z6 told => ?_) (fun _ _ z => False.elim z)
          cases f with
          | ret u => obtain ⟨v6, τ6, J6, inv6, r6, q6⟩ := told; exact ⟨_, _, _, inv6.unsuite ok, r6, q6⟩
          | next => obtain ⟨τ6, J6, inv6, q6⟩ := told; exact ⟨_, _, inv6.unsuite ok, q6⟩
          | brk => obtain ⟨τ6, J6, inv6, q6⟩ := told; exact ⟨_, _, inv6.unsuite ok, q6⟩
          | cont => obtain ⟨τ6, J6, inv6, q6⟩ := told; exact ⟨_, _, inv6.unsuite ok, q6⟩
      | @named x n i c ts first rest np hp hs2 l2 is at_ loc suite more ih =>
        rintro ⟨b, match_, yes, no⟩
        refine wpAny_handleBy_cons (codeAny_handlers_test (looked is ?_)) (by intro q; cases q)
        refine (PySem.W.exm_one (M := model X.prog X.w) inv1.kIn typed match_).here ?_
        cases b with
        | false => exact ih (no rfl)
        | true =>
          refine codeAny_handlers_suite_as (HandSPX.lands_againZ air1 fun h4 air4 up4 => ?_)
          have inv4 : Inv X pins τ J { far with heap := h4 } := invJ.landed kept air4.1 ((up.trans up1).trans up4) sameOs bare
          obtain ⟨oe4, vs4, at4, zc4, data4⟩ := air4.there
          have invS4 := inv4.suite at4 data4 new notHere notAny
          refine store_ok (X := X.suite a ((a, oe4) :: (X.pn ++ pins))) (v := .ref a) invS4 nd at_ (show Loc X.env.scope n from .inl loc) rfl (fun z5 invS5 => ?_) (.inr loc)
          refine wpAny_mono ((suite a oe4 cls d (X.pn ++ pins) zc4 ⟨_, data4⟩).run [] z5 _ J _ invS5 (yes rfl a new)) (fun f z6 told => ?_) (fun _ _ z => False.elim z)
          have gone : ∀ {τ6 : L2.St} {J6 : Hp} {Q : Shared → Prop}, Inv (X.suite a ((a, oe4) :: (X.pn ++ pins))) [] τ6 J6 z6 → (∀ z7, Inv X pins (τ6.set i none) J6 z7 → Q z7) →
              wpAny (model X.prog X.w) X.A (do bindName X.env n .none; unbindBehindTheSuite X.env n hp) (fun _ z7 => Q z7) X.xe z6 := fun {τ6 J6 Q} inv6 q => gone_ok (inv6.unsuite ok) nd at_ loc q
          cases f with
          | ret u => obtain ⟨v6, τ6, J6, inv6, r6, q6⟩ := told; exact gone inv6 fun z7 inv7 => ⟨_, _, _, inv7, r6, q6⟩
          | next => obtain ⟨τ6, J6, inv6, q6⟩ := told; exact gone inv6 fun z7 inv7 => ⟨_, _, inv7, q6⟩
          | brk => obtain ⟨τ6, J6, inv6, q6⟩ := told; exact gone inv6 fun z7 inv7 => ⟨_, _, inv7, q6⟩
          | cont => obtain ⟨τ6, J6, inv6, q6⟩ := told; exact gone inv6 fun z7 inv7 => ⟨_, _, inv7, q6⟩
    exact each cl wish
  have within := (hb (wCl X.K Wout D l) (X.pn ++ pins) (fun e z => wpAny (model X.prog X.w) X.A (noteFrame e X.env) (fun _ z2 => wpAny (model X.prog X.w) X.A (setFlight e none) (fun _ z3 =>
    wpAny (model X.prog X.w) X.A (handleBy e X.env (h0 :: hs)) (SP X pins D) X.xe z3) X.xe z2) X.xe z) caught PassesOwn.looking).run [] s σ H D (inv.toTry _) want
  refine wpAny_Try_except (wpAny_mono within (fun f z told => ?_) fun e z he => he)
  cases f with
  | next => obtain ⟨τ, J, inv', q⟩ := told; exact wpAny_execs_nil ⟨τ, J, inv'.ofTry ok, q⟩
  | brk => obtain ⟨τ, J, inv', q⟩ := told; exact ⟨τ, J, inv'.ofTry ok, q⟩
  | cont => obtain ⟨τ, J, inv', q⟩ := told; exact ⟨τ, J, inv'.ofTry ok, q⟩
  | ret u => obtain ⟨v, τ, J, inv', r, q⟩ := told; exact ⟨v, τ, J, inv'.ofTry ok, r, q⟩
end
end L2.TT

set_option Elab.async false
set_option linter.all false
set_option maxRecDepth 100000
set_option maxHeartbeats 1000001
namespace L2.TT
open PySem PyProof.Rows PySem.Spec

def isEx : Sl → Bool
  | .ex _ _ => true
  | _ => false
def noEx (Γ : List Sl) : Bool := !Γ.any isEx
theorem noEx_at {Γ : List Sl} (h : noEx Γ = true) {i : Nat} {c : Str} {fs : List (Str × D)} (e : Γ[i]? = some (.ex c fs)) : False := by
  unfold noEx at h
  have q : Γ.any isEx = true := List.any_eq_true.mpr ⟨_, List.mem_of_getElem? e, rfl⟩
  rw [q] at h; cases h
/-- a clause: the class it names, the slot of its name, its suite -/
structure Clm where
  x : Str
  nm : Option Nat
  m : M Fl
def stoS (Γ : List Sl) (i : Nat) : Bool := match Γ[i]? with
  | some (.pn _) => false
  | some (.lk _ _) => false
  | some _ => true
  | none => false
def runCl (c : Str) (fs : List (Str × D)) (Γ : List Sl) (q : Clm) : Option (Rs Fl) := match q.nm with
  | none => match q.m Γ with
    | some (.ok fl Γ') => some (.ok fl Γ')
    | _ => none
  | some i => if stoS Γ i = true then match q.m (Γ.set i (.ex c fs)) with
    | some (.ok fl Γ') => if noEx (Γ'.set i .no) then some (.ok fl (Γ'.set i .no)) else none
    | _ => none else none
def pickCl (exm : Str → Str → Option Bool) (c : Str) (fs : List (Str × D)) (Γ : List Sl) : List Clm → Option (Rs Fl)
  | [] => some (.er c fs Γ)
  | q :: r => match exm c q.x with
    | none => none
    | some false => pickCl exm c fs Γ r
    | some true => runCl c fs Γ q
def tryM (exm : Str → Str → Option Bool) (mb : M Fl) (qs : List Clm) : M Fl := fun Γ => match mb Γ with
  | some (.er c fs Γ') => if noEx Γ' then pickCl exm c fs Γ' qs else none
  | r => r
section
variable {K : PySem.W.Frag} {π : Pm} {σ σ1 : L2.St} {Γ Γ1 : List Sl} {B H B1 H1 : Hp}
theorem Nx.catch (nx : Nx K π σ Γ B H σ1 Γ1 B1 H1) {i : Nat} {c : Str} {fs : List (Str × D)} {a : Addr} {dd : Option Addr} (er : ErR K B1 dd fs) (ho : noEx Γ1 = true) (hs : stoS Γ1 i = true) (ha : H1 a = none) :
    Stt K ⟨π.pa, a, dd, π.la, c⟩ B1 H1 (σ1.set i (some (.ref a))) (Γ1.set i (.ex c fs)) ∧ (∀ q, OwnAt (Γ1.set i (.ex c fs)) (σ1.set i (some (.ref a))) q → OwnAt Γ1 σ1 q) := by
  have st := nx.st
  have il : i < Γ1.length := by
    unfold stoS at hs
    cases e : Γ1[i]? with
    | none => rw [e] at hs; cases hs
    | some _ => exact (List.getElem?_eq_some_iff.mp e).1
  have isl : i < σ1.length := by rw [← st.len]; exact il
  have ne_ : ∀ {j : Nat}, j ≠ i → (σ1.set i (some (.ref a)))[j]? = σ1[j]? := fun e => List.getElem?_set_ne (Ne.symm e)
  have own : ∀ {j : Nat} {x : D}, ((Γ1.set i (.ex c fs))[j]? = some (.ow x) ∨ (Γ1.set i (.ex c fs))[j]? = some (.pn x)) → j ≠ i ∧ (Γ1[j]? = some (.ow x) ∨ Γ1[j]? = some (.pn x)) := fun {j x} h => by
    rcases h with h | h
    · rcases set_at h with ⟨_, z⟩ | ⟨n, h⟩
      · cases z
      · exact ⟨n, .inl h⟩
    · rcases set_at h with ⟨_, z⟩ | ⟨n, h⟩
      · cases z
      · exact ⟨n, .inr h⟩
  refine ⟨⟨st.sub, by rw [List.length_set, List.length_set]; exact st.len, fun j x h => ?_, fun j x h => ?_, fun j x h => ?_, fun j c' fs' h => ?_, fun j k p x y h1 h2 e1 e2 => ?_, fun j ks ds h => ?_⟩, fun q ⟨j, x, h, e⟩ => ?_⟩
  · rcases set_at h with ⟨_, z⟩ | ⟨n, h⟩
    · cases z
    · rw [ne_ n]; exact st.fz j x h
  · obtain ⟨n, h⟩ := own h
    rw [ne_ n]; exact st.ow j x h
  · obtain ⟨n, h⟩ := own (.inr h)
    rcases h with h | h
    · rcases set_at ‹_› with ⟨_, z⟩ | ⟨_, h'⟩
      · cases z
      · rw [ne_ n]; exact st.pn j x h'
    · rw [ne_ n]; exact st.pn j x h
  · rcases set_at h with ⟨rfl, z⟩ | ⟨n, h⟩
    · cases z
      exact ⟨rfl, List.getElem?_set_self isl, er⟩
    · exact (noEx_at ho h).elim
  · obtain ⟨n1, h1⟩ := own h1
    obtain ⟨n2, h2⟩ := own h2
    rw [ne_ n1] at e1
    rw [ne_ n2] at e2
    exact st.inj j k p x y h1 h2 e1 e2
  · rcases set_at h with ⟨_, z⟩ | ⟨n, h⟩
    · cases z
    · obtain ⟨od, kvs, h1, h2⟩ := st.lk j ks ds h
      exact ⟨od, kvs, (ne_ n).trans h1, h2⟩
  · obtain ⟨n, h⟩ := own h
    rw [ne_ n] at e
    exact ⟨j, x, h, e⟩
theorem own_from {i : Nat} {s : Sl} {v : Option V} {q : Addr} (hs : ∀ d, Γ[i]? ≠ some (.ow d) ∧ Γ[i]? ≠ some (.pn d)) (h : OwnAt Γ σ q) : OwnAt (Γ.set i s) (σ.set i v) q := by
  obtain ⟨j, x, h, e⟩ := h
  have n : j ≠ i := fun z => by subst z; rcases h with h | h; exact (hs x).1 h; exact (hs x).2 h
  refine ⟨j, x, ?_, ?_⟩
  · rw [List.getElem?_set_ne (Ne.symm n)]; exact h
  · rw [List.getElem?_set_ne (Ne.symm n)]; exact e
theorem Nx.released {π' : Pm} {σ2 : L2.St} {Γ2 : List Sl} {B2 H2 : Hp} {i : Nat} {v : V} {s : Sl} (nx : Nx K π σ Γ B H σ1 Γ1 B1 H1) (pa : π'.pa = π.pa) (la : π'.la = π.la) (sub : ∀ q, OwnAt (Γ1.set i s) (σ1.set i (some v)) q → OwnAt Γ1 σ1 q)
    (n2 : Nx K π' (σ1.set i (some v)) (Γ1.set i s) B1 H1 σ2 Γ2 B2 H2) (ne : noEx (Γ2.set i .no) = true) : Nx K π σ Γ B H (σ2.set i none) (Γ2.set i .no) B2 H2 ∧ (∀ q, OwnAt (Γ2.set i .no) (σ2.set i none) q → OwnAt Γ2 σ2 q) := by
  have st := n2.st
  have ne_ : ∀ {j : Nat}, j ≠ i → (σ2.set i none)[j]? = σ2[j]? := fun e => List.getElem?_set_ne (Ne.symm e)
  have own : ∀ {j : Nat} {x : D}, ((Γ2.set i .no)[j]? = some (.ow x) ∨ (Γ2.set i .no)[j]? = some (.pn x)) → j ≠ i ∧ (Γ2[j]? = some (.ow x) ∨ Γ2[j]? = some (.pn x)) := fun {j x} h => by
    rcases h with h | h
    · rcases set_at h with ⟨_, z⟩ | ⟨n, h⟩
      · cases z
      · exact ⟨n, .inl h⟩
    · rcases set_at h with ⟨_, z⟩ | ⟨n, h⟩
      · cases z
      · exact ⟨n, .inr h⟩
  have lower : ∀ q, OwnAt (Γ2.set i .no) (σ2.set i none) q → OwnAt Γ2 σ2 q := fun q ⟨j, x, h, e⟩ => by
    obtain ⟨n, h⟩ := own h
    rw [ne_ n] at e
    exact ⟨j, x, h, e⟩
  refine ⟨⟨⟨st.sub, by rw [List.length_set, List.length_set]; exact st.len, fun j x h => ?_, fun j x h => ?_, fun j x h => ?_, fun j c' fs' h => (noEx_at ne h).elim, fun j k p x y h1 h2 e1 e2 => ?_, fun j ks ds h => ?_⟩, nx.bb.trans n2.bb, fun a o e b no => ?_, fun a e => n2.nd a (nx.nd a e), fun q h => ?_⟩, lower⟩
  · rcases set_at h with ⟨_, z⟩ | ⟨n, h⟩
    · cases z
    · rw [ne_ n]; exact st.fz j x h
  · obtain ⟨n, h⟩ := own h
    rw [ne_ n]; exact st.ow j x h
  · rcases set_at h with ⟨_, z⟩ | ⟨n, h⟩
    · cases z
    · rw [ne_ n, ← pa]; exact st.pn j x h
  · obtain ⟨n1, h1⟩ := own h1
    obtain ⟨n2, h2⟩ := own h2
    rw [ne_ n1] at e1
    rw [ne_ n2] at e2
    exact st.inj j k p x y h1 h2 e1 e2
  · rcases set_at h with ⟨_, z⟩ | ⟨n, h⟩
    · cases z
    · obtain ⟨od, kvs, h1, h2⟩ := st.lk j ks ds h
      rw [← la]
      exact ⟨od, kvs, (ne_ n).trans h1, h2⟩
  · obtain ⟨e1, b1⟩ := nx.fr a o e b no
    cases k : B1 a with
    | none =>
      refine n2.fr a o e1 k fun z => ?_
      rcases nx.ev a (sub a z) with z | z
      · exact no z
      · rw [z] at e; cases e
    | some u =>
      have eu := nx.st.sub a u k
      rw [e1] at eu; cases eu
      exact ⟨n2.st.sub a o (n2.bb a o k), fun nt => by rw [b1 nt] at k; cases k⟩
  · rcases n2.ev q (lower q h) with z | z
    · exact nx.ev q (sub q z)
    · exact .inr (none_of nx.nd z)
end
section
variable {X : Cx} {π : Pm} {exm : Str → Str → Option Bool}
/-- the clauses, judged -/
inductive ClT (X : Cx) (π : Pm) : List ExceptHandler → List Clm → Prop
  | nil : ClT X π [] []
  | bare {x : Str} {m : M Fl} {first : Stmt} {rest : List Stmt} {np hp : Pos} {hs : List ExceptHandler} {l : List Clm} (gl : Gl X x) (db : (x == ("__debug__" : Str)) = false) (mg : X.mg x = some (.ref (He.ga X.K x)))
      (suite : ∀ (a : Addr) (pn : List (Addr × Obj)), TrSs (X.suite a pn) π (first :: rest) m) (more : ClT X π hs l) : ClT X π (.ExceptHandler (some (.Name x np)) none (first :: rest) hp :: hs) (⟨x, none, m⟩ :: l)
  | named {x n : Str} {i : Nat} {m : M Fl} {first : Stmt} {rest : List Stmt} {np hp : Pos} {hs : List ExceptHandler} {l : List Clm} (gl : Gl X x) (db : (x == ("__debug__" : Str)) = false) (mg : X.mg x = some (.ref (He.ga X.K x)))
      (at_ : X.N[i]? = some n) (loc : X.env.kindOf n = some .local)
      (suite : ∀ (a : Addr) (oe : Obj) (dd : Option Addr) (c : Str) (pn : List (Addr × Obj)), Zc (.ref (He.ga X.K c)) dd oe → (∃ vs, oe.data = .fields vs) → TrSs (X.suite a ((a, oe) :: pn)) ⟨π.pa, a, dd, π.la, c⟩ (first :: rest) m) (more : ClT X π hs l) :
      ClT X π (.ExceptHandler (some (.Name x np)) (some n) (first :: rest) hp :: hs) (⟨x, some i, m⟩ :: l)
theorem cl_of (hx : ∀ c x b, exm c x = some b → PySem.W.exmOne X.K (.ref (He.ga X.K c)) (.ref (He.ga X.K x)) = some b) {hs : List ExceptHandler} {qs : List Clm} (ct : ClT X π hs qs) :
    ∃ l, ClH X hs l ∧ ∀ (W : WX), Takes X W → ∀ (Dn : Ends) (σ : L2.St) (Γ : List Sl) (B H : Hp) (c : Str) (fs : List (Str × D)) (dd : Option Addr) (σ1 : L2.St) (Γ1 : List Sl) (B1 H1 : Hp), Nx X.K π σ Γ B H σ1 Γ1 B1 H1 → ErR X.K B1 dd fs → NonO H dd → noEx Γ1 = true →
      SatS X.K π W σ Γ B H (pickCl exm c fs Γ1 qs) Dn → wCl X.K W Dn l (.ref (He.ga X.K c)) dd σ1 H1 := by
  induction ct with
  | nil => exact ⟨[], .nil, fun W tk Dn σ Γ B H c fs dd σ1 Γ1 B1 H1 nx er hd _ sat => sat dd σ1 B1 H1 nx er hd⟩
  | @bare x m first rest np hp hs l gl db mg suite more ih =>
    obtain ⟨l', ch, ih⟩ := ih
    refine ⟨⟨.ref (He.ga X.K x), none, fun a cls d => fun D σ H => ∀ (oe : Obj) (pn : List (Addr × Obj)), wSs (X.suite a ((a, oe) :: pn)) (first :: rest) D σ H⟩ :: l', .bare ⟨gl, db, .inl mg⟩ (fun a oe cls d pn _ _ => ⟨fun pins s σ H D I h => h oe pn pins s I⟩) ch, ?_⟩
    intro W tk Dn σ Γ B H c fs dd σ1 Γ1 B1 H1 nx er hd ne sat
    simp only [pickCl] at sat
    cases e : exm c x with
    | none => simp only [e] at sat; exact sat.false
    | some b =>
      refine ⟨b, hx c x b e, fun hb a ha oe pn => ?_, fun hb => ?_⟩
      · subst hb
        simp only [e, runCl] at sat
        refine (suite a _).run (fun _ _ _ _ => False) takes0 σ1 Γ1 B1 H1 Dn nx.st ?_
        cases k : m Γ1 with
        | none => simp only [k] at sat; exact sat.false
        | some r =>
          simp only [k] at sat
          cases r with
          | er c' fs' Γ' => exact sat.false
          | ok fl Γ' => exact fun σ' B' H' n2 => (sat σ' B' H' (nx.trans n2)).up nx
      · subst hb
        simp only [e] at sat
        exact ih W tk Dn σ Γ B H c fs dd σ1 Γ1 B1 H1 nx er hd ne sat
  | @named x n i m first rest np hp hs l gl db mg at_ loc suite more ih =>
    obtain ⟨l', ch, ih⟩ := ih
    refine ⟨⟨.ref (He.ga X.K x), some i, fun a cls d => fun D σ H => ∀ (oe : Obj) (pn : List (Addr × Obj)), Zc cls d oe → (∃ vs, oe.data = .fields vs) → wSs (X.suite a ((a, oe) :: pn)) (first :: rest) D σ H⟩ :: l', .named ⟨gl, db, .inl mg⟩ at_ loc (fun a oe cls d pn hz hf => ⟨fun pins s σ H D I h => h oe pn hz hf pins s I⟩) ch, ?_⟩
    intro W tk Dn σ Γ B H c fs dd σ1 Γ1 B1 H1 nx er hd ne sat
    simp only [pickCl] at sat
    cases e : exm c x with
    | none => simp only [e] at sat; exact sat.false
    | some b =>
      refine ⟨b, hx c x b e, fun hb a ha oe pn hz hf => ?_, fun hb => ?_⟩
      · subst hb
        simp only [e, runCl] at sat
        split at sat
        · rename_i hsto
          obtain ⟨st2, low⟩ := nx.catch er ne hsto ha
          refine (suite a oe dd c pn hz hf).run (fun _ _ _ _ => False) takes0 _ _ B1 H1 _ st2 ?_
          cases k : m (Γ1.set i (.ex c fs)) with
          | none => simp only [k] at sat; exact sat.false
          | some r =>
            simp only [k] at sat
            cases r with
            | er c' fs' Γ' => exact sat.false
            | ok fl Γ' =>
              simp only at sat
              split at sat
              · rename_i hne
                intro σ' B' H' n2
                obtain ⟨n3, low2⟩ := nx.released (π' := ⟨π.pa, a, dd, π.la, c⟩) rfl rfl low n2 hne
                have fin := sat _ B' H' n3
                cases fl with
                | nx => exact fin
                | bk => exact fin
                | ct => exact fin
                | rt d o =>
                  intro v r
                  refine fin v ?_
                  cases o with
                  | false => exact r
                  | true =>
                    obtain ⟨q, e1, e2, e3, e4, e5⟩ := r
                    refine ⟨q, e1, ?_, e3, e4, fun z => e5 (low2 q z)⟩
                    rcases e2 with z | z
                    · exact nx.ev q (low q z)
                    · exact .inr (none_of nx.nd z)
              · exact sat.false
        · exact sat.false
      · subst hb
        simp only [e] at sat
        exact ih W tk Dn σ Γ B H c fs dd σ1 Γ1 B1 H1 nx er hd ne sat
theorem ts_try {body : List Stmt} {h0 : ExceptHandler} {hs : List ExceptHandler} {qs : List Clm} {mb : M Fl} {pos : Pos} (nd : X.N.Nodup) (hx : ∀ c x b, exm c x = some b → PySem.W.exmOne X.K (.ref (He.ga X.K c)) (.ref (He.ga X.K x)) = some b)
    (hb : ∀ (pn : List (Addr × Obj)) (xe : Value → Shared → Prop), PassesOwn (model X.prog X.w) X.A X.env xe → TrSs (X.tr pn xe) π body mb) (ct : ClT X π (h0 :: hs) qs) (stk : X.stack = X.env :: X.outer := by rfl) (frm : X.env.frame = some X.env.locals := by rfl) :
    TrS X π (.Try body (h0 :: hs) [] [] pos) (tryM exm mb qs) := .mk fun W tk σ Γ B H Dn st sat => by
  obtain ⟨l, ch, key⟩ := cl_of hx ct
  refine wS_of (ps_tryC (tb := fun W' => fun D σ H => ∀ (pn : List (Addr × Obj)) (xe : Value → Shared → Prop), Takes (X.tr pn xe) W' → PassesOwn (model X.prog X.w) X.A X.env xe → wSs (X.tr pn xe) body D σ H) stk frm nd tk (fun W' pn xe tk' po => ⟨fun pins s σ H D I h => h pn xe tk' po pins s I⟩) ch) ?_
  intro pn xe tk' po
  refine (hb pn xe po).run _ tk' σ Γ B H Dn st ?_
  unfold tryM at sat
  cases k : mb Γ with
  | none => simp only [k] at sat; exact sat.false
  | some r =>
    simp only [k] at sat
    cases r with
    | ok fl Γ1 => exact sat
    | er c fs Γ1 =>
      simp only at sat
      split at sat
      · rename_i hne
        intro dd σ1 B1 H1 nx er hd
        exact key W tk Dn σ Γ B H c fs dd σ1 Γ1 B1 H1 nx er hd hne sat
      · exact sat.false
/-- e.f, e the name of the clause -/
def xfD (fs : List (Str × D)) (f : Str) : Option D := alook (fs.map (·.1)) (fs.map (·.2)) f
def xfM (xok : Str → Str → Bool) (i : Nat) (f : Str) : M D := fun Γ => match Γ[i]? with
  | some (.ex c fs) => if xok c f = true then opt (xfD fs f) Γ else none
  | _ => none
theorem tr_xf {n f : Str} {a : Addr} {dd : Option Addr} {oe : Obj} {pn : List (Addr × Obj)} {p1 pos : Pos} {pa la : Addr} {ec : Str} {xok : Str → Str → Bool} (i : Nat) (T : ∀ c f, xok c f = true → XfC X.K (He.ga X.K c) ∧ PySem.W.findIn X.K (.ref (He.ga X.K c)) f = some none) (hz : Zc (.ref (He.ga X.K ec)) dd oe) (hf : ∃ vs, oe.data = .fields vs)
    (hN : X.N[i]? = some n := by kernel_rfl) (hv : Vis X.env.scope n := by first | exact Or.inl rfl | exact Or.inr (Or.inl rfl) | exact Or.inr (Or.inr rfl)) (hd : (n == ("__debug__" : Str)) = false := by decide) (hcd : (n == ("__classdict__" : Str)) = false := by decide)
    (hb : attributeBase (.Name n p1) f X.env (eval (.Name n p1) X.env) = eval (.Name n p1) X.env := by kernel_rfl) : TrF (X.suite a ((a, oe) :: pn)) ⟨pa, a, dd, la, ec⟩ (.Attribute (.Name n p1) f pos) (xfM xok i f) := .mk fun W tk σ Γ B H Q st sat => by
  unfold xfM at sat
  cases e : Γ[i]? with
  | none => simp only [e] at sat; exact sat.false
  | some s =>
    simp only [e] at sat
    split at sat
    · rename_i c fs h
      cases h
      split at sat
      · rename_i hx
        obtain ⟨h0, h1, fv, h2, h3, h4⟩ := st.ex i c fs e
        have h0 : c = ec := h0
        subst h0
        obtain ⟨z, ez, q⟩ := Sat.opt (rel := repR X.K) st sat
        unfold xfD at ez
        rw [← h3] at ez
        obtain ⟨v, hv1, hv2⟩ := alook_val h4 ez
        cases dd with
        | none =>
          have h2 : fv = [] := h2
          subst h2
          cases hv1
        | some dd =>
          refine wE_of (pe_xf (T _ _ hx).1 (T _ _ hx).2 hz hf (pe_var (X := X.suite a ((a, oe) :: pn)) hN hv hd hcd) hb) ?_
          exact ⟨_, h1, rfl, rfl, dd, fv, v, rfl, st.sub _ _ h2, hv1, q _ hv2⟩
      · exact sat.false
    · exact sat.false
end
end L2.TT

set_option Elab.async false
set_option linter.all false
set_option maxRecDepth 100000
set_option maxHeartbeats 2000001
namespace L2.TT
open PySem PyProof.Rows PySem.Spec

/-! ### a set of tuples of ints: one more -/
section
variable {P : Program} {w : World} {A : Around} {E : Value → Shared → Prop} {s : Shared} {a x : Addr} {L : List (Addr × List Int)} {es : Array (Int × Value)} {ep : Nat} {t : SetTable} {k : List Int}
theorem tup_added {Q : Value → Shared → Prop} (R : SetTR P w s.heap a L es ep t) (is : IsT P w s.heap k x) (units : A.units + 64 < cLine) (few : L.length + 1 < 64)
    (told : ∀ h' z L' es' ep' t', Heap.SameBut a s.heap h' → SetTR P w h' a L' es' ep' t' → (k ∈ L.map (·.2) → L' = L) → (k ∉ L.map (·.2) → L'.Perm ((x, k) :: L)) → Q .none { s with heap := h', toks := z }) :
    wpAny (model P w) A (call (.builtin "set.add") [.ref a, .ref x]) Q E s := by
  obtain ⟨o, ho, hex, hd⟩ := (R.ob)
  have isSet : s.TypeIs (.ref a) "set" := ⟨o, ho, hex.1⟩
  refine wpAny_call_entry F.slot_set_add isSet F.entry_set_add ?_ (F.args_set_add_2 _ _)
  (unfold Builtin.«set.add» Builtin.Frozenset.oneOther; simp only [List.isEmpty_nil, bind_assoc]; unfold Builtin.Frozenset.addrOf setAdd)
  (refine wpAny_bind (wpAny_pure ?_); try dsimp only)
  (refine wpAny_bind (wpAny_pure ?_); try dsimp only)
  refine wpAny_bind (wpAny_holding (wpAny_bind (wpAny_pyHash_tuple (knd := intKind P w) (ks := k) ?_ is ?_)))
  · simp only [Around.in1_units]; omega
  · refine add_at (s := { s with toks := s.toks + (k.length + 1) }) R is ?_ few fun b h' L' es' ep' t' hs R' c1 c2 => ?_
    · simp only [Around.in1_units]; omega
    · exact wpAny_pure ⟨_, rfl, told h' _ L' es' ep' t' hs R' c1 c2⟩
end
section
variable {X : Cx}
/-- the set at D holds the tuples L -/
theorem tup_put {pins : List (Addr × Obj)} {σ : L2.St} {H : Hp} {s : Shared} {E : Value → Shared → Prop} {D x : Addr} {L : List (Addr × List Int)} {k : List Int} {Q : Value → Shared → Prop} (inv : Inv X pins σ H s) (hD : H D = some (SetTO X.prog X.w D L)) (hx : SqT X.K H x (k.map V.int))
    (all : ∀ p ∈ L, SqT X.K H p.1 (p.2.map V.int)) (units : X.A.units + 64 < cLine) (few : L.length + 1 < 64)
    (told : ∀ L' s', (k ∈ L.map (·.2) → L' = L) → (k ∉ L.map (·.2) → L'.Perm ((x, k) :: L)) → Inv X pins σ (upd H D (SetTO X.prog X.w D L')) s' → Q .none s') : wpAny (model X.prog X.w) X.A (call (.builtin "set.add") [.ref D, .ref x]) Q E s := by
  have flat : SetT0 X.prog X.w s.heap D L := (inv.hok D _ hD).1
  obtain ⟨es, ep, t, R⟩ := flat.full fun p hp => inv.isT (all p hp)
  refine tup_added R (inv.isT hx) units few fun h' z L' es' ep' t' same R' c1 c2 => ?_
  have there : ∃ u, h'.get? D = some u := by
    obtain ⟨o, ho, _⟩ := R'.ob
    exact ⟨o, ho⟩
  exact told L' _ c1 c2 (inv.write (e := D) (t' := z) (by rw [hD]; trivial) (.inl rfl) (fun b u hb hu => (same.2 b hb).trans hu) there (setTO_new R'.t0))
/-- {elt for target in iter}, elt a tuple of ints -/
def tTups (P : Program) (w : World) (K : PySem.W.Frag) (wi : TI) (g : TG) (te : TE) (vs : List Nat) : TE := fun σ H Q => wi σ H fun J H1 => ∀ D, H1 D = none → ∃ W : Nat → Nat → Hp → Prop, (∃ m, W 0 m (upd H1 D (SetTO P w D []))) ∧ ∀ i m H, W i m H →
  (J.stop i H ∧ Q (.ref D) H) ∨ (J.go i H ∧ ∃ On : Hp → Prop, (∀ H', On H' → ∃ m', m' < m ∧ W (i + 1) m' H') ∧ ∀ x H', J.yld i H x H' → g x (wipe σ vs) H' fun σ2 H2 => wipe σ2 vs = wipe σ vs ∧ te σ2 H2 fun y H3 =>
    ∃ (x : Addr) (k : List Int) (L : List (Addr × List Int)), y = .ref x ∧ H3 D = some (SetTO P w D L) ∧ SqT K H3 x (k.map V.int) ∧ (∀ p ∈ L, SqT K H3 p.1 (p.2.map V.int)) ∧ L.length + 1 < 64 ∧
      ∀ L' : List (Addr × List Int), (k ∈ L.map (·.2) → L' = L) → (k ∉ L.map (·.2) → L'.Perm ((x, k) :: L)) → On (upd H3 D (SetTO P w D L')))
theorem pe_tups {elt tg iter : Expr} {scope : Scope} {own : List (Str × Nat)} {pos : Pos} {wi : TI} {g : TG} {te : TE} (calm : X.calm = true) (units : X.A.units + 64 < cLine) (nd : X.N.Nodup) (walk : PI X tg iter wi) (ok : BlkOk X.N X.env.scope scope own)
    (hg : ∀ (s : Shared) (H : Hp) (C : Addr) (cl : List (Str × Addr)) (fp : List Addr), PG (X.blk s H scope (compEnvC scope cl C X.env) fp) tg g)
    (he : ∀ (s : Shared) (H : Hp) (C : Addr) (cl : List (Str × Addr)) (fp : List Addr), PE (X.blk s H scope (compEnvC scope cl C X.env) fp) elt te) (hs : ∀ x, foldedSetIterable iter X.env x = pure x := by intro _; kernel_rfl) :
    PE X (.SetComp elt [⟨tg, iter, [], 0⟩] scope pos) (tTups X.prog X.w X.K wi g te (own.map (·.2))) := .mk fun pins s σ H Q inv want => by
  rw [PpSet.eval_SetComp]
  have outer : ∀ y ∈ scope.names, y.2 = .free → ∃ c, X.env.cells.lookup y.1 = some c := fun y hy e => (ok.free y hy e).elim (fun q => inv.ok.has _ (.inl q)) fun q => inv.ok.has _ (.inr q)
  refine wpAny_comprehension_free (use := none) rfl hs (closure_ok outer) ok.kind (fun y hy e => by rw [ok.uniq y hy, e]) (thn (walk.run pins s σ H _ inv want) fun _ z1 first => thn first fun _ z2 got => ?_)
  obtain ⟨it, fp, tn, J, H2, e, inv2, T, begun, free2, rest⟩ := got
  subst e
  refine PpSet.newSet_ok (newEnv_comp ?_)
  generalize isD : z2.heap.objs.size = D
  have fresh : H2 D = none := inv2.hok.fresh (Nat.le_of_eq isD)
  obtain ⟨W, ⟨m0, w0⟩, turn⟩ := rest D fresh
  generalize is3 : ({ z2 with heap := z2.heap.push { cls := .type "set", dict := none, data := .set #[] 0 (.fresh 0 0 (!X.w.params.followText "set-order")) } } : Shared) = z3
  have heap3 : z3.heap = z2.heap.push { cls := .type "set", dict := none, data := .set #[] 0 (.fresh 0 0 (!X.w.params.followText "set-order")) } := by rw [← is3]
  have atD : z3.heap.get? D = some { cls := .type "set", dict := none, data := .set #[] 0 (.fresh 0 0 (!X.w.params.followText "set-order")) } := by
    rw [heap3, ← isD]; exact Heap.get?_push_size _ rfl
  have inv3 : Inv X pins σ (upd H2 D (SetTO X.prog X.w D [])) z3 := by
    have q := inv2.laid (t' := z2.toks) (o := SetTO X.prog X.w D []) (h' := z3.heap) (a := D) (fun b o e => by rw [heap3]; exact Heap.get?_push_of_some _ e) (Nat.le_of_eq isD) (setTO_new (setTR_fresh atD).t0)
    rw [← is3] at q ⊢
    exact q
  have small : ∀ b ∈ fp, b < z2.heap.objs.size := fun b hb => by
    obtain ⟨o, e, _⟩ := T.obj _ _ begun b hb
    exact Heap.lt_size e
  have free3 : ∀ b ∈ fp, FpOk X pins (upd H2 D (SetTO X.prog X.w D [])) b ∧ b < z3.heap.objs.size := fun b hb => by
    have lt := small b hb
    refine ⟨⟨?_, (free2 b hb).2⟩, by rw [heap3, Heap.size_push]; exact Nat.lt_succ_of_lt lt⟩
    rw [upd_ne (by rw [← isD]; exact Nat.ne_of_lt lt)]
    exact (free2 b hb).1
  have begun3 : tn 0 z3.heap := T.keep _ _ _ begun fun b _ o e => by rw [heap3]; exact Heap.get?_push_of_some _ e
  have inv4 := block_start inv3 ok nd free3
  have pg := hg z3 (upd H2 D (SetTO X.prog X.w D [])) z3.heap.objs.size (cellsFrom (z3.heap.objs.size + 1) scope.names (cloFrom X.env.cells scope.names [])) fp
  have pe := he z3 (upd H2 D (SetTO X.prog X.w D [])) z3.heap.objs.size (cellsFrom (z3.heap.objs.size + 1) scope.names (cloFrom X.env.cells scope.names [])) fp
  show codeAny _ _ (.compStart (.SetComp elt [⟨tg, iter, [], 0⟩] scope pos) 0 (.ref it) (.ref D) (compEnvC scope (cellsFrom (z3.heap.objs.size + 1) scope.names (cloFrom X.env.cells scope.names [])) z3.heap.objs.size X.env)) (compPost (model X.prog X.w) X.A X.xe none (EP X pins σ Q) (.ref D) z3.heap.objs.size) { z3 with heap := pushCells (z3.heap.push { cls := .type "dict", data := .dict #[] }) scope.names }
  have none3 : ∀ b ∈ fp, (upd H2 D (SetTO X.prog X.w D [])) b = none := fun b hb => (free3 b hb).1.1
  generalize isE : compEnvC scope (cellsFrom (z3.heap.objs.size + 1) scope.names (cloFrom X.env.cells scope.names [])) z3.heap.objs.size X.env = ev at inv4 pg pe ⊢
  have own_ : ev.locals = z3.heap.objs.size := by subst isE; rfl
  generalize isH : upd H2 D (SetTO X.prog X.w D []) = H3 at inv3 inv4 pg pe w0 none3 free3
  generalize is4 : ({ z3 with heap := pushCells (z3.heap.push { cls := .type "dict", data := .dict #[] }) scope.names } : Shared) = z4 at inv4 ⊢
  have begun4 : tn 0 z4.heap := T.keep _ _ _ begun3 fun b _ o e => by rw [← is4]; exact pushCells_keeps _ _ _ _ (Heap.get?_push_of_some _ e)
  have still : ∀ {σ' : L2.St} {H' : Hp} {z : Shared}, Inv (X.blk z3 H3 scope ev fp) [] σ' H' z → (∀ b ∈ fp, H' b = none) → ∀ b ∈ fp, FpOk (X.blk z3 H3 scope ev fp) [] H' b := fun {σ' H' z} i n b hb =>
    ⟨n b hb, (i.ok.exf b hb).1, i.ok.exfs b hb, .inl hb, fun x c e => (i.ok.exf b hb).2 x c e, fun p hp => absurd (show p ∈ ([] : List (Addr × Obj)) ++ [] from hp) (by simp)⟩
  have loop : codeAny (model X.prog X.w) X.A (.compLoop (.SetComp elt [⟨tg, iter, [], 0⟩] scope pos) 0 (.ref it) (.ref D) ev) (compPost (model X.prog X.w) X.A X.xe none (EP X pins σ Q) (.ref D) z3.heap.objs.size) z4 := by
    refine PpSet.compLoopS_any (fun n z => ∃ i H', Inv (X.blk z3 H3 scope ev fp) [] (wipe σ (own.map (·.2))) H' z ∧ tn i z.heap ∧ (∀ b ∈ fp, H' b = none) ∧ W i n H') ?_ m0 ⟨0, H3, inv4, begun4, none3, w0⟩
    rintro n z5 ⟨i, H5, inv5, at5, none5, w5⟩
    rcases turn i n H5 w5 with ⟨ends, good⟩ | ⟨goes, On, less, step⟩
    · refine thnF (T.done (X.blk z3 H3 scope ev fp) rfl rfl rfl calm i [] z5 _ H5 (fun _ _ => False) inv5 (still inv5 none5) at5 ends) fun r z6 ⟨isNone, inv6⟩ => ?_
      subst isNone
      have inv7 : Inv X pins σ H5 z6 := inv3.call' (ch := fp) inv6.os inv6.base inv6.hok inv6.bare fun b hb => ⟨(free3 b hb).1.2.2.2.1, (free3 b hb).1.2.1, (free3 b hb).1.2.2.2.2.1, (free3 b hb).1.2.2.2.2.2⟩
      have noC : H5 z3.heap.objs.size = none := by
        have q : H5 ev.locals = none := inv6.free
        rw [own_] at q
        exact q
      obtain ⟨m, names, _⟩ := inv6.loc
      have names : z6.heap.Ns ev.locals m := names
      rw [own_] at names
      obtain ⟨f0, f1, f2, f3, f4, f5⟩ := inv3.fpOk (Nat.le_refl _) noC
      exact ⟨m, names, fun h'' sb => ⟨.ref D, H5, inv7.turned (t' := z6.toks) (fun b o hb e => (sb.2 b hb).trans e) f0 f1 f3 f4 f5, rfl, good⟩⟩
    · refine thnF (T.item (X.blk z3 H3 scope ev fp) rfl rfl rfl calm i [] z5 _ H5 (fun _ _ => False) inv5 (still inv5 none5) at5 goes) fun r z6 ⟨u, isSome, more⟩ => ?_
      subst isSome
      refine thnF more fun _ z7 ⟨x, H7, inv7, rel7, yl7, at7, none7⟩ => ?_
      refine thnF (pg.run _ z7 _ H7 x u _ (inv7.pinned (still inv7 none7) (T.obj _ _ at7)) rel7 (step x H7 yl7)) fun _ z8 ⟨σ8, H8, inv8, same8, q8⟩ => ?_
      refine wpAny_pure ?_
      simp only [if_true] at *
      refine thnF (pe.run _ z8 σ8 H8 _ inv8 q8) fun z z9 ⟨yv, H9, inv9, rel9, x9, k, L, isRef, hD, hx, all, few, q9⟩ => ?_
      subst isRef
      cases (show z = Value.ref x9 from rel9)
      refine tup_put (X := X.blk z3 H3 scope ev fp) inv9 hD hx all units few fun L' z10 c1 c2 inv10 => ?_
      obtain ⟨m', hm, w'⟩ := less _ (q9 L' c1 c2)
      have pinned : ∀ b ∈ fp, ∀ o, z7.heap.get? b = some o → z10.heap.get? b = some o ∧ (upd H9 D (SetTO X.prog X.w D L')) b = none := fun b hb o e =>
        let q := inv10.pin (b, o) (List.mem_append_right _ (List.mem_append_right _ (mem_pinsAt hb e)))
        ⟨q.1, q.2.1⟩
      have len8 : (wipe σ (own.map (·.2))).length = σ8.length := by rw [← same8, wipe_length]
      refine ⟨m', hm, i + 1, _, (inv10.unpinned (pins := [])).weak len8 (fun j v e => ?_), T.keep _ _ _ at7 fun b hb o e => (pinned b hb o e).1, fun b hb => ?_, w'⟩
      · rw [← same8] at e
        exact (wipe_some e).1
      · obtain ⟨o, e, _⟩ := T.obj _ _ at7 b hb
        exact (pinned b hb o e).2
  exact PpSet.codeAny_compStart_set loop (T.self X.A 0 _ _ _ begun4 loop)
end
end L2.TT

set_option Elab.async false
set_option linter.all false
set_option maxRecDepth 100000
set_option maxHeartbeats 2000001
namespace L2.TT
open PySem PyProof.Rows PySem.Spec

def tupI : D → Option (List Int)
  | .tup ds => asInts ds
  | _ => none
def stL (vs : List Nat) (gm : D → M Unit) (me : M D) : List D → List (List Int) → M (List (List Int))
  | [], acc => ret acc
  | d :: ds, acc => fun Γ => match gm d Γ with
    | some (.ok () Γ1) => match me Γ1 with
      | some (.ok y Γ2) => match tupI y with
        | some k => if acc.length < 60 then stL vs gm me ds (if k ∈ acc then acc else k :: acc) (dropS vs Γ2) else none
        | none => none
      | _ => none
    | _ => none
def lenSetM (vs : List Nat) (mi : M (List D)) (gm : D → M Unit) (me : M D) : M D := bd mi fun ds => fun Γ => match stL vs gm me ds [] (dropS vs Γ) with
  | some (.ok acc Γ') => some (.ok (.int acc.length) Γ')
  | _ => none
section
variable {X : Cx} {π : Pm} {elt tg iter : Expr} {scope : Scope} {own : List (Str × Nat)} {pos p1 p2 : Pos} {mi : M (List D)} {gm : D → M Unit} {me : M D} {v1 : List Nat}
theorem call_lenT : CallR X (.builtin "len") (fun xs H Q => ∃ (a : Addr) (L : List (Addr × List Int)), xs = [.ref a] ∧ H a = some (SetTO X.prog X.w a L) ∧ (∀ p ∈ L, SqT X.K H p.1 (p.2.map V.int)) ∧ L.length < 64 ∧ Q (.int L.length) H) := by
  intro pins s σ H xs us Q inv rel hyp
  obtain ⟨a, L, rfl, ha, all, few, q⟩ := hyp
  obtain ⟨u, rfl, ru⟩ := vals1 rel
  cases ((show u = Value.ref a from ru))
  have flat : SetT0 X.prog X.w s.heap a L := (inv.hok a _ ha).1
  obtain ⟨es, ep, t, R⟩ := flat.full fun p hp => inv.isT (all p hp)
  obtain ⟨o, ho, hex, hd⟩ := (R.ob)
  have hz := R.size
  refine call_len_set ho hex hd R.fits (by rw [hz]; omega) ⟨.int L.length, H, inv.tok _, ⟨_, by rw [hz]⟩, q⟩
theorem tr_lenset (hc : X.calm = true) {k0 : Nat} (hr : Room k0 X.A) (hN : X.N.Nodup) (hi : TrI X π tg iter mi) (ok : BlkOk X.N X.env.scope scope own) (hv : ∀ j ∈ v1, j ∈ own.map (·.2))
    (hg : ∀ (s0 : Shared) (H0 : Hp) (C : Addr) (cl : List (Str × Addr)) (fp : List Addr), TrG (X.blk s0 H0 scope (compEnvC scope cl C X.env) fp) π tg gm v1)
    (he : ∀ (s0 : Shared) (H0 : Hp) (C : Addr) (cl : List (Str × Addr)) (fp : List Addr), TrF (X.blk s0 H0 scope (compEnvC scope cl C X.env) fp) π elt me) (hm : X.mg "len" = none) (hgl : Gl X "len" := by rfl) (hs : ∀ x, foldedSetIterable iter X.env x = pure x := by intro _; kernel_rfl)
    (hst : starEach [.SetComp elt [⟨tg, iter, [], 0⟩] scope pos] X.env = (false, eval (.SetComp elt [⟨tg, iter, [], 0⟩] scope pos) X.env) :: starEach [] X.env := by kernel_rfl) (hpl : (backTo p2 (starEach [] X.env)).any (·.1) = false := by kernel_rfl) :
    TrF X π (.Call (.Name "len" p1) [.SetComp elt [⟨tg, iter, [], 0⟩] scope pos] [] p2) (lenSetM (own.map (·.2)) mi gm me) := .mk fun W tk σ Γ B H Q st sat => by
  refine wE_of (pe_callB call_lenT hgl hm PySem.boot_len (pa_cons (pe_tups hc (by have := hr.un; omega) hN pi_w ok (g := gB X scope tg) (te := eB X scope elt) (fun s0 H0 C cl fp => ⟨fun pins s σ H v u Q I r h => h s0 H0 C cl fp pins s u I r⟩) (fun s0 H0 C cl fp => ⟨fun pins s σ H Q I h => h s0 H0 C cl fp pins s I⟩) hs) pa_nil hst) (he := hst) (hpl := hpl)) ?_
  generalize hvs : own.map (·.2) = vs at sat hv ⊢
  refine hi.run W tk σ Γ B H _ st (sat.bd0 fun ds Γ1 J B1 H1 e1 nx rv sat1 => ?_)
  intro Dl hD
  have hD0 : H Dl = none := none_of nx.nd hD
  cases kc : stL vs gm me ds [] (dropS vs Γ1) with
  | none => simp only [kc] at sat1; exact sat1.false
  | some rr =>
    cases rr with
    | er c fs Γ' => simp only [kc] at sat1; exact sat1.false
    | ok out Γo =>
      simp only [kc] at sat1
      have nx1 : Nx X.K π σ Γ B H (wipe σ vs) (dropS vs Γ1) B1 H1 := nx.less (by rw [dropS_len, wipe_length]; exact nx.st.len) fun j x e nn => by
        rcases dropS_get _ _ _ _ e with z | ⟨z1, z2⟩
        · exact absurd z nn
        · exact ⟨z2, wipe_out z1⟩
      have dr1 : ∀ (j : Nat) (x : Sl), (dropS vs Γ1)[j]? = some x → x ≠ .no → j ∉ vs := fun j x e nn => by
        rcases dropS_get _ _ _ _ e with z | ⟨z1, _⟩
        · exact absurd z nn
        · exact z1
      have nxD := nx1.trans (Nx.new (o := SetTO X.prog X.w Dl []) nx1.st hD)
      refine ⟨fun i m Hi => m = ds.length - i ∧ i ≤ ds.length ∧ ∃ (Γi : List Sl) (Bi : Hp) (L : List (Addr × List Int)) (acc : List (List Int)), Nx X.K π σ Γ B H (wipe σ vs) Γi Bi Hi ∧ Same B1 Bi ∧ (∀ (j : Nat) (x : Sl), Γi[j]? = some x → x ≠ .no → j ∉ vs) ∧ Hi Dl = some (SetTO X.prog X.w Dl L) ∧ Bi Dl = none ∧ ¬ OwnAt Γi (wipe σ vs) Dl ∧
        (∀ p ∈ L, Bi p.1 = some (.tup (p.2.map V.int))) ∧ (L.map (·.2)).Perm acc ∧ L.length < 64 ∧ stL vs gm me (ds.drop i) acc Γi = some (.ok out Γo), ⟨_, rfl, Nat.zero_le _, dropS vs Γ1, B1, [], [], nxD, Same.refl _, dr1, upd_same, nx1.st.sub.free hD, not_own_new nx1.st hD, (fun p hp => by cases hp), List.Perm.refl _, by decide, kc⟩, ?_⟩
      rintro i m Hi ⟨rfl, hle, Γi, Bi, L, acc, nxi, sBi, dri, hL, bL, nL, reps, perm, few, ki⟩
      obtain ⟨w1, w2⟩ := rv i Bi Hi sBi nxi.st.sub
      by_cases hlt : i < ds.length
      · right
        have hd : ds[i]? = some ds[i] := List.getElem?_eq_getElem hlt
        obtain ⟨g1, g2⟩ := w2 _ hd
        rw [List.drop_eq_getElem_cons hlt] at ki
        simp only [stL] at ki
        refine ⟨g1, fun H' => ∃ (Γ' : List Sl) (B' : Hp) (L' : List (Addr × List Int)) (acc' : List (List Int)), Nx X.K π σ Γ B H (wipe σ vs) Γ' B' H' ∧ Same B1 B' ∧ (∀ (j : Nat) (x : Sl), Γ'[j]? = some x → x ≠ .no → j ∉ vs) ∧ H' Dl = some (SetTO X.prog X.w Dl L') ∧ B' Dl = none ∧ ¬ OwnAt Γ' (wipe σ vs) Dl ∧
          (∀ p ∈ L', B' p.1 = some (.tup (p.2.map V.int))) ∧ (L'.map (·.2)).Perm acc' ∧ L'.length < 64 ∧ stL vs gm me (ds.drop (i + 1)) acc' Γ' = some (.ok out Γo),
          fun H' ⟨Γ', B', L', acc', n⟩ => ⟨ds.length - (i + 1), by omega, rfl, hlt, Γ', B', L', acc', n⟩, fun x H' y => ?_⟩
        obtain ⟨B2, s1, s2, s3, s4, rx⟩ := g2 x H' y
        have ni : Nx X.K π (wipe σ vs) Γi Bi Hi (wipe σ vs) Γi B2 H' := (Nx.refl nxi.st).grow s1 s3 s2 s4
        cases k1 : gm ds[i] Γi with
        | none => rw [k1] at ki; cases ki
        | some r =>
          rw [k1] at ki
          cases r with
          | er c fs Γ2 => cases ki
          | ok u Γ2 =>
            cases u
            intro s0 H0 C cl fp
            refine (hg s0 H0 C cl fp).run _ _ _ _ _ _ Γ2 B2 H' x _ _ ni rx k1 fun σ2 n2 hl2 hk2 => ?_
            have agree : ∀ (j : Nat), j ∉ vs → (wipe σ vs)[j]? = σ2[j]? := fun j hj => (hk2 j fun z => hj (hv j z)).symm
            have fin : ∀ {Γ3 : List Sl} {B3 H3 : Hp}, Nx X.K π (wipe σ vs) Γi Bi Hi σ2 Γ3 B3 H3 → Nx X.K π (wipe σ vs) Γi Bi Hi (wipe σ vs) (dropS vs Γ3) B3 H3 := fun {Γ3 B3 H3} n3 => n3.less (by rw [dropS_len, n3.st.len, hl2]) fun j x e nn => by
              rcases dropS_get _ _ _ _ e with z | ⟨z1, z2⟩
              · exact absurd z nn
              · exact ⟨z2, agree j z1⟩
            have drd : ∀ {Γ3 : List Sl} (j : Nat) (x : Sl), (dropS vs Γ3)[j]? = some x → x ≠ .no → j ∉ vs := fun {Γ3} j x e nn => by
              rcases dropS_get _ _ _ _ e with z | ⟨z1, _⟩
              · exact absurd z nn
              · exact z1
            refine ⟨?_, ?_⟩
            · rw [wipe_eq (hl2.trans (wipe_length σ vs)) (vs := vs) fun j hj => (agree j hj).symm.trans (wipe_out hj)]
            · intro s0 H0 C cl fp
              refine (he s0 H0 C cl fp).run (fun _ _ _ _ => False) takes0 σ2 Γ2 B2 H' _ n2.st ?_
              simp only at ki
              cases k3 : me Γ2 with
              | none => rw [k3] at ki; cases ki
              | some r =>
                rw [k3] at ki
                cases r with
                | er c fs Γ4 => cases ki
                | ok yd Γ4 =>
                  simp only at ki
                  cases kk : tupI yd with
                  | none => rw [kk] at ki; cases ki
                  | some k =>
                    rw [kk] at ki
                    simp only at ki
                    split at ki
                    · rename_i hac
                      intro yv B4 H4 n4 ry
                      have n24 := fin (n2.trans n4)
                      obtain ⟨a1, a2, a3⟩ := lst_kept n24 hL bL nL
                      cases yd <;> simp only [tupI] at kk <;> first | (cases kk; done) | skip
                      cases ry with
                      | @tup xa xs _ hx hr =>
                        have ev := asInts_v hr kk
                        subst ev
                        have len : L.length = acc.length := by rw [← List.length_map (f := (·.2)), perm.length_eq]
                        have reps4 : ∀ p ∈ L, B4 p.1 = some (.tup (p.2.map V.int)) := fun p hp => n24.bb _ _ (reps p hp)
                        refine ⟨xa, k, L, rfl, a1, SqT.of (n24.st.sub _ _ hx), fun p hp => SqT.of (n24.st.sub _ _ (reps4 p hp)), by omega, fun L' c1 c2 => ?_⟩
                        by_cases hk : k ∈ acc
                        · have hk' : k ∈ L.map (·.2) := perm.mem_iff.mpr hk
                          rw [if_pos hk] at ki
                          rw [c1 hk']
                          exact ⟨dropS vs Γ4, B4, L, acc, (nxi.trans n24).setl hD0 a1 a2 a3, sBi.trans n24.bb, drd, upd_same, a2, a3, reps4, perm, few, ki⟩
                        · have hk' : k ∉ L.map (·.2) := fun z => hk (perm.mem_iff.mp z)
                          rw [if_neg hk] at ki
                          have pm := c2 hk'
                          refine ⟨dropS vs Γ4, B4, L', k :: acc, (nxi.trans n24).setl hD0 a1 a2 a3, sBi.trans n24.bb, drd, upd_same, a2, a3, fun p hp => ?_, ?_, by rw [pm.length_eq, List.length_cons]; omega, ki⟩
                          · rcases List.mem_cons.mp (pm.mem_iff.mp hp) with rfl | hp
                            · exact hx
                            · exact reps4 p hp
                          · have q := pm.map (fun p : Addr × List Int => p.2)
                            exact q.trans (List.Perm.cons k perm)
                    · cases ki
      · left
        refine ⟨w1 (by omega), ?_⟩
        rw [List.drop_eq_nil_of_le (by omega)] at ki
        cases ki
        have nf : Nx X.K π σ Γ B H σ Γo Bi Hi := nxi.less (by rw [nxi.st.len, wipe_length]) fun j x e nn => ⟨e, (wipe_out (dri j x e nn)).symm⟩
        have len : L.length = out.length := by rw [← List.length_map (f := (·.2)), perm.length_eq]
        refine ⟨Dl, L, rfl, hL, fun p hp => SqT.of (nxi.st.sub _ _ (reps p hp)), few, ?_⟩
        rw [len]
        exact sat1 _ Bi Hi nf (.int _)
end
end L2.TT

set_option Elab.async false
set_option linter.all false
set_option maxRecDepth 100000
set_option maxHeartbeats 1000001
namespace L2.TT
open PySem PyProof.Rows PySem.Spec

/-! ### f(x, y, ..) of names: what they own is lent, the answer is flat -/
def flatD : D → Bool
  | .non => true
  | .bl _ => true
  | .int _ => true
  | .str _ => true
  | _ => false
theorem flat_rep {K : PySem.W.Frag} {B B' : Hp} {v : V} {d : D} (h : flatD d = true) (r : Rep K B v d) : Rep K B' v d := by
  cases r <;> simp only [flatD] at h <;> first | (cases h; done) | skip
  · exact .non
  · exact .bl _
  · exact .int _
  · exact .str _
def pkAll : List Nat → List Sl → Option (List D)
  | [], _ => some []
  | i :: is, Γ => match pk i Γ, pkAll is Γ with
    | some (.ok d _), some ds => some (d :: ds)
    | _, _ => none
inductive NamesAt (X : Cx) : List Expr → List Nat → Prop
  | nil : NamesAt X [] []
  | cons {x : Str} {pos : Pos} {es : List Expr} {is : List Nat} (i : Nat) (hN : X.N[i]? = some x) (hv : Vis X.env.scope x) (hd : (x == ("__debug__" : Str)) = false) (hcd : (x == ("__classdict__" : Str)) = false)
      (hs : starEach (.Name x pos :: es) X.env = (false, eval (.Name x pos) X.env) :: starEach es X.env) (t : NamesAt X es is) : NamesAt X (.Name x pos :: es) (i :: is)
theorem na_cons {X : Cx} {x : Str} {pos : Pos} {es : List Expr} {is : List Nat} (i : Nat) (t : NamesAt X es is) (hN : X.N[i]? = some x := by kernel_rfl) (hv : Vis X.env.scope x := by first | exact Or.inl rfl | exact Or.inr (Or.inl rfl) | exact Or.inr (Or.inr rfl)) (hd : (x == ("__debug__" : Str)) = false := by decide) (hcd : (x == ("__classdict__" : Str)) = false := by decide)
    (hs : starEach (.Name x pos :: es) X.env = (false, eval (.Name x pos) X.env) :: starEach es X.env := by kernel_rfl) : NamesAt X (.Name x pos :: es) (i :: is) := .cons i hN hv hd hcd hs t
inductive SeesL (K : PySem.W.Frag) (B H : Hp) : List V → List D → Prop
  | nil : SeesL K B H [] []
  | cons {v : V} {d : D} {vs : List V} {ds : List D} (h : See K B H v d) (t : SeesL K B H vs ds) : SeesL K B H (v :: vs) (d :: ds)
theorem wA_names {X : Cx} {π : Pm} {B H : Hp} {σ : L2.St} {Γ : List Sl} (st : Stt X.K π B H σ Γ) : ∀ {es : List Expr} {is : List Nat}, NamesAt X es is → ∀ {ds : List D}, pkAll is Γ = some ds → ∀ {Q : List V → Hp → Prop}, (∀ vs, SeesL X.K B H vs ds → Q vs H) → wA X es σ H Q
  | _, _, .nil, ds, e, Q, q => by cases e; exact wA_of pa_nil (q [] .nil)
  | _, _, .cons i hN hv hd hcd hs t, ds, e, Q, q => by
    simp only [pkAll] at e
    split at e
    · rename_i d g ds' e1 e2
      cases e
      obtain ⟨_, v, h1, h2⟩ := st.peek e1
      refine wA_of (pa_cons (pe_var hN hv hd hcd) pa_w hs) ⟨v, h1, ?_⟩
      exact wA_names st t e2 fun vs h => q (v :: vs) (.cons h2 h)
    · cases e
open Classical in
noncomputable def lend (vs : List V) (B H : Hp) : Hp := fun a => if V.ref a ∈ vs then H a else B a
theorem lend_sub {vs : List V} {B H : Hp} (s : Same B H) : Same B (lend vs B H) := fun a u e => by
  unfold lend
  split
  · exact s _ _ e
  · exact e
theorem lend_under {vs : List V} {B H : Hp} (s : Same B H) : Same (lend vs B H) H := fun a u e => by
  unfold lend at e
  split at e
  · exact e
  · exact s _ _ e
theorem lend_at {vs : List V} {B H : Hp} {a : Addr} (h : V.ref a ∈ vs) : lend vs B H a = H a := by unfold lend; rw [if_pos h]
/-- what may be lent as it lies: no dict -/
def noDic : D → Bool
  | .dic _ _ => false
  | .dit _ _ => false
  | _ => true
theorem lend_rep {K : PySem.W.Frag} {ws : List V} {B H : Hp} (s : Same B H) {v : V} {d : D} (m : v ∈ ws) (nd : noDic d = true) (h : See K B H v d) : Rep K (lend ws B H) v d := by
  have sB := lend_sub (vs := ws) s
  cases d with
  | non => cases h; exact .non
  | bl b => cases h; exact .bl _
  | int i => cases h; exact .int _
  | str x => cases h; exact .str _
  | lst ds => obtain ⟨p, xs, rfl, hp, rs⟩ := h; exact .lst (by rw [lend_at m]; exact hp) (rs.mono sB)
  | kl ds =>
    obtain ⟨p, xs, rfl, hp, rs⟩ := h
    refine .kl ?_ (rs.mono sB)
    rcases hp with (hp | ⟨o, hp⟩) | hp
    · exact .inl (.inl (by rw [lend_at m]; exact hp))
    · exact .inl (.inr ⟨o, by rw [lend_at m]; exact hp⟩)
    · exact .inr hp
  | tup ds => obtain ⟨p, xs, rfl, hp, rs⟩ := h; exact .tup (by rw [lend_at m]; exact hp) (rs.mono sB)
  | dic ks ds => cases nd
  | dit ks ds => cases nd
  | obj c ns ds => obtain ⟨p, dx, fs, rfl, hp, e, rs⟩ := h; exact .obj (by rw [lend_at m]; exact hp) e (rs.mono sB)
theorem lend_reps {K : PySem.W.Frag} {ws : List V} {B H : Hp} (s : Same B H) : ∀ {vs : List V} {ds : List D}, (∀ v ∈ vs, v ∈ ws) → ds.all noDic = true → SeesL K B H vs ds → Reps K (lend ws B H) vs ds
  | _, _, _, _, .nil => .nil
  | _, _, m, nd, .cons h t => by
    rw [List.all_cons, Bool.and_eq_true] at nd
    exact .cons (lend_rep s (m _ List.mem_cons_self) nd.1 h) (lend_reps s (fun v hv => m v (List.mem_cons_of_mem _ hv)) nd.2 t)
def callBM (n : Nat) (F : List D → Option Out) (is : List Nat) : M D := fun Γ => match pkAll is Γ with
  | none => none
  | some ds => if ds.length = n ∧ ds.all noDic = true then match F ds with
    | some (.v d false) => if flatD d = true then some (.ok d Γ) else none
    | _ => none else none
section
variable {X : Cx} {π : Pm} {e : Expr} {es : List Expr} {pos p : Pos} {k n : Nat} {x : Str} {is : List Nat}
theorem tr_callB {F : List D → Option Out} (G : DefOk X.prog X.w X.K X.mg X.base k x (spF X.K n F)) (hr : Room k X.A) (ha : NamesAt X (e :: es) is) (hg : Gl X x := by rfl)
    (hdb : (x == ("__debug__" : Str)) = false := by decide) (he : starEach (e :: es) X.env = (false, eval e X.env) :: starEach es X.env := by kernel_rfl) (hpl : (backTo pos (starEach es X.env)).any (·.1) = false := by kernel_rfl) :
    TrF X π (.Call (.Name x p) (e :: es) [] pos) (callBM n F is) := .mk fun W tk σ Γ B H Q st sat => by
  obtain ⟨f, fd, ps, Fn, hm, hk, hb⟩ := G
  refine wE_of (pe_callS (E := WE W) Fn hr hg hm hk hb (fun σ => passAt tk σ) pa_w hdb he hpl) ?_
  unfold callBM at sat
  cases e1 : pkAll is Γ with
  | none => simp only [e1] at sat; exact sat.false
  | some ds =>
    simp only [e1] at sat
    split at sat
    · rename_i hl
      refine wA_names st ha e1 fun vs sees => ?_
      have s := st.sub
      obtain ⟨hl, hnd⟩ := hl
      have rs := lend_reps (ws := vs) s (fun v hv => hv) hnd sees
      cases hF : F ds with
      | none => simp only [hF] at sat; exact sat.false
      | some r =>
        simp only [hF] at sat
        cases r with
        | e c fs => exact sat.false
        | v d o =>
          cases o with
          | true => exact sat.false
          | false =>
            simp only at sat
            split at sat
            · rename_i hfl
              refine ⟨lend vs B H, ds, .v d false, lend_under s, rs, hl, hF, fun v B' H' af nr => ?_⟩
              have nx : Nx X.K π σ Γ B H σ Γ B H' := (Nx.refl st).grow (Same.refl B) af.hh (fun a u e => af.hh _ _ (s _ _ e)) (fun a _ b => b)
              exact sat v B H' nx (flat_rep hfl nr)
            · exact sat.false
    · exact sat.false
end
end L2.TT

set_option Elab.async false
set_option linter.all false
set_option maxRecDepth 100000
set_option maxHeartbeats 1000001
namespace L2.TT
open PySem PyProof.Rows PySem.Spec

/-! ### the calculus, as rewriting -/
theorem bd_opt {α β : Type} (o : Option α) (k : α → M β) (g : List Sl) : bd (opt o) k g = match o with
  | some a => k a g
  | none => none := by cases o <;> rfl
theorem bd_ret {α β : Type} (a : α) (k : α → M β) (g : List Sl) : bd (TT.ret a) k g = k a g := rfl
theorem bd_bd {α β γ : Type} (m : M α) (k : α → M β) (l : β → M γ) (g : List Sl) : bd (bd m k) l g = bd m (fun a => bd (k a) l) g := by
  unfold bd
  cases m g with
  | none => rfl
  | some r => cases r <;> rfl
theorem bd_gv {β : Type} (i : Nat) (k : D → M β) (g : List Sl) : bd (gv i) k g = match g[i]? with
  | some (.fz d) => k d g
  | some (.ow d) => k d (g.set i (.fz d))
  | some (.lk ks ds) => k (.dic ks ds) g
  | _ => none := by
  unfold bd gv
  cases g[i]? with
  | none => rfl
  | some s => cases s <;> rfl
theorem bd_pk {β : Type} (i : Nat) (k : D → M β) (g : List Sl) : bd (pk i) k g = match g[i]? with
  | some (.fz d) => k d g
  | some (.ow d) => k d g
  | some (.pn d) => k d g
  | some (.lk ks ds) => k (.dic ks ds) g
  | _ => none := by
  unfold bd pk
  cases g[i]? with
  | none => rfl
  | some s => cases s <;> rfl
theorem bd_ite {α β : Type} (c : Prop) [Decidable c] (m n : M α) (k : α → M β) (g : List Sl) : bd (if c then m else n) k g = if c then bd m k g else bd n k g := by split <;> rfl
theorem bd_fail {α β : Type} (k : α → M β) (g : List Sl) : bd (fun _ => none) k g = none := rfl
theorem ite_at {α : Type} (c : Prop) [Decidable c] (m n : M α) (g : List Sl) : (if c then m else n) g = if c then m g else n g := by split <;> rfl
end L2.TT

set_option Elab.async false
set_option linter.all false
set_option maxRecDepth 100000
set_option maxHeartbeats 1000001
namespace L2.TT
open PySem PyProof.Rows PySem.Spec

/-! ### o.m(..), o an instance of the program's own class; what it raises is wished for at the slots -/
def tOn (C : Addr) (m : Str) (sp : Sp) (E : L2.St → XK) (to : TE) (t : TA) : TE := fun σ H Q => to σ H fun x H1 => ∃ a dx fs, x = .ref a ∧ H1 a = some (.ins C dx fs) ∧ fs.lookup m = none ∧ t σ H1 fun vs H2 => sp (x :: vs) H2 Q (E σ)
section
variable {X : Cx} {CX : CXT} {k : Nat} {f C : Addr} {fd : FuncData} {ps : List Str} {sp : Sp} {E : L2.St → XK} {m : Str} {pos apos : Pos} {e o : Expr} {es : List Expr} {to : TE} {t : TA} {pl : Sem Bool}
theorem pe_on (ho : PE X o to) (c : Cls X.K C) (hm : Meth X.K C m f) (Fn : FnOk X.prog X.w X.K X.mg X.base CX k f fd ps sp) (room : Room k X.A) (bind : Binds X.K fd ps []) (out : ∀ σ, PassesAt CX X σ (E σ)) (args : PA X (e :: es) t)
    (hst : starEach (e :: es) X.env = (false, eval e X.env) :: starEach es X.env := by kernel_rfl) (hpl : (backTo pos (starEach es X.env)).any (·.1) = false := by kernel_rfl)
    (ht :
      (eval (.Call (.Attribute o m apos) (e :: es) [] pos) X.env) = (do
      let own ← eval o X.env
      standAt apos.atName
      let (g, first) ← holding [own] (getMethod own m pl)
      callWith pos g first (backTo pos (starEach (e :: es) X.env)) (backToKw pos (keywordEach [] X.env))) := by rfl) : PE X (.Call (.Attribute o m apos) (e :: es) [] pos) (tOn C m sp E to t) := .mk fun pins s σ H Q inv want => by
  refine PySem.W.methodCall_KW (pl := pl) ?_ ht
  refine thn (ho.run pins s σ H _ inv want) fun u s1 ⟨x, H1, inv1, rel, a, dx, fs, isRef, at_, noField, more⟩ => ?_
  subst isRef
  cases (show u = Value.ref a from rel)
  refine getmeth_ok inv1 at_ c hm noField (PySem.W.callWith_K (first := [.ref a]) (h₀ := X.base) inv1.ok.mod.kin hm.kp ?_ hst hpl)
  refine thn (args.run pos pins s1 σ H1 _ inv1 more) fun us s2 ⟨vs, H2, inv2, rels, q⟩ => ⟨inv2.kIn, ?_⟩
  exact run_fnS (us := .ref a :: us) (vs := .ref a :: vs) Fn room bind (out σ) inv2 (.cons rfl rels) q
theorem pe_on0 (ho : PE X o to) (c : Cls X.K C) (hm : Meth X.K C m f) (Fn : FnOk X.prog X.w X.K X.mg X.base CX k f fd ps sp) (room : Room k X.A) (bind : Binds X.K fd ps []) (out : ∀ σ, PassesAt CX X σ (E σ))
    (ht :
      (eval (.Call (.Attribute o m apos) [] [] pos) X.env) = (do
      let own ← eval o X.env
      standAt apos.atName
      let (g, first) ← holding [own] (getMethod own m pl)
      callWith pos g first (backTo pos (starEach [] X.env)) (backToKw pos (keywordEach [] X.env))) := by rfl) : PE X (.Call (.Attribute o m apos) [] [] pos) (tOn C m sp E to tNil) := .mk fun pins s σ H Q inv want => by
  refine PySem.W.methodCall_KW (pl := pl) ?_ ht
  refine thn (ho.run pins s σ H _ inv want) fun u s1 ⟨x, H1, inv1, rel, a, dx, fs, isRef, at_, noField, q⟩ => ?_
  subst isRef
  cases (show u = Value.ref a from rel)
  refine getmeth_ok inv1 at_ c hm noField (PySem.W.callWith_K0 (first := [.ref a]) inv1.kIn hm.kp ?_)
  exact run_fnS (us := [.ref a]) (vs := [.ref a]) Fn room bind (out σ) inv1 (.cons rfl .nil) q
end
def MethOk (P : Program) (w : World) (K : PySem.W.Frag) (mg : Str → Option Value) (base : Heap) (k : Nat) (x m : Str) (sp : Sp) : Prop :=
  ∃ f fd ps, FnOk P w K mg base (L2.CX P w) k f fd ps sp ∧ Cls K (He.ga K x) ∧ Meth K (He.ga K x) m f ∧ Binds K fd ps []
def isOf (x m : Str) : D → Bool
  | .obj c ns _ => decide (c = x) && !ns.contains m
  | _ => false
def onM (x m : Str) (n : Nat) (F : List D → Option Out) (g : M D) (fs : M (List D)) : M (D × Bool) := bd g fun d => if isOf x m d = true then bd fs fun ds => if ds.length = n then bd (opt (F (d :: ds))) outM else fun _ => none else fun _ => none
theorem lookup_none {m : Str} : ∀ {fs : List (Str × V)}, (fs.map (·.1)).contains m = false → fs.lookup m = none
  | [], _ => rfl
  | (g, v) :: r, h => by
    rw [List.map_cons, List.contains_cons, Bool.or_eq_false_iff] at h
    rw [List.lookup_cons, h.1]
    exact lookup_none h.2
section
variable {X : Cx} {π : Pm} {k n : Nat} {x m : Str} {pos apos : Pos} {e o : Expr} {es : List Expr} {g : M D} {fs : M (List D)}
theorem tv_on {F : List D → Option Out} (G : MethOk X.prog X.w X.K X.mg X.base k x m (spF X.K (n + 1) F)) (hr : Room k X.A) (ho : TrF X π o g) (ha : TrA X π (e :: es) fs) {pl : Sem Bool}
    (hst : starEach (e :: es) X.env = (false, eval e X.env) :: starEach es X.env := by kernel_rfl) (hpl : (backTo pos (starEach es X.env)).any (·.1) = false := by kernel_rfl)
    (ht :
      (eval (.Call (.Attribute o m apos) (e :: es) [] pos) X.env) = (do
      let own ← eval o X.env
      standAt apos.atName
      let (g, first) ← holding [own] (getMethod own m pl)
      callWith pos g first (backTo pos (starEach (e :: es) X.env)) (backToKw pos (keywordEach [] X.env))) := by rfl) : TrV X π (.Call (.Attribute o m apos) (e :: es) [] pos) (onM x m n F g fs) := .mk fun W tk σ Γ B H Q st sat => by
  obtain ⟨f, fd, ps, Fn, c, hm, hb⟩ := G
  refine wE_of (pe_on (E := WE W) pe_w c hm Fn hr hb (fun σ => passAt tk σ) pa_w hst hpl ht) ?_
  refine ho.run W tk σ Γ B H _ st (sat.bd up_valR fun d Γ1 v B1 H1 e1 nx rv sat1 => ?_)
  split at sat1
  · rename_i hof
    cases d <;> simp only [isOf] at hof <;> first | (cases hof; done) | skip
    rename_i c' ns ds
    rw [Bool.and_eq_true] at hof
    obtain ⟨hc, hn⟩ := hof
    cases of_decide_eq_true hc
    cases rv with
    | @obj a dx ff _ _ _ hob en rs =>
      subst en
      refine ⟨a, dx, ff, rfl, nx.st.sub _ _ hob, lookup_none (by simpa using hn), ?_⟩
      refine ha.run W tk σ Γ1 B1 H1 _ nx.st (sat1.bd up_valR fun as Γ2 vs B2 H2 e2 nx2 rvs sat2 => ?_)
      by_cases hl : as.length = n
      · rw [if_pos hl] at sat2
        cases hF : F (.obj x (ff.map (·.1)) ds :: as) with
        | none => rw [hF] at sat2; exact sat2.false
        | some r =>
          rw [hF] at sat2
          have sat2 : Sat X.K π W σ Γ2 B2 H2 (valR X.K) (outM r Γ2) Q := sat2
          exact ⟨B2, _, r, nx2.st.sub, .cons ((Rep.obj hob rfl rs).mono nx2.bb) rvs, by rw [List.length_cons, hl], hF, out_of_sat nx2.st sat2⟩
      · rw [if_neg hl] at sat2; exact sat2.false
  · exact sat1.false
theorem tv_on0 {F : List D → Option Out} (G : MethOk X.prog X.w X.K X.mg X.base k x m (spF X.K 1 F)) (hr : Room k X.A) (ho : TrF X π o g) {pl : Sem Bool}
    (ht :
      (eval (.Call (.Attribute o m apos) [] [] pos) X.env) = (do
      let own ← eval o X.env
      standAt apos.atName
      let (g, first) ← holding [own] (getMethod own m pl)
      callWith pos g first (backTo pos (starEach [] X.env)) (backToKw pos (keywordEach [] X.env))) := by rfl) : TrV X π (.Call (.Attribute o m apos) [] [] pos) (onM x m 0 F g (ret [])) := .mk fun W tk σ Γ B H Q st sat => by
  obtain ⟨f, fd, ps, Fn, c, hm, hb⟩ := G
  refine wE_of (pe_on0 (E := WE W) pe_w c hm Fn hr hb (fun σ => passAt tk σ) ht) ?_
  refine ho.run W tk σ Γ B H _ st (sat.bd up_valR fun d Γ1 v B1 H1 e1 nx rv sat1 => ?_)
  split at sat1
  · rename_i hof
    cases d <;> simp only [isOf] at hof <;> first | (cases hof; done) | skip
    rename_i c' ns ds
    rw [Bool.and_eq_true] at hof
    obtain ⟨hc, hn⟩ := hof
    cases of_decide_eq_true hc
    cases rv with
    | @obj a dx ff _ _ _ hob en rs =>
      subst en
      refine ⟨a, dx, ff, rfl, nx.st.sub _ _ hob, lookup_none (by simpa using hn), ?_⟩
      cases hF : F [.obj x (ff.map (·.1)) ds] with
      | none => simp only [bd, TT.ret, List.length_nil, if_true, opt] at sat1; rw [hF] at sat1; exact sat1.false
      | some r =>
        have sat2 : Sat X.K π W σ Γ1 B1 H1 (valR X.K) (outM r Γ1) Q := by
          simp only [bd, TT.ret, List.length_nil, if_true, opt] at sat1
          rw [hF] at sat1
          exact sat1
        exact ⟨B1, _, r, nx.st.sub, .one (.obj hob rfl rs), rfl, hF, out_of_sat nx.st sat2⟩
  · exact sat1.false
end
end L2.TT

set_option Elab.async false
set_option linter.all false
set_option maxRecDepth 100000
set_option maxHeartbeats 1000001
namespace L2.TT
open PySem PyProof.Rows PySem.Spec
section
variable {X : Cx} {π : Pm} {a b e : Expr} {f : M D} {pos p1 p2 apos cpos : Pos} {y : Str}
theorem tt_isNN (hf : TrP X π a f) {j pos'} : TrT X π (.Compare a [.IsNot] [.Constant .none j pos'] pos) (tv (op1 isNN f)) := .mk fun W tk σ Γ B H Q st sat => by
  refine wT_of (pt_cmp (pc_notN pe_w) rfl) ?_
  unfold TT.tv op1 at sat
  refine hf.run W tk σ Γ B H _ st (Sat.bd (k := fun x => TT.bd (opt (isNN x)) fun z => opt (tst z)) up_boolR (by
    unfold TT.bd at sat ⊢
    cases e : f Γ with
    | none => rw [e] at sat; exact sat
    | some r => rw [e] at sat; cases r <;> exact sat) fun x Γ1 v B1 H1 e1 nx rv sat1 => ?_)
  have hv := see_non rv
  refine ⟨_, rfl, ?_⟩
  rw [hv]
  cases x <;> exact Sat.here (rel := boolR) nx.st sat1 rfl
theorem Reps.rev {K : PySem.W.Frag} {B : Hp} : ∀ {vs : List V} {ds : List D}, Reps K B vs ds → Reps K B vs.reverse ds.reverse
  | _, _, .nil => .nil
  | _, _, .cons h t => by rw [List.reverse_cons, List.reverse_cons]; exact (Reps.rev t).append (.one h)
def revD : D → List D → Option (D × D)
  | .lst ds, [] => some (.lst ds.reverse, .non)
  | _, _ => none
theorem own_rev : OwnOp X "list" rReverse revD := fun B H p d ds vs d' z Q s bp ow rs e q => by
  unfold revD at e
  split at e
  · cases e
    cases rs
    obtain ⟨xs, hp, r⟩ := ow
    exact ⟨p, xs, rfl, rfl, hp, q _ (aft_upd s bp (by rw [hp]; exact fun z => nomatch z) ⟨_, upd_same, r.rev⟩) _ .non⟩
  · cases e
theorem tv_reverse (i : Nat) (hN : X.N[i]? = some y := by kernel_rfl) (hv : Vis X.env.scope y := by first | exact Or.inl rfl | exact Or.inr (Or.inl rfl) | exact Or.inr (Or.inr rfl)) (hd : (y == ("__debug__" : Str)) = false := by decide) (hcd : (y == ("__classdict__" : Str)) = false := by decide)
    (hbase : attributeBase (.Name y p2) "reverse" X.env (eval (.Name y p2) X.env) = eval (.Name y p2) X.env := by kernel_rfl) (hline : (apos.endLine == cpos.line) = true := by kernel_rfl) :
    TrV X π (.Call (.Attribute (.Name y p2) "reverse" apos) [] [] cpos) (tyM "list" i (ownM i revD (ret []))) :=
  tv_own0 i PySem.F.plainAttrs_list PySem.F.slot_list_reverse PySem.F.type_list_reverse mt_reverse own_rev hN hv hd hcd hbase hline
/-! isinstance of one of the program's own classes -/
def isO (x : Str) : D → Option D
  | .obj c _ _ => if c = x then some (.bl true) else none
  | .kl _ => none
  | _ => some (.bl false)
/-- an instance of the class at C tells its class -/
structure InsT (K : PySem.W.Frag) (C : Addr) : Prop where
  cl : Cls K C
  own : PySem.W.findIn K (.ref C) "__class__" = some (some (.builtin "object.__class__"))
  get : PySem.W.specialIn K (.builtin "object.__class__") "__get__" = some (some (.builtin "getset_descriptor.__get__"))
  takes : PySem.W.takesIn K (.builtin "object.__class__") = some true
  obj : PySem.W.mroIn K C (.type "object") = some true
theorem tr_isO {x : Str} (I : InsT X.K (He.ga X.K x)) (hf : TrP X π a f) (no : ∀ t ∈ ["NoneType", "bool", "int", "str", "list", "tuple", "dict"], PySem.W.kitOne X.K (.type t) (.ref (He.ga X.K x)) = some false) (mg : X.mg x = some (.ref (He.ga X.K x))) (gx : Gl X x) (dx : (x == ("__debug__" : Str)) = false) (hm : X.mg "isinstance" = none) (hg : Gl X "isinstance" := by rfl)
    (hst : starEach [a, .Name x p2] X.env = (false, eval a X.env) :: starEach [.Name x p2] X.env := by kernel_rfl) (hst2 : starEach [.Name x p2] X.env = (false, eval (.Name x p2) X.env) :: starEach [] X.env := by kernel_rfl) (hpl : (backTo pos (starEach [.Name x p2] X.env)).any (·.1) = false := by kernel_rfl) :
    TrF X π (.Call (.Name "isinstance" p1) [a, .Name x p2] [] pos) (op1 (isO x) f) := .mk fun W tk σ Γ B H Q st sat => by
  refine wE_of (pe_callB call_isY hg hm (by decide +kernel) (pa_cons pe_w (pa_cons (pe_glob (v := .ref (He.ga X.K x)) gx mg rfl dx) pa_nil hst2) hst) (he := hst) (hpl := hpl)) ?_
  refine hf.run W tk σ Γ B H _ st (sat.bd up_repR fun d Γ1 v B1 H1 e1 nx rv sat1 => ?_)
  obtain ⟨z, ez, q⟩ := sat1.opt nx.st
  have base : ∀ t : String, tyN d = some t → z = .bl false → rIsY X.K [v, .ref (He.ga X.K x)] H1 Q := fun t ht hz => by
    subst hz
    exact ⟨v, .ref (He.ga X.K x), .type t, .ref (He.ga X.K x), false, rfl, .own _, tyN_ty rv ht, no t (tyN_mem ht), q _ (.bl _)⟩
  cases d <;> simp only [isO] at ez <;> first | exact base _ rfl (Option.some.inj ez).symm | skip
  · cases ez
  · split at ez
    · rename_i c ns ds hc
      subst hc
      cases ez
      obtain ⟨p, dx', fs, rfl, h, _⟩ := rv
      exact ⟨.ref p, .ref (He.ga X.K c), .ref (He.ga X.K c), .ref (He.ga X.K c), true, rfl, .own _, .x (.base (.ins h I.cl I.own I.get I.takes I.obj)), by unfold PySem.W.kitOne; rw [if_pos (beq_self_eq_true _)], q _ (.bl _)⟩
    · cases ez
end
end L2.TT

set_option Elab.async false
set_option linter.all false
set_option maxRecDepth 100000
set_option maxHeartbeats 1000001
namespace L2.TT
open PySem PyProof.Rows PySem.Spec

/-! ### x in o, o an instance of the program's own class with a __contains__ -/
section
variable {K : PySem.W.Frag} {s : Shared} {x C f : Addr} {ox : Obj} {od : Option Obj} {E : Value → Shared → Prop}
theorem contains_fn {M : Model} {A : Around} {u : Value} {Q : Bool → Shared → Prop} (X : K.In s.heap) (I : PySem.W.InstAt s.heap x ox C od) (hs : PySem.W.findIn K (.ref C) "__contains__" = some (some (.ref f))) (hf : PySem.W.typeIn K (.ref f) = some (.type "function"))
    (h : wpAny M A (call (.ref f) [.ref x, u]) (fun r s₁ => ∃ b, r = .bool b ∧ Q b s₁) E s) : wpAny M A (contains (.ref x) u) Q E s := by
  unfold contains
  refine wpAny_holding ?_
  show wpAny M A (specialOf (.ref x) (Str.ofString "__contains__") >>= _) Q E s
  refine wpAny_bind (wpAny_bind (I.type.here ((PySem.W.looks_findIn X hs).here ?_)))
  refine wpAny_ite_false rfl ?_
  show wpAny M A (callSpecialUnlessNone? (.ref x) (Str.ofString "__contains__") [u] _ >>= _) Q E s
  unfold callSpecialUnlessNone?
  refine wpAny_bind (wpAny_bind (wpAny_bind (I.type.here ((PySem.W.looks_findIn X hs).here (wpAny_holding (wpAny_bind ((PySem.W.bind_fn X _ hf).here ?_)))))))
  refine wpAny_ite_false rfl ?_
  refine wpAny_bind (wpAny_mono h (fun r s' hr => ?_) fun _ _ z => z)
  obtain ⟨b, rfl, q⟩ := hr
  refine wpAny_pure ?_
  exact wpAny_truthy_bool q
end

/-- o.__contains__(x) is asked -/
def rConOwn (C : Addr) (sp : Sp) (g : Bool → Bool) : R2 := fun x y H Q => ∃ a dx fs, y = .ref a ∧ H a = some (.ins C dx fs) ∧ sp [y, x] H (fun z H' => ∃ b, z = .bl b ∧ Q (.bl (g b)) H') (fun _ _ _ => False)
section
variable {X : Cx} {k : Nat} {f C : Addr} {fd : FuncData} {ps : List Str} {sp : Sp}
theorem con_own {g : Bool → Bool} {pins : List (Addr × Obj)} {s : Shared} {σ : L2.St} {H : Hp} {x y : V} {v u : Value} {Q : VK} {R : Bool → Shared → Prop} (c : Cls X.K C) (hm : Meth X.K C "__contains__" f) (F : FnOk X.prog X.w X.K X.mg X.base (L2.CX X.prog X.w) k f fd ps sp) (hr : Room k X.A) (hb : Binds X.K fd ps []) (I : Inv X pins σ H s) (rx : RelV x v) (ry : RelV y u)
    (h : rConOwn C sp g x y H Q) (fin : ∀ b s', EP X pins σ Q (.bool (g b)) s' → R b s') : wpAny (model X.prog X.w) X.A (contains u v) R X.xe s := by
  obtain ⟨a, dx, fs, rfl, e, q⟩ := h
  cases (show (u : Value) = Value.ref a from ry)
  obtain ⟨mA, O, _, _, _, _⟩ := (ins_get I.hok e)
  obtain ⟨od, J, _⟩ := O.look
  refine contains_fn I.kIn J hm.at_ (beq_iff_eq.mp hm.fn) ?_
  refine wpAny_mono (run_fnS (E := fun _ => fun _ _ _ => False) (us := [.ref a, v]) (vs := [.ref a, x]) F hr hb (passAt takes0 σ) I (.cons rfl (.cons rx .nil)) q) (fun r s' z => ?_) fun _ _ z => z
  obtain ⟨w, H', I', rw', b, rfl, q'⟩ := z
  cases (show r = Value.bool b from rw')
  exact ⟨b, rfl, fin b s' ⟨.bl (g b), H', I', rfl, q'⟩⟩
theorem op_inOwn (c : Cls X.K C) (hm : Meth X.K C "__contains__" f) (F : FnOk X.prog X.w X.K X.mg X.base (L2.CX X.prog X.w) k f fd ps sp) (hr : Room k X.A) (hb : Binds X.K fd ps []) : OpR X (compareOp .In) (rConOwn C sp id) := by
  intro pins s σ H x y v u
  intro Q I rx ry h
  show wpAny _ _ (contains u v >>= _) _ _ _
  exact wpAny_bind (con_own c hm F hr hb I rx ry h fun b s' z => wpAny_pure z)
theorem op_notInOwn (c : Cls X.K C) (hm : Meth X.K C "__contains__" f) (F : FnOk X.prog X.w X.K X.mg X.base (L2.CX X.prog X.w) k f fd ps sp) (hr : Room k X.A) (hb : Binds X.K fd ps []) : OpR X (compareOp .NotIn) (rConOwn C sp not) := by
  intro pins s σ H x y v u
  intro Q I rx ry h
  show wpAny _ _ (contains u v >>= _) _ _ _
  exact wpAny_bind (con_own c hm F hr hb I rx ry h fun b s' z => wpAny_pure z)
end
/-- the answer of an own __contains__, read as a flag -/
def flgM (g : Bool → Bool) : Out → M D
  | .v (.bl b) false => ret (.bl (g b))
  | _ => fun _ => none
def isCl (x : Str) : D → Bool
  | .obj c _ _ => decide (c = x)
  | _ => false
def inOwnM (x : Str) (g : Bool → Bool) (F : List D → Option Out) (f h : M D) : M D := bd f fun d => bd h fun o => if isCl x o = true then bd (opt (F [o, d])) (flgM g) else fun _ => none
section
variable {X : Cx} {π : Pm} {k : Nat} {x : Str} {a b : Expr} {f h : M D} {pos : Pos} {F : List D → Option Out}
theorem own_core {g : Bool → Bool} (hf : TrF X π a f) (hg : TrF X π b h) (W : WX) (tk : Takes X W) (σ : L2.St) (Γ : List Sl) (B H : Hp) (Q : VK) (st : Stt X.K π B H σ Γ) (sat : Sat X.K π W σ Γ B H (repR X.K) (inOwnM x g F f h Γ) Q) : tOp (rConOwn (He.ga X.K x) (spF X.K 2 F) g) (wE X a) (wE X b) σ H Q := by
  refine hf.run W tk σ Γ B H _ st (sat.bd up_repR fun d Γ1 v B1 H1 e1 nx rv sat1 => ?_)
  refine hg.run W tk σ Γ1 B1 H1 _ nx.st (sat1.bd up_repR fun o Γ2 u B2 H2 e2 nx2 ru sat2 => ?_)
  split at sat2
  · rename_i hc
    cases o <;> simp only [isCl] at hc <;> first | (cases hc; done) | skip
    rename_i c' ns ds
    cases of_decide_eq_true hc
    cases ru with
    | @obj p dx ff _ _ _ hob en rs =>
      subst en
      cases hF : F [.obj x (ff.map (·.1)) ds, d] with
      | none => rw [hF] at sat2; exact sat2.false
      | some r =>
        rw [hF] at sat2
        have sat2 : Sat X.K π W σ Γ2 B2 H2 (repR X.K) (flgM g r Γ2) Q := sat2
        refine ⟨p, dx, ff, rfl, nx2.st.sub _ _ hob, B2, _, r, nx2.st.sub, .cons (.obj hob rfl rs) (.one (rv.mono nx2.bb)), rfl, hF, ?_⟩
        cases r with
        | e c fs => exact sat2.false
        | v z own =>
          cases own with
          | true => cases z <;> exact sat2.false
          | false =>
            cases z <;> first | exact sat2.false | skip
            intro w B' H' af rw'
            cases rw'
            exact ⟨_, rfl, sat2 _ B' H' ((Nx.refl nx2.st).grow af.bb af.hh af.sub af.fr) (.bl _)⟩
  · exact sat2.false
theorem tr_conOwn {op : CmpOp} {g : Bool → Bool} (ho : OpR X (compareOp op) (rConOwn (He.ga X.K x) (spF X.K 2 F) g)) (hf : TrF X π a f) (hg : TrF X π b h) (hm : behindInMarks op b = false) : TrF X π (.Compare a [op] [b] pos) (inOwnM x g F f h) := .mk fun W tk σ Γ B H Q st sat =>
  wE_of (pe_cmpR ho pe_w pe_w hm) (own_core hf hg W tk σ Γ B H Q st sat)
theorem tr_inOwn (G : MethOk X.prog X.w X.K X.mg X.base k x "__contains__" (spF X.K 2 F)) (hr : Room k X.A) (hf : TrF X π a f) (hg : TrF X π b h) (hm : behindInMarks .In b = false := by kernel_rfl) : TrF X π (.Compare a [.In] [b] pos) (inOwnM x id F f h) := by
  obtain ⟨f', fd, ps, Fn, c, hm', hb⟩ := G
  exact tr_conOwn (op_inOwn c hm' Fn hr hb) hf hg hm
theorem tr_notInOwn (G : MethOk X.prog X.w X.K X.mg X.base k x "__contains__" (spF X.K 2 F)) (hr : Room k X.A) (hf : TrF X π a f) (hg : TrF X π b h) (hm : behindInMarks .NotIn b = false := by kernel_rfl) : TrF X π (.Compare a [.NotIn] [b] pos) (inOwnM x not F f h) := by
  obtain ⟨f', fd, ps, Fn, c, hm', hb⟩ := G
  exact tr_conOwn (op_notInOwn c hm' Fn hr hb) hf hg hm
theorem tt_inOwn (G : MethOk X.prog X.w X.K X.mg X.base k x "__contains__" (spF X.K 2 F)) (hr : Room k X.A) (hf : TrF X π a f) (hg : TrF X π b h) (hm : behindInMarks .In b = false := by kernel_rfl) : TrT X π (.Compare a [.In] [b] pos) (tv (inOwnM x id F f h)) := by
  obtain ⟨f', fd, ps, Fn, c, hm', hb⟩ := G
  exact tt_cmp (op_inOwn c hm' Fn hr hb) hm (own_core hf hg)
theorem tt_notInOwn (G : MethOk X.prog X.w X.K X.mg X.base k x "__contains__" (spF X.K 2 F)) (hr : Room k X.A) (hf : TrF X π a f) (hg : TrF X π b h) (hm : behindInMarks .NotIn b = false := by kernel_rfl) : TrT X π (.Compare a [.NotIn] [b] pos) (tv (inOwnM x not F f h)) := by
  obtain ⟨f', fd, ps, Fn, c, hm', hb⟩ := G
  exact tt_cmp (op_notInOwn c hm' Fn hr hb) hm (own_core hf hg)
end

/-! ### x in a dict of ints and texts -/
def hasK (x y : D) : Option Bool := match y with
  | .dic ks ds => match toKey x with
    | some k => some (dlook ks ds k).isSome
    | none => if ks = [] then (tkD x).map fun _ => false else none
  | .dit ks ds => (tkD x).map fun k => (tlook ks ds k).isSome
  | _ => none
def inKD (x y : D) : Option D := (hasK x y).map .bl
def niKD (x y : D) : Option D := (hasK x y).map fun b => .bl (!b)
section
variable {X : Cx} {π : Pm} {k : Nat} {x : Str} {a b : Expr} {f h : M D} {pos : Pos}
/-- a tuple in an empty dict -/
def EmpT (H : Hp) (a : Addr) (y : V) : Prop := ∃ (b : Addr) (k : List Key), Rd H a (.dK []) ∧ y = .ref b ∧ H b = some (.tup (k.map kV))
theorem empT_dict {X : Cx} {pins : List (Addr × Obj)} {σ : L2.St} {H : Hp} {s : Shared} {a : Addr} (I : Inv X pins σ H s) (h : Rd H a (.dK [])) : (a == sysModules) = false ∧ s.heap.DictOfH (tupleKind (mixKind X.prog X.w)) a [] := by
  obtain ⟨z, lo, vs, rel, o, es, ep, ho, ex, dt, nd, pr, nn⟩ := dk_rd I.hok h
  cases rel
  have e0 : es.toList = [] := List.eq_nil_of_length_eq_zero (by simpa using pr.length)
  exact ⟨lo, o, es, ep, ho, ex, dt, e0, fun x hx => (by cases hx), List.nodup_nil⟩
def rDIn (g : Bool → Bool) : R2 := fun y x H Q => (∃ a o, x = .ref a ∧ DGet H a y o ∧ Q (.bl (g o.isSome)) H) ∨ ∃ a, x = .ref a ∧ EmpT H a y ∧ Q (.bl (g false)) H
theorem op_inDic (hu : X.A.units + 1 < cLine) : OpR X (compareOp .In) (rDIn id) := by
  intro pins s σ H x y v u
  intro Q I rx ry h
  rcases h with ⟨a, o, rfl, g, q⟩ | ⟨a, rfl, ⟨b, k, ha, rfl, hb⟩, q⟩
  · cases (show u = Value.ref a from ry)
    exact d_in hu I g rx fun s3 I3 => ⟨.bl o.isSome, H, I3, rfl, q⟩
  · cases (show u = Value.ref a from ry)
    cases (show v = Value.ref b from rx)
    obtain ⟨lo, dd⟩ := empT_dict I ha
    exact wpAny_in_heap (tupleKind_room_in1 hu) (key_of I.hok hb) lo dd ⟨.bl false, H, I.tok _, rfl, q⟩
theorem op_notInDic (hu : X.A.units + 1 < cLine) : OpR X (compareOp .NotIn) (rDIn not) := by
  intro pins s σ H x y v u
  intro Q I rx ry h
  rcases h with ⟨a, o, rfl, g, q⟩ | ⟨a, rfl, ⟨b, k, ha, rfl, hb⟩, q⟩
  · cases (show u = Value.ref a from ry)
    exact d_notIn hu I g rx fun s3 I3 => ⟨.bl (!o.isSome), H, I3, rfl, q⟩
  · cases (show u = Value.ref a from ry)
    cases (show v = Value.ref b from rx)
    obtain ⟨lo, dd⟩ := empT_dict I ha
    exact wpAny_notIn_heap (tupleKind_room_in1 hu) (key_of I.hok hb) lo dd ⟨.bl true, H, I.tok _, rfl, q⟩
theorem rd_inDic {g : Bool → Bool} : RdOp2 X (rDIn g) (fun x y => (hasK x y).map fun b => .bl (g b)) := fun B H x y v u z Q s rv ru e q => by
  replace e : (hasK x y).map (fun b => D.bl (g b)) = some z := e
  cases k : hasK x y with
  | none => rw [k] at e; cases e
  | some b =>
    rw [k] at e; cases e
    unfold hasK at k
    split at k
    · rename_i ks ds
      obtain ⟨p, kvs, rfl, h, e2, rs⟩ := ru
      subst e2
      cases hk : toKey x with
      | none =>
        rw [hk] at k
        simp only at k
        split at k
        · rename_i hn
          cases ht : tkD x with
          | none => rw [ht] at k; cases k
          | some kk =>
            rw [ht] at k; cases k
            have e0 : kvs = [] := List.map_eq_nil_iff.mp hn
            subst e0
            obtain ⟨b, rfl, hb⟩ := rep_tk rv ht
            exact .inr ⟨p, rfl, ⟨b, kk, h, rfl, s _ _ hb⟩, q _ (.bl _)⟩
        · cases k
      | some kk =>
        rw [hk] at k
        cases k
        obtain ⟨l1, l2⟩ := dlook_val (j := kk) rs
        refine .inl ⟨p, valV kvs kk, rfl, .inl ⟨kvs, kk, h, rep_key rv hk, rfl⟩, ?_⟩
        simp only at q
        cases l : dlook (kvs.map (·.1)) ds kk with
        | none => rw [l2 l]; rw [l] at q; exact q _ (.bl _)
        | some d =>
          obtain ⟨w, hw, _⟩ := l1 d l
          rw [hw]
          rw [l] at q
          exact q _ (.bl _)
    · rename_i ks ds
      obtain ⟨p, kvs, rfl, h, e2, rs⟩ := ru
      subst e2
      cases hk : tkD x with
      | none => rw [hk] at k; cases k
      | some kk =>
        rw [hk] at k
        cases k
        obtain ⟨l1, l2⟩ := tlook_val (j := kk) rs
        obtain ⟨b, rfl, hb⟩ := rep_tk rv hk
        refine .inl ⟨p, valV kvs kk, rfl, .inr ⟨kvs, kk, b, h, rfl, s _ _ hb, rfl⟩, ?_⟩
        simp only at q
        cases l : tlook (kvs.map (·.1)) ds kk with
        | none => rw [l2 l]; rw [l] at q; exact q _ (.bl _)
        | some d =>
          obtain ⟨w, hw, _⟩ := l1 d l
          rw [hw]
          rw [l] at q
          exact q _ (.bl _)
    · cases k
theorem tr_inDic (hr : Room k X.A) (hf : TrF X π a f) (hg : TrP X π b h) (hm : behindInMarks .In b = false := by kernel_rfl) : TrF X π (.Compare a [.In] [b] pos) (op2 inKD f h) :=
  tr_rd2 (o := inKD) hf hg (rd_inDic (g := id)) fun h1 h2 => pe_cmpR (op_inDic (by have := hr.un; omega)) h1 h2 hm
theorem tr_notInDic (hr : Room k X.A) (hf : TrF X π a f) (hg : TrP X π b h) (hm : behindInMarks .NotIn b = false := by kernel_rfl) : TrF X π (.Compare a [.NotIn] [b] pos) (op2 niKD f h) :=
  tr_rd2 (o := niKD) hf hg (rd_inDic (g := not)) fun h1 h2 => pe_cmpR (op_notInDic (by have := hr.un; omega)) h1 h2 hm
theorem tt_inDic (hr : Room k X.A) (hf : TrF X π a f) (hg : TrP X π b h) (hm : behindInMarks .In b = false := by kernel_rfl) : TrT X π (.Compare a [.In] [b] pos) (tv (op2 inKD f h)) := tt_rd2 (o := inKD) hf hg (rd_inDic (g := id)) (op_inDic (by have := hr.un; omega)) hm
theorem tt_notInDic (hr : Room k X.A) (hf : TrF X π a f) (hg : TrP X π b h) (hm : behindInMarks .NotIn b = false := by kernel_rfl) : TrT X π (.Compare a [.NotIn] [b] pos) (tv (op2 niKD f h)) := tt_rd2 (o := niKD) hf hg (rd_inDic (g := not)) (op_notInDic (by have := hr.un; omega)) hm
end
end L2.TT

set_option Elab.async false
set_option linter.all false
set_option maxRecDepth 100000
set_option maxHeartbeats 2000001
namespace L2.TT
open PySem PyProof.Rows PySem.Spec

/-! ### {elt for t0 in i0 if c0 for t1 in i1 if c1} -/
section
variable {P : Program} {w : World} {A : Around} {R : Result → Shared → Prop} {s : Shared} {elt t0 i0 t1 i1 : Expr} {c0 c1 : List Expr} {scope : Scope} {pos : Pos} {it acc : Value} {env : Env}
theorem set_inner (I : Nat → Shared → Prop) (turn : ∀ n s, I n s → Taken P w A (notedBy (model P w) A env fun e z => R (.error e) z) it t1 c1 env (fun z => R (.ok .next) z) (fun b z => if b = true then wpAny (model P w) A (eval elt env) (fun x z1 => wpAny (model P w) A (call (.builtin "set.add") [acc, x]) (fun _ z2 => ∃ m, m < n ∧ I m z2) (notedBy (model P w) A env fun e z => R (.error e) z) z1) (notedBy (model P w) A env fun e z => R (.error e) z) z else ∃ m, m < n ∧ I m z) s)
    (n : Nat) (h : I n s) : codeAny (model P w) A (.compLoop (.SetComp elt [⟨t0, i0, c0, 0⟩, ⟨t1, i1, c1, 0⟩] scope pos) 1 it acc env) R s := by
  refine codeAny_loop rfl I (fun n z hz => ?_) n h
  refine (wpAny_noted (env := env) (m := compTurn (.SetComp elt [⟨t0, i0, c0, 0⟩, ⟨t1, i1, c1, 0⟩] scope pos) 1 it acc env) ?_)
  refine wpAny_bind (m := standAt i1.pos) (wpAny_standAt (wpAny_bind (m := pyNext it) (wpAny_mono (turn n z hz) (fun r z0 a => ?_) fun _ _ e => e)))
  cases r with
  | none => exact wpAny_pure a
  | some v =>
    refine wpAny_bind (m := letOwnedTupleGo t1 it v) (wpAny_mono a (fun _ z1 a1 => wpAny_bind (m := assign t1 env v) (wpAny_mono a1 (fun _ z2 a2 => wpAny_bind (m := tstS c1 env) (wpAny_mono a2 (fun b z3 a3 => ?_) fun _ _ e => e)) fun _ _ e => e)) fun _ _ e => e)
    cases b with
    | false => exact wpAny_pure ⟨rfl, a3⟩
    | true =>
      refine wpAny_bind (wpAny_bind (m := eval elt env) (wpAny_mono a3 (fun x z4 a4 => wpAny_bind (m := standAt elt.pos) (wpAny_standAt (wpAny_bind (m := call (.builtin "set.add") [acc, x]) (wpAny_mono a4 (fun _ z5 a5 => ?_) fun _ _ e => e)))) fun _ _ e => e))
      exact wpAny_pure (wpAny_pure ⟨rfl, a5⟩)
theorem set_outer (fold : ∀ x, foldedSetIterable i1 env x = pure x) (I : Nat → Shared → Prop) (turn : ∀ n s, I n s → Taken P w A (notedBy (model P w) A env fun e z => R (.error e) z) it t0 c0 env (fun z => R (.ok .next) z) (fun b z => if b = true then wpAny (model P w) A (eval i1 env) (fun x z1 => wpAny (model P w) A (pyIter x) (fun jt z2 =>
        codeAny (model P w) A (.compStart (.SetComp elt [⟨t0, i0, c0, 0⟩, ⟨t1, i1, c1, 0⟩] scope pos) 1 jt acc env) (fun r z3 => match r with | .ok _ => ∃ m, m < n ∧ I m z3 | .error _ => False) z2) (notedBy (model P w) A env fun e z => R (.error e) z) z1) (notedBy (model P w) A env fun e z => R (.error e) z) z else ∃ m, m < n ∧ I m z) s)
    (n : Nat) (h : I n s) : codeAny (model P w) A (.compLoop (.SetComp elt [⟨t0, i0, c0, 0⟩, ⟨t1, i1, c1, 0⟩] scope pos) 0 it acc env) R s := by
  refine codeAny_loop rfl I (fun n z hz => ?_) n h
  refine (wpAny_noted (env := env) (m := compTurn (.SetComp elt [⟨t0, i0, c0, 0⟩, ⟨t1, i1, c1, 0⟩] scope pos) 0 it acc env) ?_)
  refine wpAny_bind (m := standAt i0.pos) (wpAny_standAt (wpAny_bind (m := pyNext it) (wpAny_mono (turn n z hz) (fun r z0 a => ?_) fun _ _ e => e)))
  cases r with
  | none => exact wpAny_pure a
  | some v =>
    refine wpAny_bind (m := letOwnedTupleGo t0 it v) (wpAny_mono a (fun _ z1 a1 => wpAny_bind (m := assign t0 env v) (wpAny_mono a1 (fun _ z2 a2 => wpAny_bind (m := tstS c0 env) (wpAny_mono a2 (fun b z3 a3 => ?_) fun _ _ e => e)) fun _ _ e => e)) fun _ _ e => e)
    cases b with
    | false => exact wpAny_pure ⟨rfl, a3⟩
    | true =>
      refine wpAny_bind (m := eval i1 env) (wpAny_mono a3 (fun x z4 a4 => wpAny_bind (m := standAt i1.pos) (wpAny_standAt (wpAny_bind (m := foldedSetIterable i1 env x) (wpAny_of_eq (fold x) (wpAny_bind (m := holding [x] (pyIter x)) (wpAny_holding (wpAny_mono a4 (fun jt z5 a5 => ?_) fun _ _ e => e))))))) fun _ _ e => e)
      refine wpAny_bind (m := runOwn _ env) (wpAny_runOwn ?_)
      rw [Around.mark_none]
      refine codeAny_mono a5 fun r z6 a6 => ?_
      cases r with
      | ok f => first | exact wpAny_pure ⟨rfl, a6⟩ | exact wpAny_bind (wpAny_pure (wpAny_pure ⟨rfl, a6⟩))
      | error e => exact a6.elim
theorem set_start1 (h0 : codeAny (model P w) A (.compLoop (.SetComp elt [⟨t0, i0, c0, 0⟩, ⟨t1, i1, c1, 0⟩] scope pos) 1 it acc env) R s)
    (h1 : wpAny (model P w) A (pyIter it) (fun jt z => codeAny (model P w) A (.compLoop (.SetComp elt [⟨t0, i0, c0, 0⟩, ⟨t1, i1, c1, 0⟩] scope pos) 1 jt acc env) R z) (notedBy (model P w) A env fun e z => R (.error e) z) s) :
    codeAny (model P w) A (.compStart (.SetComp elt [⟨t0, i0, c0, 0⟩, ⟨t1, i1, c1, 0⟩] scope pos) 1 it acc env) R s := by
  refine codeAny_of_tree (wpAny_notedAt (env := env) (pos := theWindowsPlace) (m := compStart (.SetComp elt [⟨t0, i0, c0, 0⟩, ⟨t1, i1, c1, 0⟩] scope pos) 1 it acc env) ?_)
  unfold compStart
  refine wpAny_bind (m := ask) (wpAny_askSetting (wpAny_ite ?_))
  have a : wpAny (model P w) A (pure (Fin.again (.compLoop (.SetComp elt [⟨t0, i0, c0, 0⟩, ⟨t1, i1, c1, 0⟩] scope pos) 1 it acc env)) : Sem Fin) (fun fin z => match fin with | .done f => R (.ok f) z | .again c => c.quiet = true ∧ codeAny (model P w) (A.under (.compStart (.SetComp elt [⟨t0, i0, c0, 0⟩, ⟨t1, i1, c1, 0⟩] scope pos) 1 it acc env)) c R z) (notedBy (model P w) A env fun e z => R (.error e) z) s := wpAny_pure ⟨rfl, h0⟩
  split
  · first | exact a | exact wpAny_bind (wpAny_pure a)
  · refine wpAny_bind (m := rule _) (wpAny_rule ?_)
    refine wpAny_bind (m := standAt i1.pos) (wpAny_standAt ?_)
    exact wpAny_bind (m := pyIter it) (wpAny_mono h1 (fun jt z q => wpAny_pure ⟨rfl, q⟩) fun _ _ e => e)
end

/-! the readings -/
section
variable {X : Cx}
theorem set_put {pins : List (Addr × Obj)} {σ : L2.St} {H : Hp} {s : Shared} {E : Value → Shared → Prop} {D : Addr} {S : Int → Bool} {n : Nat} {k : Int} {tk : Tok} {Q : Value → Shared → Prop} (inv : Inv X pins σ H s) (hD : H D = some (SetO X.w D S n)) (room : n + 1 < scanBound)
    (told : ∀ z, Inv X pins σ (upd H D (SetO X.w D (fun j => S j || decide (j = k)) (if S k = true then n else n + 1))) z → Q .none z) : wpAny (model X.prog X.w) X.A (call (.builtin "set.add") [.ref D, .int k tk]) Q E s :=
  setR_add (setO_get inv hD) room fun h' same new => by
    obtain ⟨o, _, _, _, ho, _⟩ := id new
    exact told _ (inv.write (e := D) (t' := s.toks + 1) (by rw [hD]; trivial) (.inl rfl) (fun b u hb hu => (same.2 b hb).trans hu) ⟨o, ho⟩ (setO_new new))
/-- the second clause, D the set that grows -/
def tIn (w : World) (wi : TI) (g : TG) (tt : TT) (te : TE) (vs : List Nat) (D : Addr) (On : Hp → Prop) : L2.St → Hp → Prop := fun σ H => wi σ H fun J H1 => ∃ W : Nat → Nat → Hp → Prop, (∃ m, W 0 m H1) ∧ ∀ j k H2, W j k H2 →
  (J.stop j H2 ∧ On H2) ∨ (J.go j H2 ∧ ∃ On1 : Hp → Prop, (∀ H', On1 H' → ∃ k', k' < k ∧ W (j + 1) k' H') ∧ ∀ x H', J.yld j H2 x H' → g x (wipe σ vs) H' fun σ3 H3 => wipe σ3 vs = wipe σ vs ∧ tt σ3 H3 fun b H4 =>
    if b = true then te σ3 H4 fun y H5 => ∃ (c : Int) (S : Int → Bool) (n : Nat), y = .int c ∧ H5 D = some (SetO w D S n) ∧ n + 1 < scanBound ∧ On1 (upd H5 D (SetO w D (fun j => S j || decide (j = c)) (if S c = true then n else n + 1))) else On1 H4)
def tSet2 (w : World) (wi : TI) (g : TG) (tt : TT) (wi1 : TI) (g1 : TG) (tt1 : TT) (te : TE) (vs vs1 : List Nat) : TE := fun σ H Q => wi σ H fun J H1 => ∀ D, H1 D = none → ∃ W : Nat → Nat → Hp → Prop, (∃ m, W 0 m (upd H1 D (SetO w D (fun _ => false) 0))) ∧ ∀ i m H2, W i m H2 →
  (J.stop i H2 ∧ Q (.ref D) H2) ∨ (J.go i H2 ∧ ∃ On : Hp → Prop, (∀ H', On H' → ∃ m', m' < m ∧ W (i + 1) m' H') ∧ ∀ x H', J.yld i H2 x H' → g x (wipe σ vs) H' fun σ2 H3 => wipe σ2 vs = wipe σ vs ∧ tt σ2 H3 fun b H4 => if b = true then tIn w wi1 g1 tt1 te vs1 D On σ2 H4 else On H4)
theorem set_in {pins : List (Addr × Obj)} {σ : L2.St} {H : Hp} {s : Shared} {fp : List Addr} {it D : Addr} {t0 i0 t1 i1 elt : Expr} {c0 c1 : List Expr} {scope : Scope} {pos : Pos} {tn : Nat → Heap → Prop} {J : It} {g : TG} {tt : TT} {te : TE} {vs : List Nat} {On : Hp → Prop} {W : Nat → Nat → Hp → Prop} {m : Nat}
    (calm : X.calm = true) (xf : X.xe = fun _ _ => False) (T : Turn X.prog X.w X.K t1 J fp it tn) (I : Inv X pins σ H s) (ft : ∀ b ∈ fp, FpOk X pins H b) (at_ : tn 0 s.heap) (pg : PG X t1 g) (pt : PTs X c1 tt) (pe : PE X elt te) (w0 : W 0 m H)
    (turn : ∀ j k H2, W j k H2 → (J.stop j H2 ∧ On H2) ∨ (J.go j H2 ∧ ∃ On1 : Hp → Prop, (∀ H', On1 H' → ∃ k', k' < k ∧ W (j + 1) k' H') ∧ ∀ x H', J.yld j H2 x H' → g x (wipe σ vs) H' fun σ3 H3 => wipe σ3 vs = wipe σ vs ∧ tt σ3 H3 fun b H4 =>
      if b = true then te σ3 H4 fun y H5 => ∃ (c : Int) (S : Int → Bool) (n : Nat), y = .int c ∧ H5 D = some (SetO X.w D S n) ∧ n + 1 < scanBound ∧ On1 (upd H5 D (SetO X.w D (fun j => S j || decide (j = c)) (if S c = true then n else n + 1))) else On1 H4)) :
    codeAny (model X.prog X.w) X.A (.compLoop (.SetComp elt [⟨t0, i0, c0, 0⟩, ⟨t1, i1, c1, 0⟩] scope pos) 1 (.ref it) (.ref D) X.env) (fun r z => match r with | .ok _ => ∃ H', Inv X pins (wipe σ vs) H' z ∧ On H' | .error _ => False) s := by
  refine set_inner (fun k z => ∃ j H', Inv X pins (wipe σ vs) H' z ∧ tn j z.heap ∧ (∀ b ∈ fp, H' b = none) ∧ W j k H') ?_ m ⟨0, H, I.weak (wipe_length _ _) (fun j v e => (wipe_some e).1), at_, fun b hb => (ft b hb).1, w0⟩
  rintro k z ⟨j, H1, I1, at1, none1, w1⟩
  rcases turn j k H1 w1 with ⟨ends, on⟩ | ⟨goes, On1, less, step⟩
  · exact turn_taken (g := g) (tt := tt) (wk := fun _ => True) (K := fun _ _ _ => True) calm xf T I1 (fun b hb => ⟨none1 b hb, (ft b hb).2⟩) at1 pg pt (.inl ⟨ends, fun z J1 => ⟨H1, J1, on⟩⟩)
  · refine turn_taken (g := g) (tt := tt) (wk := fun σ3 => wipe σ3 vs = wipe σ vs) (K := fun b σ3 H4 => if b = true then te σ3 H4 fun y H5 => ∃ (c : Int) (S : Int → Bool) (n : Nat), y = .int c ∧ H5 D = some (SetO X.w D S n) ∧ n + 1 < scanBound ∧ On1 (upd H5 D (SetO X.w D (fun j => S j || decide (j = c)) (if S c = true then n else n + 1))) else On1 H4)
      calm xf T I1 (fun b hb => ⟨none1 b hb, (ft b hb).2⟩) at1 pg pt (.inr ⟨goes, step, fun b σ3 h7 H4 z4 same at7 I4 q => ?_⟩)
    have back : ∀ {H' : Hp} {z : Shared}, Inv X (pins ++ pinsAt fp h7) σ3 H' z → On1 H' → ∃ k', k' < k ∧ ∃ j H', Inv X pins (wipe σ vs) H' z ∧ tn j z.heap ∧ (∀ b ∈ fp, H' b = none) ∧ W j k' H' := fun {H' z} J1 on1 => by
      obtain ⟨k', lt, w'⟩ := less H' on1
      obtain ⟨a, b⟩ := turn_kept T at7 J1
      exact ⟨k', lt, j + 1, H', J1.unpinned.weak (by rw [← same, wipe_length]) (fun l v e => by rw [← same] at e; exact (wipe_some e).1), a, b, w'⟩
    cases b with
    | false => exact back I4 q
    | true =>
      have a := pe.run _ z4 σ3 H4 _ I4 q
      rw [xf] at a
      refine thnF a fun v z5 ⟨y, H5, I5, rel, c, S, n, ey, hD, room, on1⟩ => ?_
      subst ey
      obtain ⟨t, et⟩ := (show ∃ t, v = Value.int c t from rel)
      subst et
      exact set_put I5 hD room fun z6 I6 => back I6 on1
theorem pe_set2 {elt tg iter tg1 iter1 : Expr} {ifs ifs1 : List Expr} {scope : Scope} {own : List (Str × Nat)} {vs1 : List Nat} {pos : Pos} {wi wi1 : TI} {g g1 : TG} {tt tt1 : TT} {te : TE} (calm : X.calm = true) (nd : X.N.Nodup) (walk : PI X tg iter wi) (blk : BlkOk X.N X.env.scope scope own) (inn : ∀ j ∈ vs1, j ∈ own.map (·.2))
    (pg : ∀ (z : Shared) (K : Hp) (C : Addr) (cl : List (Str × Addr)) (fp : List Addr), PG (X.blk z K scope (compEnvC scope cl C X.env) fp) tg g) (pt : ∀ (z : Shared) (K : Hp) (C : Addr) (cl : List (Str × Addr)) (fp : List Addr), PTs (X.blk z K scope (compEnvC scope cl C X.env) fp) ifs tt)
    (pi1 : ∀ (z : Shared) (K : Hp) (C : Addr) (cl : List (Str × Addr)) (fp : List Addr), PI (X.blk z K scope (compEnvC scope cl C X.env) fp) tg1 iter1 wi1) (pg1 : ∀ (z : Shared) (K : Hp) (C : Addr) (cl : List (Str × Addr)) (fp : List Addr), PG (X.blk z K scope (compEnvC scope cl C X.env) fp) tg1 g1)
    (pt1 : ∀ (z : Shared) (K : Hp) (C : Addr) (cl : List (Str × Addr)) (fp : List Addr), PTs (X.blk z K scope (compEnvC scope cl C X.env) fp) ifs1 tt1) (pe : ∀ (z : Shared) (K : Hp) (C : Addr) (cl : List (Str × Addr)) (fp : List Addr), PE (X.blk z K scope (compEnvC scope cl C X.env) fp) elt te)
    (fold : ∀ x, foldedSetIterable iter X.env x = pure x) (fold1 : ∀ env x, foldedSetIterable iter1 env x = pure x) : PE X (.SetComp elt [⟨tg, iter, ifs, 0⟩, ⟨tg1, iter1, ifs1, 0⟩] scope pos) (tSet2 X.w wi g tt wi1 g1 tt1 te (own.map (·.2)) vs1) := .mk fun pins s σ H Q inv want => by
  rw [PpSet.eval_SetComp]
  have outer : ∀ y ∈ scope.names, y.2 = .free → ∃ c, X.env.cells.lookup y.1 = some c := fun y hy e => (blk.free y hy e).elim (fun q => inv.ok.has _ (.inl q)) fun q => inv.ok.has _ (.inr q)
  refine wpAny_comprehension_free (use := none) rfl fold (closure_ok outer) blk.kind (fun y hy e => by rw [blk.uniq y hy, e]) (thn (walk.run pins s σ H _ inv want) fun _ z1 first => thn first fun _ z2 got => ?_)
  obtain ⟨it, fp, tn, J, H2, isIt, inv2, T, begun, foot2, rest⟩ := got
  subst isIt
  refine PpSet.newSet_ok (newEnv_comp ?_)
  generalize isD : z2.heap.objs.size = D
  have fresh : H2 D = none := inv2.hok.fresh (Nat.le_of_eq isD)
  obtain ⟨W, ⟨m0, w0⟩, turn⟩ := rest D fresh
  generalize isO : ({ cls := .type "set", dict := none, data := .set #[] 0 (.fresh 0 0 (!X.w.params.followText "set-order")) } : Obj) = ob
  generalize is3 : ({ z2 with heap := z2.heap.push ob } : Shared) = z3
  have heap3 : z3.heap = z2.heap.push ob := by rw [← is3]
  have atD : z3.heap.get? D = some ob := by
    rw [heap3, ← isD]; exact Heap.get?_push_size _ (by rw [← isO]; rfl)
  have inv3 : Inv X pins σ (upd H2 D (SetO X.w D (fun _ => false) 0)) z3 := by
    have isSet : SetR X.w z3.heap D (fun _ => false) 0 := by
      rw [heap3, ← isD, ← isO]; exact setR_fresh X.w
    have q := inv2.laid (t' := z2.toks) (o := SetO X.w D (fun _ => false) 0) (h' := z3.heap) (a := D) (fun b o e => by rw [heap3]; exact Heap.get?_push_of_some _ e) (Nat.le_of_eq isD) (setO_new isSet)
    rw [← is3] at q ⊢
    exact q
  have small : ∀ b ∈ fp, b < z2.heap.objs.size := fun b hb => (T.obj _ _ begun b hb).elim fun o q => Heap.lt_size q.1
  have foot3 : ∀ b ∈ fp, FpOk X pins (upd H2 D (SetO X.w D (fun _ => false) 0)) b ∧ b < z3.heap.objs.size := fun b hb => by
    refine ⟨⟨?_, (foot2 b hb).2⟩, by rw [heap3, Heap.size_push]; exact Nat.lt_succ_of_lt (small b hb)⟩
    rw [upd_ne (by rw [← isD]; exact Nat.ne_of_lt (small b hb))]
    exact (foot2 b hb).1
  have begun3 : tn 0 z3.heap := T.keep _ _ _ begun fun b _ o e => by rw [heap3]; exact Heap.get?_push_of_some _ e
  have inv4 := block_start inv3 blk nd foot3
  generalize isH : upd H2 D (SetO X.w D (fun _ => false) 0) = H3 at inv3 inv4 foot3 w0
  generalize isC : cellsFrom (z3.heap.objs.size + 1) scope.names (cloFrom X.env.cells scope.names []) = cl at inv4 ⊢
  have pgA := pg z3 H3 z3.heap.objs.size cl fp
  have ptA := pt z3 H3 z3.heap.objs.size cl fp
  have piA := pi1 z3 H3 z3.heap.objs.size cl fp
  have pgB := pg1 z3 H3 z3.heap.objs.size cl fp
  have ptB := pt1 z3 H3 z3.heap.objs.size cl fp
  have peB := pe z3 H3 z3.heap.objs.size cl fp
  show codeAny _ _ (.compStart (.SetComp elt [⟨tg, iter, ifs, 0⟩, ⟨tg1, iter1, ifs1, 0⟩] scope pos) 0 (.ref it) (.ref D) (compEnvC scope cl z3.heap.objs.size X.env)) (compPost (model X.prog X.w) X.A X.xe none (EP X pins σ Q) (.ref D) z3.heap.objs.size) { z3 with heap := pushCells (z3.heap.push { cls := .type "dict", data := .dict #[] }) scope.names }
  generalize isE : compEnvC scope cl z3.heap.objs.size X.env = ev at inv4 pgA ptA piA pgB ptB peB ⊢
  have ownE : ev.locals = z3.heap.objs.size := by rw [← isE]; rfl
  have begun4 : tn 0 (pushCells (z3.heap.push { cls := .type "dict", data := .dict #[] }) scope.names) := T.keep _ _ _ begun3 fun b _ o e => pushCells_keeps _ _ _ _ (Heap.get?_push_of_some _ e)
  generalize is4 : ({ z3 with heap := pushCells (z3.heap.push { cls := .type "dict", data := .dict #[] }) scope.names } : Shared) = z4 at inv4 ⊢
  replace begun4 : tn 0 z4.heap := by rw [← is4]; exact begun4
  have still : ∀ {σ' : L2.St} {H' : Hp} {z : Shared}, Inv (X.blk z3 H3 scope ev fp) [] σ' H' z → (∀ b ∈ fp, H' b = none) → ∀ b ∈ fp, FpOk (X.blk z3 H3 scope ev fp) [] H' b := fun {σ' H' z} iv n b hb =>
    ⟨n b hb, (iv.ok.exf b hb).1, iv.ok.exfs b hb, .inl hb, fun x c e => (iv.ok.exf b hb).2 x c e, fun p hp => (List.not_mem_nil (show p ∈ ([] : List (Addr × Obj)) from hp)).elim⟩
  have loop : codeAny (model X.prog X.w) X.A (.compLoop (.SetComp elt [⟨tg, iter, ifs, 0⟩, ⟨tg1, iter1, ifs1, 0⟩] scope pos) 0 (.ref it) (.ref D) ev) (compPost (model X.prog X.w) X.A X.xe none (EP X pins σ Q) (.ref D) z3.heap.objs.size) z4 := by
    refine set_outer (fold1 ev) (fun n z => ∃ i K, Inv (X.blk z3 H3 scope ev fp) [] (wipe σ (own.map (·.2))) K z ∧ tn i z.heap ∧ (∀ b ∈ fp, K b = none) ∧ W i n K) ?_ m0 ⟨0, H3, inv4, begun4, fun b hb => (foot3 b hb).1.1, w0⟩
    rintro n z5 ⟨i, H5, inv5, at5, none5, w5⟩
    rcases turn i n H5 w5 with ⟨ends, good⟩ | ⟨goes, On, less, step⟩
    · refine turn_taken (X := X.blk z3 H3 scope ev fp) (g := g) (tt := tt) (wk := fun _ => True) (K := fun _ _ _ => True) calm rfl T inv5 (still inv5 none5) at5 pgA ptA (.inl ⟨ends, fun z6 inv6 => ?_⟩)
      have inv7 : Inv X pins σ H5 z6 := inv3.call' (ch := fp) inv6.os inv6.base inv6.hok inv6.bare fun b hb => ⟨(foot3 b hb).1.2.2.2.1, (foot3 b hb).1.2.1, (foot3 b hb).1.2.2.2.2.1, (foot3 b hb).1.2.2.2.2.2⟩
      have noC : H5 z3.heap.objs.size = none := by
        rw [← ownE]; exact inv6.free
      obtain ⟨m, names, _⟩ := inv6.loc
      replace names : z6.heap.Ns ev.locals m := names
      rw [ownE] at names
      obtain ⟨f0, f1, f2, f3, f4, f5⟩ := inv3.fpOk (Nat.le_refl _) noC
      exact ⟨m, names, fun h'' sb => ⟨.ref D, H5, inv7.turned (t' := z6.toks) (fun b o hb e => (sb.2 b hb).trans e) f0 f1 f3 f4 f5, rfl, good⟩⟩
    · refine turn_taken (X := X.blk z3 H3 scope ev fp) (g := g) (tt := tt) (wk := fun σ2 => wipe σ2 (own.map (·.2)) = wipe σ (own.map (·.2))) (K := fun b σ2 H4 => if b = true then tIn X.w wi1 g1 tt1 te vs1 D On σ2 H4 else On H4)
        calm rfl T inv5 (still inv5 none5) at5 pgA ptA (.inr ⟨goes, step, fun b σ2 h7 H7 z7 same at7 inv7 q => ?_⟩)
      have back : ∀ {σ' : L2.St} {K : Hp} {z : Shared}, Inv (X.blk z3 H3 scope ev fp) ([] ++ pinsAt fp h7) σ' K z → σ'.length = σ2.length → (∀ (j : Nat) v, (wipe σ (own.map (·.2)))[j]? = some (some v) → σ'[j]? = some (some v)) → On K →
          ∃ m, m < n ∧ ∃ i K, Inv (X.blk z3 H3 scope ev fp) [] (wipe σ (own.map (·.2))) K z ∧ tn i z.heap ∧ (∀ b ∈ fp, K b = none) ∧ W i m K := fun {σ' K z} iv l kp on => by
        obtain ⟨m, lt, w'⟩ := less K on
        obtain ⟨a, b⟩ := turn_kept (X := X.blk z3 H3 scope ev fp) T at7 iv
        exact ⟨m, lt, i + 1, K, (iv.unpinned (pins := [])).weak (by rw [l, ← wipe_length σ2 (own.map (·.2)), same]) kp, a, b, w'⟩
      have keep2 : ∀ (j : Nat) v, (wipe σ (own.map (·.2)))[j]? = some (some v) → σ2[j]? = some (some v) ∧ j ∉ vs1 := fun j v e => by
        rw [← same] at e
        exact ⟨(wipe_some e).1, fun q => (wipe_some e).2 (inn j q)⟩
      cases b with
      | false => exact back inv7 rfl (fun j v e => (keep2 j v e).1) q
      | true =>
        refine thnF (piA.run _ z7 σ2 H7 _ inv7 q) fun _ z8 got8 => thnF got8 fun _ z9 got9 => ?_
        obtain ⟨it1, fp1, tn1, J1, H9, isIt1, inv9, T1, begun1, foot9, W1, ⟨m1, w1⟩, turn1⟩ := got9
        subst isIt1
        have loop1 := set_in (X := X.blk z3 H3 scope ev fp) (t0 := tg) (i0 := iter) (i1 := iter1) (c0 := ifs) (scope := scope) (pos := pos) calm rfl T1 inv9 foot9 begun1 pgB ptB peB w1 turn1
        have loop2 := codeAny_mono loop1 (R' := fun r z => match r with | .ok _ => ∃ m, m < n ∧ ∃ i K, Inv (X.blk z3 H3 scope ev fp) [] (wipe σ (own.map (·.2))) K z ∧ tn i z.heap ∧ (∀ b ∈ fp, K b = none) ∧ W i m K | .error _ => False) fun r z a => by
          cases r with
          | error e => exact a
          | ok f =>
            obtain ⟨K, iv, on⟩ := a
            exact back iv (wipe_length _ _) (fun j v e => by rw [wipe_out (keep2 j v e).2]; exact (keep2 j v e).1) on
        exact set_start1 loop2 (T1.self X.A 0 _ _ _ begun1 loop2)
  exact PpSet.codeAny_compStart_set loop (T.self X.A 0 _ _ _ begun4 loop)
end
end L2.TT

set_option Elab.async false
set_option linter.all false
set_option maxRecDepth 100000
set_option maxHeartbeats 2000001
namespace L2.TT
open PySem PyProof.Rows PySem.Spec

/-! ### sorted({elt for t0 in i0 if c0 for t1 in i1 if c1}), elt an int -/
def sInL (vs : List Nat) (gm : D → M Unit) (mt : M Bool) (me : M D) : List D → List Int → M (List Int)
  | [], acc => ret acc
  | d :: ds, acc => fun Γ => match gm d Γ with
    | some (.ok () Γ1) => match mt Γ1 with
      | some (.ok true Γ2) => match me Γ2 with
        | some (.ok (.int k) Γ3) => if acc.length < 60 then sInL vs gm mt me ds (if k ∈ acc then acc else k :: acc) (dropS vs Γ3) else none
        | _ => none
      | some (.ok false Γ2) => sInL vs gm mt me ds acc (dropS vs Γ2)
      | _ => none
    | _ => none
def sOutL (vs : List Nat) (gm : D → M Unit) (mt : M Bool) (vs1 : List Nat) (mi1 : M (List D)) (gm1 : D → M Unit) (mt1 : M Bool) (me : M D) : List D → List Int → M (List Int)
  | [], acc => ret acc
  | d :: ds, acc => fun Γ => match gm d Γ with
    | some (.ok () Γ1) => match mt Γ1 with
      | some (.ok true Γ2) => match mi1 Γ2 with
        | some (.ok es Γ3) => match sInL vs1 gm1 mt1 me es acc (dropS vs1 Γ3) with
          | some (.ok acc' Γ4) => sOutL vs gm mt vs1 mi1 gm1 mt1 me ds acc' (dropS vs Γ4)
          | _ => none
        | _ => none
      | some (.ok false Γ2) => sOutL vs gm mt vs1 mi1 gm1 mt1 me ds acc (dropS vs Γ2)
      | _ => none
    | _ => none
def sortSet2M (vs : List Nat) (mi : M (List D)) (gm : D → M Unit) (mt : M Bool) (vs1 : List Nat) (mi1 : M (List D)) (gm1 : D → M Unit) (mt1 : M Bool) (me : M D) : M (D × Bool) := bd mi fun ds => fun Γ => match sOutL vs gm mt vs1 mi1 gm1 mt1 me ds [] (dropS vs Γ) with
  | some (.ok acc Γ') => some (.ok (.lst ((acc.mergeSort leI).map .int), true) Γ')
  | _ => none
def iB (X : Cx) (scope : Scope) (tg iter : Expr) : TI := fun σ H R => ∀ (s0 : Shared) (H0 : Hp) (C : Addr) (cl : List (Str × Addr)) (fp : List Addr), wI (X.blk s0 H0 scope (compEnvC scope cl C X.env) fp) tg iter σ H R
/-- the set at p stands for acc -/
structure IsSet (w : World) (B H : Hp) (Γ : List Sl) (σ : L2.St) (p : Addr) (acc : List Int) : Prop where
  there : ∃ S : Int → Bool, H p = some (SetO w p S acc.length) ∧ ∀ k, S k = true ↔ k ∈ acc
  bare : B p = none
  free : ¬ OwnAt Γ σ p
  nd : acc.Nodup
theorem IsSet.kept {w : World} {K : PySem.W.Frag} {π : Pm} {σ σ' : L2.St} {Γ Γ' : List Sl} {B H B' H' : Hp} {p : Addr} {acc : List Int} (s : IsSet w B H Γ σ p acc) (nx : Nx K π σ Γ B H σ' Γ' B' H') : IsSet w B' H' Γ' σ' p acc := by
  obtain ⟨S, h, m⟩ := s.there
  obtain ⟨a, b, c⟩ := lst_kept nx h s.bare s.free
  exact ⟨⟨S, a, m⟩, b, c, s.nd⟩
section
variable {X : Cx} {π : Pm} {elt tg iter tg1 iter1 : Expr} {ifs ifs1 : List Expr} {scope : Scope} {own : List (Str × Nat)} {pos p1 p2 : Pos} {mi mi1 : M (List D)} {gm gm1 : D → M Unit} {mt mt1 : M Bool} {me : M D} {v1 v2 vs1 : List Nat}
theorem own_dropS {vs : List Nat} {Γ : List Sl} {σ τ : L2.St} {p : Addr} (ag : ∀ j, j ∉ vs → τ[j]? = σ[j]?) (h : OwnAt (dropS vs Γ) τ p) : OwnAt Γ σ p := by
  obtain ⟨j, d, hj, e⟩ := h
  rcases hj with hj | hj
  · rcases dropS_get _ _ _ _ hj with z | ⟨n, z⟩
    · cases z
    · exact ⟨j, d, .inl z, by rw [← ag j n]; exact e⟩
  · rcases dropS_get _ _ _ _ hj with z | ⟨n, z⟩
    · cases z
    · exact ⟨j, d, .inr z, by rw [← ag j n]; exact e⟩
theorem Nx.dropped {K : PySem.W.Frag} {σ0 σ τ : L2.St} {Γ0 Γ : List Sl} {B0 H0 B H : Hp} {vs : List Nat} (nx : Nx K π σ0 Γ0 B0 H0 σ Γ B H) (hl : τ.length = σ.length) (ag : ∀ j, j ∉ vs → τ[j]? = σ[j]?) : Nx K π σ0 Γ0 B0 H0 τ (dropS vs Γ) B H :=
  nx.less (by rw [dropS_len, nx.st.len, hl]) fun j x e nn => by
    rcases dropS_get _ _ _ _ e with z | ⟨z1, z2⟩
    · exact absurd z nn
    · exact ⟨z2, ag j z1⟩
theorem IsSet.dropped {w : World} {σ τ : L2.St} {Γ : List Sl} {B H : Hp} {p : Addr} {acc : List Int} {vs : List Nat} (s : IsSet w B H Γ σ p acc) (ag : ∀ j, j ∉ vs → τ[j]? = σ[j]?) : IsSet w B H (dropS vs Γ) τ p acc := ⟨s.there, s.bare, fun z => s.free (own_dropS ag z), s.nd⟩
theorem drop_no {vs : List Nat} {Γ : List Sl} (j : Nat) (x : Sl) (e : (dropS vs Γ)[j]? = some x) (nn : x ≠ .no) : j ∉ vs := by
  rcases dropS_get _ _ _ _ e with z | ⟨z1, _⟩
  · exact absurd z nn
  · exact z1
theorem isSet_put {w : World} {Γ : List Sl} {σ : L2.St} {B H : Hp} {p : Addr} {acc : List Int} (s : IsSet w B H Γ σ p acc) (k : Int) (l : acc.length < 60) : ∃ (S : Int → Bool), H p = some (SetO w p S acc.length) ∧ acc.length + 1 < scanBound ∧
    ∀ (B1 : Hp) (Γ1 : List Sl) (σ1 : L2.St), B1 p = none → ¬ OwnAt Γ1 σ1 p → IsSet w B1 (upd H p (SetO w p (fun j => S j || decide (j = k)) (if S k = true then acc.length else acc.length + 1))) Γ1 σ1 p (if k ∈ acc then acc else k :: acc) := by
  obtain ⟨S, h, m⟩ := s.there
  have big : 62 ≤ scanBound := by decide
  refine ⟨S, h, by omega, fun B1 Γ1 σ1 b1 f1 => ⟨⟨_, by
    have : (if S k = true then acc.length else acc.length + 1) = (if k ∈ acc then acc else k :: acc).length := by
      by_cases hk : k ∈ acc
      · rw [if_pos hk, if_pos ((m k).mpr hk)]
      · rw [if_neg hk, if_neg (fun z => hk ((m k).mp z))]; rfl
    rw [this, upd_same], fun j => ?_⟩, b1, f1, ?_⟩⟩
  · rw [Bool.or_eq_true, decide_eq_true_eq, m j]
    by_cases hk : k ∈ acc
    · rw [if_pos hk]
      exact ⟨fun z => z.elim id fun e => by rw [e]; exact hk, .inl⟩
    · rw [if_neg hk, List.mem_cons]
      exact or_comm
  · by_cases hk : k ∈ acc
    · rw [if_pos hk]; exact s.nd
    · rw [if_neg hk]; exact List.nodup_cons.mpr ⟨hk, s.nd⟩
theorem sInL_len {gm' : D → M Unit} {mt' : M Bool} {me' : M D} {vs : List Nat} : ∀ {ds : List D} {acc out : List Int} {Γ Γ' : List Sl}, sInL vs gm' mt' me' ds acc Γ = some (.ok out Γ') → acc.length < 62 → out.length < 62
  | [], acc, out, Γ, Γ', h, l => by cases h; exact l
  | d :: ds, acc, out, Γ, Γ', h, l => by
    simp only [sInL] at h
    split at h
    · split at h
      · split at h
        · split at h
          · refine sInL_len h ?_
            split
            · omega
            · rw [List.length_cons]; omega
          · cases h
        · cases h
      · exact sInL_len h l
      · cases h
    · cases h
theorem inSet {σ0 σ2 : L2.St} {Γ0 Γ4 ΓO : List Sl} {B0 H0 B4 H4 : Hp} {Ds : Addr} {J : It} {es : List D} {acc accO : List Int} {On : Hp → Prop} (hv2 : ∀ j ∈ v2, j ∈ vs1)
    (hg1 : ∀ (s0 : Shared) (H0 : Hp) (C : Addr) (cl : List (Str × Addr)) (fp : List Addr), TrG (X.blk s0 H0 scope (compEnvC scope cl C X.env) fp) π tg1 gm1 v2)
    (ht1 : ∀ (s0 : Shared) (H0 : Hp) (C : Addr) (cl : List (Str × Addr)) (fp : List Addr), TrTs (X.blk s0 H0 scope (compEnvC scope cl C X.env) fp) π ifs1 mt1)
    (he : ∀ (s0 : Shared) (H0 : Hp) (C : Addr) (cl : List (Str × Addr)) (fp : List Addr), TrF (X.blk s0 H0 scope (compEnvC scope cl C X.env) fp) π elt me)
    (rv : WalkR X.K B4 J es) (n2 : Nx X.K π σ0 Γ0 B0 H0 σ2 Γ4 B4 H4) (new : H0 Ds = none) (s4 : IsSet X.w B4 H4 Γ4 σ2 Ds acc) (kc : sInL vs1 gm1 mt1 me es acc (dropS vs1 Γ4) = some (.ok accO ΓO))
    (fin : ∀ B' H', Nx X.K π σ0 Γ0 B0 H0 (wipe σ2 vs1) ΓO B' H' → Same B4 B' → IsSet X.w B' H' ΓO (wipe σ2 vs1) Ds accO → On H') :
    ∃ W : Nat → Nat → Hp → Prop, (∃ m, W 0 m H4) ∧ ∀ j k H2, W j k H2 → (J.stop j H2 ∧ On H2) ∨ (J.go j H2 ∧ ∃ On1 : Hp → Prop, (∀ H', On1 H' → ∃ k', k' < k ∧ W (j + 1) k' H') ∧ ∀ x H', J.yld j H2 x H' → gB X scope tg1 x (wipe σ2 vs1) H' fun σ3 H3 => wipe σ3 vs1 = wipe σ2 vs1 ∧ tB2 X scope ifs1 σ3 H3 fun b H5 =>
      if b = true then eB X scope elt σ3 H5 fun y H6 => ∃ (c : Int) (S : Int → Bool) (n : Nat), y = .int c ∧ H6 Ds = some (SetO X.w Ds S n) ∧ n + 1 < scanBound ∧ On1 (upd H6 Ds (SetO X.w Ds (fun j => S j || decide (j = c)) (if S c = true then n else n + 1))) else On1 H5) := by
  have n0 : Nx X.K π σ0 Γ0 B0 H0 (wipe σ2 vs1) (dropS vs1 Γ4) B4 H4 := n2.dropped (wipe_length _ _) fun j hj => wipe_out hj
  refine ⟨fun j k Hj => k = es.length - j ∧ j ≤ es.length ∧ ∃ Γj Bj accj, Nx X.K π σ0 Γ0 B0 H0 (wipe σ2 vs1) Γj Bj Hj ∧ Same B4 Bj ∧ IsSet X.w Bj Hj Γj (wipe σ2 vs1) Ds accj ∧ (∀ (i : Nat) (x : Sl), Γj[i]? = some x → x ≠ .no → i ∉ vs1) ∧ sInL vs1 gm1 mt1 me (es.drop j) accj Γj = some (.ok accO ΓO),
    ⟨_, rfl, Nat.zero_le _, _, B4, acc, n0, Same.refl _, s4.dropped (fun j hj => wipe_out hj), fun i x e nn => drop_no i x e nn, kc⟩, ?_⟩
  rintro j k Hj ⟨rfl, hle, Γj, Bj, accj, nj, sBj, sj, dj, kj⟩
  obtain ⟨w1, w2⟩ := rv j Bj Hj sBj nj.st.sub
  by_cases hlt : j < es.length
  · right
    obtain ⟨g1, g2⟩ := w2 _ (List.getElem?_eq_getElem hlt)
    rw [List.drop_eq_getElem_cons hlt] at kj
    simp only [sInL] at kj
    refine ⟨g1, fun H' => ∃ Γ' B' acc', Nx X.K π σ0 Γ0 B0 H0 (wipe σ2 vs1) Γ' B' H' ∧ Same B4 B' ∧ IsSet X.w B' H' Γ' (wipe σ2 vs1) Ds acc' ∧ (∀ (i : Nat) (x : Sl), Γ'[i]? = some x → x ≠ .no → i ∉ vs1) ∧ sInL vs1 gm1 mt1 me (es.drop (j + 1)) acc' Γ' = some (.ok accO ΓO),
      fun H' ⟨Γ', B', acc', q⟩ => ⟨es.length - (j + 1), by omega, rfl, hlt, Γ', B', acc', q⟩, fun x H' y => ?_⟩
    obtain ⟨B2, s1, s2, s3, s4', rx⟩ := g2 x H' y
    have ni : Nx X.K π (wipe σ2 vs1) Γj Bj Hj (wipe σ2 vs1) Γj B2 H' := (Nx.refl nj.st).grow s1 s3 s2 s4'
    cases k1 : gm1 es[j] Γj with
    | none => rw [k1] at kj; cases kj
    | some r =>
      rw [k1] at kj
      cases r with
      | er c fs Γ5 => cases kj
      | ok u Γ5 =>
        cases u
        intro s0 H0 C cl fp
        refine (hg1 s0 H0 C cl fp).run _ _ _ _ _ _ Γ5 B2 H' x _ _ ni rx k1 fun σ3 n3 hl3 hk3 => ?_
        have ag : ∀ (i : Nat), i ∉ vs1 → (wipe σ2 vs1)[i]? = σ3[i]? := fun i hi => (hk3 i fun z => hi (hv2 i z)).symm
        have back : ∀ {Γ6 : List Sl} {B6 H6 : Hp}, Nx X.K π (wipe σ2 vs1) Γj Bj Hj σ3 Γ6 B6 H6 → Nx X.K π (wipe σ2 vs1) Γj Bj Hj (wipe σ2 vs1) (dropS vs1 Γ6) B6 H6 := fun n6 => n6.dropped hl3.symm ag
        refine ⟨by rw [wipe_eq (hl3.trans (wipe_length σ2 vs1)) (vs := vs1) fun i hi => (ag i hi).symm.trans (wipe_out hi)], ?_⟩
        intro s0 H0 C cl fp
        refine (ht1 s0 H0 C cl fp).run (fun _ _ _ _ => False) takes0 σ3 Γ5 B2 H' _ n3.st ?_
        simp only at kj
        cases k2 : mt1 Γ5 with
        | none => rw [k2] at kj; cases kj
        | some r =>
          rw [k2] at kj
          cases r with
          | er c fs Γ6 => cases kj
          | ok bb Γ6 =>
            intro b B6 H6 n6 rb
            cases rb
            have n36 := n3.trans n6
            cases bb with
            | false =>
              simp only at kj
              refine iteF ?_
              exact ⟨_, B6, accj, nj.trans (back n36), sBj.trans n36.bb, (sj.kept n36).dropped ag, fun i x e nn => drop_no i x e nn, kj⟩
            | true =>
              simp only at kj
              refine iteT ?_
              intro s0 H0 C cl fp
              refine (he s0 H0 C cl fp).run (fun _ _ _ _ => False) takes0 σ3 Γ6 B6 H6 _ n6.st ?_
              cases k3 : me Γ6 with
              | none => rw [k3] at kj; cases kj
              | some r =>
                rw [k3] at kj
                cases r with
                | er c fs Γ7 => cases kj
                | ok yd Γ7 =>
                  cases yd <;> first | (cases kj; done) | skip
                  rename_i c
                  simp only at kj
                  split at kj
                  · rename_i hac
                    intro yv B7 H7 n7 ry
                    cases ry
                    have n37 := n36.trans n7
                    have s7 := (sj.kept n37).dropped (vs := vs1) ag
                    obtain ⟨S, a1, a2, a3⟩ := isSet_put s7 c hac
                    refine ⟨c, S, accj.length, rfl, a1, a2, dropS vs1 Γ7, B7, _, ?_, sBj.trans n37.bb, a3 B7 _ _ s7.bare s7.free, fun i x e nn => drop_no i x e nn, kj⟩
                    exact (nj.trans (back n37)).setl new a1 s7.bare s7.free
                  · cases kj
  · left
    refine ⟨w1 (by omega), ?_⟩
    rw [List.drop_eq_nil_of_le (by omega)] at kj
    cases kj
    exact fin Bj Hj nj sBj sj
theorem tv_sortset2 (hc : X.calm = true) (hN : X.N.Nodup) (hi : TrI X π tg iter mi) (ok : BlkOk X.N X.env.scope scope own) (hv : ∀ j ∈ v1, j ∈ own.map (·.2)) (hv2 : ∀ j ∈ v2, j ∈ vs1) (hin : ∀ j ∈ vs1, j ∈ own.map (·.2))
    (hg : ∀ (s0 : Shared) (H0 : Hp) (C : Addr) (cl : List (Str × Addr)) (fp : List Addr), TrG (X.blk s0 H0 scope (compEnvC scope cl C X.env) fp) π tg gm v1)
    (ht : ∀ (s0 : Shared) (H0 : Hp) (C : Addr) (cl : List (Str × Addr)) (fp : List Addr), TrTs (X.blk s0 H0 scope (compEnvC scope cl C X.env) fp) π ifs mt)
    (hi1 : ∀ (s0 : Shared) (H0 : Hp) (C : Addr) (cl : List (Str × Addr)) (fp : List Addr), TrI (X.blk s0 H0 scope (compEnvC scope cl C X.env) fp) π tg1 iter1 mi1)
    (hg1 : ∀ (s0 : Shared) (H0 : Hp) (C : Addr) (cl : List (Str × Addr)) (fp : List Addr), TrG (X.blk s0 H0 scope (compEnvC scope cl C X.env) fp) π tg1 gm1 v2)
    (ht1 : ∀ (s0 : Shared) (H0 : Hp) (C : Addr) (cl : List (Str × Addr)) (fp : List Addr), TrTs (X.blk s0 H0 scope (compEnvC scope cl C X.env) fp) π ifs1 mt1)
    (he : ∀ (s0 : Shared) (H0 : Hp) (C : Addr) (cl : List (Str × Addr)) (fp : List Addr), TrF (X.blk s0 H0 scope (compEnvC scope cl C X.env) fp) π elt me) (hm : X.mg "sorted" = none) (hgl : Gl X "sorted" := by rfl) (hs : ∀ x, foldedSetIterable iter X.env x = pure x := by intro _; kernel_rfl) (hs1 : ∀ env x, foldedSetIterable iter1 env x = pure x := by intro _ _; kernel_rfl)
    (hst : starEach [.SetComp elt [⟨tg, iter, ifs, 0⟩, ⟨tg1, iter1, ifs1, 0⟩] scope pos] X.env = (false, eval (.SetComp elt [⟨tg, iter, ifs, 0⟩, ⟨tg1, iter1, ifs1, 0⟩] scope pos) X.env) :: starEach [] X.env := by kernel_rfl) (hpl : (backTo p2 (starEach [] X.env)).any (·.1) = false := by kernel_rfl) :
    TrV X π (.Call (.Name "sorted" p1) [.SetComp elt [⟨tg, iter, ifs, 0⟩, ⟨tg1, iter1, ifs1, 0⟩] scope pos] [] p2) (sortSet2M (own.map (·.2)) mi gm mt vs1 mi1 gm1 mt1 me) := .mk fun W tk σ Γ B H Q st sat => by
  refine wE_of (pe_callB (cr_sortedSet hc) hgl hm (by decide +kernel) (pa_cons (pe_set2 (vs1 := vs1) hc hN pi_w ok hin (g := gB X scope tg) (tt := tB2 X scope ifs) (wi1 := iB X scope tg1 iter1) (g1 := gB X scope tg1) (tt1 := tB2 X scope ifs1) (te := eB X scope elt) (fun s0 H0 C cl fp => ⟨fun pins s σ H v u Q I r h => h s0 H0 C cl fp pins s u I r⟩) (fun s0 H0 C cl fp => ⟨fun pins s σ H Q I h => h s0 H0 C cl fp pins s I⟩)
    (fun s0 H0 C cl fp => ⟨fun pins s σ H R I h => h s0 H0 C cl fp pins s I⟩) (fun s0 H0 C cl fp => ⟨fun pins s σ H v u Q I r h => h s0 H0 C cl fp pins s u I r⟩) (fun s0 H0 C cl fp => ⟨fun pins s σ H Q I h => h s0 H0 C cl fp pins s I⟩) (fun s0 H0 C cl fp => ⟨fun pins s σ H Q I h => h s0 H0 C cl fp pins s I⟩) hs hs1) pa_nil hst) (he := hst) (hpl := hpl)) ?_
  generalize hvs : own.map (·.2) = vs at sat hv hin ⊢
  refine hi.run W tk σ Γ B H _ st (sat.bd0 fun ds Γ1 J B1 H1 e1 nx rv sat1 => ?_)
  intro Dl hD
  have hD0 : H Dl = none := none_of nx.nd hD
  cases kc : sOutL vs gm mt vs1 mi1 gm1 mt1 me ds [] (dropS vs Γ1) with
  | none => simp only [kc] at sat1; exact sat1.false
  | some rr =>
    cases rr with
    | er c fs Γ' => simp only [kc] at sat1; exact sat1.false
    | ok out Γo =>
      simp only [kc] at sat1
      have nx1 : Nx X.K π σ Γ B H (wipe σ vs) (dropS vs Γ1) B1 H1 := nx.dropped (wipe_length _ _) fun j hj => wipe_out hj
      have nxD := nx1.trans (Nx.new (o := SetO X.w Dl (fun _ => false) 0) nx1.st hD)
      refine ⟨fun i m Hi => m = ds.length - i ∧ i ≤ ds.length ∧ ∃ (Γi : List Sl) (Bi : Hp) (acc : List Int), Nx X.K π σ Γ B H (wipe σ vs) Γi Bi Hi ∧ Same B1 Bi ∧ (∀ (j : Nat) (x : Sl), Γi[j]? = some x → x ≠ .no → j ∉ vs) ∧ IsSet X.w Bi Hi Γi (wipe σ vs) Dl acc ∧ acc.length < 62 ∧ sOutL vs gm mt vs1 mi1 gm1 mt1 me (ds.drop i) acc Γi = some (.ok out Γo),
        ⟨_, rfl, Nat.zero_le _, dropS vs Γ1, B1, [], nxD, Same.refl _, fun j x e nn => drop_no j x e nn, ⟨⟨_, upd_same, fun k => by simp⟩, nx1.st.sub.free hD, not_own_new nx1.st hD, List.nodup_nil⟩, by decide, kc⟩, ?_⟩
      rintro i m Hi ⟨rfl, hle, Γi, Bi, acc, nxi, sBi, dri, si, few, ki⟩
      obtain ⟨w1, w2⟩ := rv i Bi Hi sBi nxi.st.sub
      by_cases hlt : i < ds.length
      · right
        obtain ⟨g1, g2⟩ := w2 _ (List.getElem?_eq_getElem hlt)
        rw [List.drop_eq_getElem_cons hlt] at ki
        simp only [sOutL] at ki
        refine ⟨g1, fun H' => ∃ (Γ' : List Sl) (B' : Hp) (acc' : List Int), Nx X.K π σ Γ B H (wipe σ vs) Γ' B' H' ∧ Same B1 B' ∧ (∀ (j : Nat) (x : Sl), Γ'[j]? = some x → x ≠ .no → j ∉ vs) ∧ IsSet X.w B' H' Γ' (wipe σ vs) Dl acc' ∧ acc'.length < 62 ∧ sOutL vs gm mt vs1 mi1 gm1 mt1 me (ds.drop (i + 1)) acc' Γ' = some (.ok out Γo),
          fun H' ⟨Γ', B', acc', n⟩ => ⟨ds.length - (i + 1), by omega, rfl, hlt, Γ', B', acc', n⟩, fun x H' y => ?_⟩
        obtain ⟨B2, s1, s2, s3, s4, rx⟩ := g2 x H' y
        have ni : Nx X.K π (wipe σ vs) Γi Bi Hi (wipe σ vs) Γi B2 H' := (Nx.refl nxi.st).grow s1 s3 s2 s4
        cases k1 : gm ds[i] Γi with
        | none => rw [k1] at ki; cases ki
        | some r =>
          rw [k1] at ki
          cases r with
          | er c fs Γ2 => cases ki
          | ok u Γ2 =>
            cases u
            intro s0 H0 C cl fp
            refine (hg s0 H0 C cl fp).run _ _ _ _ _ _ Γ2 B2 H' x _ _ ni rx k1 fun σ2 n2 hl2 hk2 => ?_
            have ag : ∀ (j : Nat), j ∉ vs → (wipe σ vs)[j]? = σ2[j]? := fun j hj => (hk2 j fun z => hj (hv j z)).symm
            refine ⟨by rw [wipe_eq (hl2.trans (wipe_length σ vs)) (vs := vs) fun j hj => (ag j hj).symm.trans (wipe_out hj)], ?_⟩
            intro s0 H0 C cl fp
            refine (ht s0 H0 C cl fp).run (fun _ _ _ _ => False) takes0 σ2 Γ2 B2 H' _ n2.st ?_
            simp only at ki
            cases k2 : mt Γ2 with
            | none => rw [k2] at ki; cases ki
            | some r =>
              rw [k2] at ki
              cases r with
              | er c fs Γ3 => cases ki
              | ok bb Γ3 =>
                intro b B3 H3 n3 rb
                cases rb
                have n23 := n2.trans n3
                cases bb with
                | false =>
                  simp only at ki
                  refine iteF ?_
                  exact ⟨_, B3, acc, nxi.trans (n23.dropped hl2.symm ag), sBi.trans n23.bb, fun j x e nn => drop_no j x e nn, (si.kept n23).dropped ag, few, ki⟩
                | true =>
                  simp only at ki
                  refine iteT ?_
                  intro s0 H0 C cl fp
                  refine (hi1 s0 H0 C cl fp).run (fun _ _ _ _ => False) takes0 σ2 Γ3 B3 H3 _ n3.st ?_
                  cases k3 : mi1 Γ3 with
                  | none => rw [k3] at ki; cases ki
                  | some r =>
                    rw [k3] at ki
                    cases r with
                    | er c fs Γ4 => cases ki
                    | ok es Γ4 =>
                      intro J1 B4 H4 n4 rv1
                      have n24 := n23.trans n4
                      simp only at ki
                      cases k4 : sInL vs1 gm1 mt1 me es acc (dropS vs1 Γ4) with
                      | none => rw [k4] at ki; cases ki
                      | some r =>
                        rw [k4] at ki
                        cases r with
                        | er c fs Γ5 => cases ki
                        | ok acc5 Γ5 =>
                          simp only at ki
                          refine inSet hv2 hg1 ht1 he rv1 (nxi.trans n24) hD0 (si.kept n24) k4 fun B' H' n5 s5 set5 => ?_
                          have ag5 : ∀ (j : Nat), j ∉ vs → (wipe σ vs)[j]? = (wipe σ2 vs1)[j]? := fun j hj => by rw [wipe_out fun z => hj (hin j z)]; exact ag j hj
                          exact ⟨dropS vs Γ5, B', acc5, n5.dropped ((wipe_length σ2 vs1).trans hl2).symm ag5, (sBi.trans n24.bb).trans s5, fun j x e nn => drop_no j x e nn, set5.dropped ag5, sInL_len k4 few, ki⟩
      · left
        refine ⟨w1 (by omega), ?_⟩
        rw [List.drop_eq_nil_of_le (by omega)] at ki
        cases ki
        have nf : Nx X.K π σ Γ B H σ Γo Bi Hi := nxi.less (by rw [nxi.st.len, wipe_length]) fun j x e nn => ⟨e, (wipe_out (dri j x e nn)).symm⟩
        obtain ⟨S, a1, a2⟩ := si.there
        refine ⟨Dl, S, out.length, rfl, a1, by omega, fun ns p ris mem len fresh => ?_⟩
        have perm : ns.Perm out := (List.perm_ext_iff_of_nodup (ris.imp fun h => by omega) si.nd).mpr fun k => (mem k).trans (a2 k)
        have es : ns = out.mergeSort leI := sortI_is (ris.imp fun h => by omega) perm
        rw [es]
        exact sat1 _ Bi _ (Nx.new nf.st fresh |> nf.trans) ⟨p, rfl, none_of nf.nd fresh, nf.st.sub.free fresh, ⟨_, upd_same, reps_ints _⟩, not_own_new nf.st fresh⟩
end
end L2.TT

set_option Elab.async false
set_option linter.all false
set_option maxRecDepth 100000
set_option maxHeartbeats 1000001
namespace PySem
theorem enum_newB {v : Value} {o : Obj} {Hb : Heap → Prop} (B : Begins v o Hb) :
    Meets (Builtin.«enumerate.__new__» ⟨[.type "enumerate", v], []⟩) (fun _ R s => Hb s.heap ∧
      R (.ok (.ret (.ref (s.heap.push o).objs.size))) { s with heap := (s.heap.push o).push { cls := .type "enumerate", data := .fields #[.none, .bool false, .ref s.heap.objs.size, rawInt 0, .none, .none] } }) := .of_wp fun prog w A R z hz => by
  obtain ⟨hp, gens, drawn, toks, os⟩ := z
  obtain ⟨held, told⟩ := hz
  have isEnum := sub_enumerate
  have begun : ∀ {A' : Around} {E : Value → Shared → Prop} {Q : Value → Shared → Prop}, Q (.ref hp.objs.size) ⟨hp.push o, gens, drawn, toks, os⟩ → wpAny (model prog w) A' (pyIter v) Q E ⟨hp, gens, drawn, toks, os⟩ := fun q => B.iter prog w _ _ _ _ held q
  wp_walk using begun
  refine wpAny_stack_any (fun st => wpAny_pure ?_)
  split
  · rename_i c _ _ _ _ _
    cases (c == Value.type "enumerate") <;> (wp_walk using begun; exact ⟨_, rfl, told⟩)
  · wp_walk using begun
    exact ⟨_, rfl, told⟩
theorem enum_one {prog : Program} {w : World} {A : Around} {E : Value → Shared → Prop} {z : Shared} {v : Value} {o : Obj} {Hb : Heap → Prop} {Q : Value → Shared → Prop} (B : Begins v o Hb) (held : Hb z.heap)
    (told : ∀ h', IsEnum h' (z.heap.objs.size + 1) z.heap.objs.size 0 .none → h'.get? z.heap.objs.size = some o → (∀ b u, z.heap.get? b = some u → h'.get? b = some u) → Q (.ref (z.heap.objs.size + 1)) { z with heap := h' }) :
    wpAny (model prog w) A (call (.type "enumerate") [v]) Q E z := by
  refine callType_new F.called_enumerate (by decide) (F.typeCall_enumerate_1 _) (F.newCall_enumerate_1 _) (fun obj => F.args_object_init_2 obj _) F.entry_enumerate_new (enum_newB B) ⟨held, ?_⟩
  generalize eo : ({ cls := .type "enumerate", data := .fields #[.none, .bool false, .ref z.heap.objs.size, rawInt 0, .none, .none] } : Obj) = en
  have size : (z.heap.push o).objs.size = z.heap.objs.size + 1 := Heap.size_push _ _
  have at_ : ((z.heap.push o).push en).get? (z.heap.objs.size + 1) = some en := by
    rw [← size]; exact Heap.get?_push_size _ (by rw [← eo]; rfl)
  have keep : ∀ b u, z.heap.get? b = some u → ((z.heap.push o).push en).get? b = some u := fun b u e => Heap.get?_push_of_some _ (Heap.get?_push_of_some _ e)
  have at0 : ((z.heap.push o).push en).get? z.heap.objs.size = some o := Heap.get?_push_of_some _ (Heap.get?_push_size _ B.free)
  show _ ∧ _
  rw [size]
  subst eo
  exact ⟨⟨_, at_, rfl⟩, told _ at_ at0 keep⟩
theorem enum_doneT {prog : Program} {w : World} {A : Around} {E : Value → Shared → Prop} {z : Shared} {e it t : Addr} {i : Nat} {c : Int} {items : Array Value} {old : Value} {Q : Option Value → Shared → Prop} (calm : A.handled = none) (isE : IsEnum z.heap e it c old) (isI : z.heap.IsTupleIter it t i) (isT : z.heap.IsTuple t items) (over : items[i]? = none)
    (told : ∀ h', Heap.ExtBut it z.heap h' → Q none { z with heap := h' }) : wpAny (model prog w) A (pyNext (.ref e)) Q E z := by
  have ty : z.TypeIs (.ref e) "enumerate" := ⟨_, isE, rfl⟩
  unfold pyNext
  refine wpAny_bind (wpAny_attempt (wpAny_callSpecial?_slot (name := Str.ofString "__next__") ty F.slot_enumerate_next (wpAny_call_entry F.slot_enumerate_next ty F.entry_enumerate_next ?_ (F.args_enumerate_next_1 _))))
  refine wpAny_bind (m := field (.ref e) 2) (wpAny_field isE rfl (x := .ref it) rfl ?_)
  refine wpAny_bind (wpAny_nextOf_tuple_end calm isI isT over fun h' x ext ⟨o, at_, cls⟩ => ?_)
  exact wpAny_bind (wpAny_isInstance (T := "StopIteration") (b := true) ⟨o, at_, cls⟩ isSubtype_stop (wpAny_pure (told h' ext)))
end PySem
namespace L2.TT
open PySem PyProof.Rows PySem.Spec

/-! ### enumerate over a list or a tuple -/
theorem cls_ne {h : Heap} {a b : Addr} {o o' : Obj} (ha : h.get? a = some o) (hb : h.get? b = some o') (n : o.cls ≠ o'.cls) : a ≠ b := fun z => by
  subst z
  rw [ha] at hb
  cases hb
  exact n rfl
/-- what stands at turn i of enumerate over the tuple at a -/
structure EnT (e it a : Addr) (i : Nat) (h : Heap) : Prop where
  en : ∃ old, IsEnum h e it ((i : Nat) : Int) old
  ti : h.IsTupleIter it a i
def Iet (K : PySem.W.Frag) (a : Addr) : It where
  go := fun i H => ∃ (xs : List V) (x : V), SqT K H a xs ∧ xs[i]? = some x
  yld := fun i H v H' => ∃ T x, v = .ref T ∧ H T = none ∧ H' = upd H T (.tup [.int (i : Nat), x]) ∧ ∀ xs, SqT K H a xs → xs[i]? = some x
  stop := fun i H => ∃ xs : List V, SqT K H a xs ∧ xs.length ≤ i
section
variable {X : Cx} {pins : List (Addr × Obj)} {σ : L2.St} {H : Hp} {s : Shared} {e it a : Addr} {i : Nat}
theorem enT_ne {h : Heap} (t : EnT e it a i h) : e ≠ it := by
  obtain ⟨⟨old, he⟩, o, ho, c, _⟩ := t
  exact cls_ne he ho (by rw [c]; exact (by decide : Value.type "enumerate" ≠ .type "tuple_iterator"))
theorem enT_lt {h : Heap} (t : EnT e it a i h) : e < h.objs.size ∧ it < h.objs.size := by
  obtain ⟨⟨old, he⟩, o, ho, _⟩ := t
  exact ⟨Heap.lt_size he, Heap.lt_size ho⟩
theorem mem2 {b : Addr} : b ∈ [e, it] ↔ b = e ∨ b = it := by simp
theorem enT_item {elts : List Expr} {kk : Nat} {tpos : Pos} {E : Value → Shared → Prop} (calm : X.calm = true) (I : Inv X pins σ H s) (ft : ∀ b ∈ [e, it], FpOk X pins H b) (t : EnT e it a i s.heap) (go : (Iet X.K a).go i H) :
    wpAny (model X.prog X.w) X.A (pyNext (.ref e)) (fun r z => ∃ u, r = some u ∧ wpAny (model X.prog X.w) X.A (letOwnedTupleGo (.Tuple elts kk tpos) (.ref e) u) (fun _ z2 => ∃ x H', Inv X pins σ H' z2 ∧ RelV x u ∧ (Iet X.K a).yld i H x H' ∧ EnT e it a (i + 1) z2.heap ∧ ∀ b ∈ [e, it], H' b = none) E z) E s := by
  obtain ⟨xs, x, sq, hx⟩ := go
  obtain ⟨its, vals, isT, _⟩ := I.tuple sq
  obtain ⟨u, hu, ru⟩ := vals.get hx
  replace isT : s.heap.IsTuple a its.toArray := isT
  have ne := enT_ne t
  obtain ⟨lte, lti⟩ := enT_lt t
  obtain ⟨⟨old, he⟩, ti⟩ := t
  have nai : a ≠ it := by
    obtain ⟨o1, e1, c1, _⟩ := isT
    obtain ⟨o2, e2, c2, _⟩ := ti
    exact cls_ne e1 e2 (by rw [c1, c2]; decide)
  have nae : e ∉ [it, a] := by
    obtain ⟨o1, e1, c1, _⟩ := isT
    have q : e ≠ a := cls_ne he e1 (by rw [c1]; exact (by decide : Value.type "enumerate" ≠ .type "tuple"))
    simp [ne, q]
  have at_ : its.toArray[i]? = some u := by simpa using hu
  have lt : i < its.toArray.size := by
    rcases Nat.lt_or_ge i its.toArray.size with q | q
    · exact q
    · rw [Array.getElem?_eq_none q] at at_; cases at_
  refine wpAny_pyNext_enum_itemD (Draws.tuple (A := X.A.in1) (I.ok.hd calm) it a nai its.toArray) he ⟨ti, isT⟩ lt ne nae fun x' h1 tk px out ⟨ti1, _⟩ isP _ keep1 => ?_
  cases at_.symm.trans px
  refine ⟨_, rfl, wpAny_letOwnedTupleGo_enum (s := { s with heap := h1, toks := tk + 1 }) out fun h2 he2 same2 => ?_⟩
  have keep2 : ∀ b o, b ∉ [e, it] → s.heap.get? b = some o → h2.get? b = some o := fun b o nb q => by
    rw [mem2, not_or] at nb
    exact (same2.2 b nb.1).trans (keep1 b o nb.1 nb.2 q)
  have isP2 := (same2.2 _ (Nat.ne_of_gt lte)).trans isP
  generalize eP : s.heap.objs.size = T at isP2 ⊢
  have new : ObjOk X.prog X.w (upd H T (.tup [.int (i : Nat), x])) h2 T (.tup [.int (i : Nat), x]) := ⟨by show 2 ≤ sizeLine; decide, [.int i tk, u], .cons ⟨_, rfl⟩ (.cons ru .nil), _, isP2, rfl, _, rfl⟩
  have I2 : Inv X pins σ (upd H T (.tup [.int (i : Nat), x])) { s with heap := h2, toks := tk + 1 } := I.turnedNew (ch := [e, it]) (fun b o nb q => keep2 b o nb q) ft (Nat.le_of_eq eP) new
  have freeT : H T = none := I.hok.fresh (Nat.le_of_eq eP)
  refine ⟨.ref T, _, I2, rfl, ⟨T, x, rfl, freeT, rfl, fun ys hy => by rw [I.tuple_inj hy sq]; exact hx⟩, ⟨⟨u, ?_⟩, ti1.at fun o q => (same2.2 it ne.symm).trans q⟩, fun b hb => ?_⟩
  · have one : ((i + 1 : Nat) : Int) = (i : Int) + 1 := Int.natCast_succ i
    rw [one]; exact he2
  · have ltb : b < T := by
      rw [← eP]
      rcases mem2.mp hb with z | z
      · rw [z]; exact lte
      · rw [z]; exact lti
    rw [upd_ne (Nat.ne_of_lt ltb)]
    exact (ft b hb).1
theorem turn_enT {P : Program} {w : World} {K : PySem.W.Frag} {elts : List Expr} {kk : Nat} {tpos : Pos} (e it a : Addr) : Turn P w K (.Tuple elts kk tpos) (Iet K a) [e, it] e (EnT e it a) where
  mem := mem2.mpr (.inl rfl)
  obj := fun i h t b hb => by
    obtain ⟨⟨old, he⟩, o, ho, _, hd⟩ := t
    rcases mem2.mp hb with z | z
    · rw [z]; exact ⟨_, he, fun v q => by cases q⟩
    · rw [z]
      exact ⟨o, ho, fun v q => by (rw [hd] at q; cases q)⟩
  keep := fun i h h' t k => by
    obtain ⟨⟨old, he⟩, ti⟩ := t
    exact ⟨⟨old, k e (mem2.mpr (.inl rfl)) _ he⟩, ti.at fun o q => k it (mem2.mpr (.inr rfl)) o q⟩
  item := fun X eP ew eK calm i pins s σ H E I ft t go => by
    subst eP ew eK
    exact enT_item calm I ft t go
  done := fun X eP ew eK calm i pins s σ H E I ft t stop => by
    subst eP ew eK
    obtain ⟨xs, sq, over⟩ := stop
    obtain ⟨its, vals, isT, _⟩ := I.tuple sq
    obtain ⟨⟨old, he⟩, ti⟩ := t
    have f := ft it (mem2.mpr (.inr rfl))
    have len := vals.length
    exact enum_doneT (I.ok.hd calm) he ti (show s.heap.IsTuple a its.toArray from isT) (by simp; omega) fun h' ext => ⟨rfl, I.turned (t' := s.toks) (fun b o nb q => ext b o nb q) f.1 f.2.1 f.2.2.2.1 f.2.2.2.2.1 f.2.2.2.2.2⟩
  self := fun A i s Q E t h => by
    obtain ⟨⟨old, he⟩, _⟩ := t
    exact wpAny_pyIter_enum he h
/-- the enumerate object is made over what begins so -/
theorem enum_start {tg : Expr} {v : Value} {o : Obj} {Hb : Heap → Prop} {J : It} {R : It → Hp → Prop} {tn : Addr → Addr → Nat → Heap → Prop} (I : Inv X pins σ H s) (B : Begins v o Hb) (held : Hb s.heap) (T : ∀ e it, Turn X.prog X.w X.K tg J [e, it] e (tn e it)) (t0 : ∀ h e it, IsEnum h e it 0 .none → h.get? it = some o → e ≠ it → tn e it 0 h) (q : R J H) :
    wpAny (model X.prog X.w) X.A (call (.type "enumerate") [v]) (fun u z => wpAny (model X.prog X.w) X.A (pyIter u) (PIE X pins σ tg R) X.xe z) X.xe s := by
  refine enum_one B held fun h' he hi keep => wpAny_pyIter_enum he ?_
  have I2 : Inv X pins σ H { s with heap := h' } := I.kept (t' := s.toks) keep
  refine ⟨_, [s.heap.objs.size + 1, s.heap.objs.size], tn _ _, J, H, rfl, I2, T _ _, t0 _ _ _ he hi (Nat.succ_ne_self _), fun b hb => ?_, q⟩
  have young : s.heap.objs.size ≤ b := by
    rcases mem2.mp hb with z | z
    · rw [z]; exact Nat.le_succ _
    · rw [z]; exact Nat.le_refl _
  exact I.fpOk young (I.hok.fresh young)
end
def iEnumQ (K : PySem.W.Frag) (ta : TA) : TI := fun σ H R => ta σ H fun vs H1 => (∃ a xs, vs = [.ref a] ∧ SqL K H1 a xs ∧ R (Ite K a) H1) ∨ ∃ a xs, vs = [.ref a] ∧ SqT K H1 a xs ∧ R (Iet K a) H1
theorem pi_enumQ {X : Cx} {e : Expr} {ta : TA} {p pos tpos : Pos} {elts : List Expr} {kk : Nat} (hg : Gl X "enumerate") (hm : X.mg "enumerate" = none) (ha : PA X [e] ta) (hs : starEach [e] X.env = [(false, eval e X.env)]) : PI X (.Tuple elts kk tpos) (.Call (.Name "enumerate" p) [e] [] pos) (iEnumQ X.K ta) := .mk fun pins s σ H R I want => by
  refine Call_ (ld_blt I hg hm boot_enumerate (PyProof.Rows.callWith_type1 (thn (ha.run pos pins s σ H _ I want) fun us z ⟨vs, H1, I1, rel, q⟩ => ?_) hs rfl))
  have one : ∀ {a : Addr}, vs = [.ref a] → us = [.ref a] := fun {a} ev => by
    subst ev
    exact Vals.ref1 rel
  rcases q with ⟨a, xs, ev, sq, q⟩ | ⟨a, xs, ev, sq, q⟩
  · rw [one ev]
    obtain ⟨its, _, isL, _⟩ := I1.list sq
    exact enum_start I1 (begins_list a its.toArray) isL.isList (T := fun e it => turn_enum a e it) (fun h e it h1 h2 h3 => ⟨⟨.none, h1⟩, ⟨_, h2, rfl, rfl⟩, h3⟩) q
  · rw [one ev]
    obtain ⟨its, _, isT, _⟩ := I1.tuple sq
    exact enum_start I1 (begins_tuple a its.toArray) isT (T := fun e it => turn_enT e it a) (fun h e it h1 h2 _ => ⟨⟨.none, h1⟩, _, h2, rfl, rfl⟩) q
def enumL (ds : List D) : List D := ds.zipIdx.map fun p => .tup [.int (p.2 : Nat), p.1]
theorem enumL_get {ds : List D} {i : Nat} {d : D} (h : (enumL ds)[i]? = some d) : ∃ x, ds[i]? = some x ∧ d = D.tup [.int (i : Nat), x] := by
  unfold enumL at h
  rw [List.getElem?_map, List.getElem?_zipIdx] at h
  cases e : ds[i]? with
  | none => rw [e] at h; simp at h
  | some x => rw [e] at h; cases h; exact ⟨x, rfl, by simp⟩
theorem enumL_len {ds : List D} : (enumL ds).length = ds.length := by simp [enumL]
section
variable {K : PySem.W.Frag} {B : Hp}
theorem walk_new {J : It} {ds es : List D} {xs : List V} (r : Reps K B xs ds) (hl : es.length = ds.length) (he : ∀ (i : Nat) (d : D), es[i]? = some d → ∃ x : D, ds[i]? = some x ∧ d = D.tup [.int (i : Nat), x])
    (stop : ∀ i H', Same B H' → xs.length ≤ i → J.stop i H') (go : ∀ i H' x, Same B H' → xs[i]? = some x → J.go i H') (yld : ∀ i H' v H'', Same B H' → J.yld i H' v H'' → ∃ T x, v = .ref T ∧ H' T = none ∧ H'' = upd H' T (.tup [.int (i : Nat), x]) ∧ xs[i]? = some x) : WalkR K B J es := by
  intro i B' H' s t
  refine ⟨fun l => stop i H' (s.trans t) (by rw [r.length, ← hl]; exact l), fun d hd => ?_⟩
  obtain ⟨x, hx, rfl⟩ := he i d hd
  obtain ⟨v, hv, rv⟩ := r.get hx
  refine ⟨go i H' v (s.trans t) hv, fun y H'' hy => ?_⟩
  obtain ⟨T, x', rfl, hT, rfl, hx'⟩ := yld i H' y H'' (s.trans t) hy
  rw [hv] at hx'; cases hx'
  have bT : B' T = none := t.free hT
  have grown : Same B' (upd B' T (.tup [.int (i : Nat), v])) := fun a u z => by rw [upd_ne (ne_of_none z bT)]; exact z
  refine ⟨_, grown, fun a u z => ?_, fun a u z => by rw [upd_ne (ne_of_none z hT)]; exact z, fun a n b => ?_, .tup upd_same (.cons (.int _) (.one (rv.mono (s.trans grown))))⟩
  · by_cases q : a = T
    · subst q; rw [upd_same] at z ⊢; exact z
    · rw [upd_ne q] at z ⊢; exact t _ _ z
  · obtain ⟨o, n, _⟩ := n
    rw [upd_ne (ne_of_none n hT)]; exact b
end
section
variable {X : Cx} {π : Pm} {a : Expr} {f : M D} {pos p1 tpos : Pos} {elts : List Expr} {kk : Nat}
def enumD : D → Option (List D)
  | .lst ds => some (enumL ds)
  | .tup ds => some (enumL ds)
  | _ => none
def enumM (f : M D) : M (List D) := bd f fun x => opt (enumD x)
theorem ti_enum (hf : TrF X π a f) (hm : X.mg "enumerate" = none) (hg : Gl X "enumerate" := by rfl) (hst : starEach [a] X.env = (false, eval a X.env) :: starEach [] X.env := by kernel_rfl) (hs : starEach [a] X.env = [(false, eval a X.env)] := by kernel_rfl) : TrI X π (.Tuple elts kk tpos) (.Call (.Name "enumerate" p1) [a] [] pos) (enumM f) := .mk fun W tk σ Γ B H R st sat => by
  refine wI_of (pi_enumQ hg hm (pa_cons pe_w pa_nil hst) hs) ?_
  refine hf.run W tk σ Γ B H _ st (sat.bd up_walkR fun x Γ1 v B1 H1 e1 nx rv sat1 => ?_)
  cases rv <;> simp only [enumD] at sat1 <;> first | exact (show False from sat1).elim | skip
  · rename_i p xs ds hs rs
    refine .inl ⟨p, xs, rfl, SqL.of (nx.st.sub _ _ hs), sat1 _ B1 H1 (Nx.refl nx.st) (walk_new rs enumL_len (fun i d h => enumL_get h) (fun i H' s l => ⟨xs, SqL.of (s _ _ hs), l⟩) (fun i H' x s hx => ⟨xs, x, SqL.of (s _ _ hs), hx⟩) ?_)⟩
    rintro i H' v H'' s ⟨T, x, rfl, hT, rfl, q⟩
    exact ⟨T, x, rfl, hT, rfl, q xs (SqL.of (s _ _ hs))⟩
  · rename_i p xs ds hs rs
    refine .inr ⟨p, xs, rfl, SqT.of (nx.st.sub _ _ hs), sat1 _ B1 H1 (Nx.refl nx.st) (walk_new rs enumL_len (fun i d h => enumL_get h) (fun i H' s l => ⟨xs, SqT.of (s _ _ hs), l⟩) (fun i H' x s hx => ⟨xs, x, SqT.of (s _ _ hs), hx⟩) ?_)⟩
    rintro i H' v H'' s ⟨T, x, rfl, hT, rfl, q⟩
    exact ⟨T, x, rfl, hT, rfl, q xs (SqT.of (s _ _ hs))⟩
end
end L2.TT

set_option Elab.async false
set_option linter.all false
set_option maxRecDepth 100000
set_option maxHeartbeats 1000001
namespace L2.TT
open PySem PyProof.Rows PySem.Spec

/-! ### a list times an int -/
def repD (x y : D) : Option D := match x, y with
  | .lst ds, .int k => if 0 ≤ k ∧ k ≤ 1000 ∧ ds.length ≤ 1000 then some (.lst (List.replicate k.toNat ds).flatten) else none
  | _, _ => none
def repM (f g : M D) : M (D × Bool) := bd f fun x => bd g fun y => bd (opt (repD x y)) fun z => ret (z, true)
theorem Reps.times {K : PySem.W.Frag} {B : Hp} {vs : List V} {ds : List D} (r : Reps K B vs ds) : ∀ n : Nat, Reps K B (List.replicate n vs).flatten (List.replicate n ds).flatten
  | 0 => .nil
  | n + 1 => by
    rw [List.replicate_succ, List.replicate_succ]
    rw [List.flatten_cons, List.flatten_cons]
    exact r.append (Reps.times r n)
section
variable {X : Cx} {π : Pm} {a b : Expr} {f g : M D} {pos : Pos}
theorem tv_rep (hf : TrF X π a f) (hg : TrF X π b g) : TrV X π (.BinOp a .Mult b pos) (repM f g) := .mk fun W tk σ Γ B H Q st sat => by
  refine wE_of (pe_op op_rep pe_w pe_w) ?_
  refine hf.run W tk σ Γ B H _ st (sat.bd up_valR fun x Γ1 v B1 H1 e1 nx rv sat1 => ?_)
  refine hg.run W tk σ Γ1 B1 H1 _ nx.st (sat1.bd up_valR fun y Γ2 u B2 H2 e2 nx2 ru sat2 => ?_)
  cases e : repD x y with
  | none => rw [e] at sat2; exact sat2.false
  | some z =>
    rw [e] at sat2
    have sat2 : Sat X.K π W σ Γ2 B2 H2 (valR X.K) (ret (z, true) Γ2) Q := sat2
    cases x <;> simp only [repD] at e <;> first | (cases e; done) | skip
    rename_i ds
    cases y <;> simp only at e <;> first | (cases e; done) | skip
    rename_i k
    split at e
    · rename_i hk
      cases e
      cases ru
      have rv2 := rv.mono nx2.bb
      cases rv2 with
      | @lst p xs _ h r =>
        refine ⟨p, k, xs, rfl, rfl, nx2.st.sub _ _ h, by omega, by omega, ?_, fun q hq => ?_⟩
        · rw [r.length, sizeLine_eq]
          have h1 : k.toNat ≤ 1000 := by omega
          calc ds.length * k.toNat ≤ 1000 * 1000 := Nat.mul_le_mul hk.2.2 h1
            _ ≤ _ := by decide
        · have nl := Nx.new (o := .lst (List.replicate k.toNat xs).flatten) nx2.st hq
          exact sat2 _ _ _ nl ⟨q, rfl, hq, nx2.st.sub.free hq, ⟨_, upd_same, r.times k.toNat⟩, not_own_new nx2.st hq⟩
    · cases e
end
end L2.TT

set_option Elab.async false
set_option linter.all false
set_option maxRecDepth 100000
set_option maxHeartbeats 1000001
namespace L2.TT
open PySem PyProof.Rows PySem.Spec

/-! ### operators that may lay something new -/
theorem Sat.optL {K : PySem.W.Frag} {π : Pm} {W : WX} {σ : L2.St} {Γ : List Sl} {B H : Hp} {o : Option D} {Q : VK} (st : Stt K π B H σ Γ) (h : Sat K π W σ Γ B H (repR K) (TT.opt o Γ) Q) :
    ∃ z, o = some z ∧ (∀ w, Rep K B w z → Q w H) ∧ ∀ p u, H p = none → Rep K (upd B p u) (.ref p) z → Q (.ref p) (upd H p u) := by
  unfold TT.opt at h
  cases o with
  | none => exact h.elim
  | some a => exact ⟨a, rfl, fun w r => h w B H (Nx.refl st) r, fun p u hp r => h (.ref p) _ _ (Nx.laid st hp) r⟩
def NewOp (X : Cx) (r : R2) (o : D → D → Option D) : Prop := ∀ (B H : Hp) (x y : D) (v u : V) (z : D) (Q : VK), Same B H → Rep X.K B v x → Rep X.K B u y → o x y = some z → (∀ w, Rep X.K B w z → Q w H) → (∀ p t, H p = none → Rep X.K (upd B p t) (.ref p) z → Q (.ref p) (upd H p t)) → r v u H Q
section
variable {X : Cx} {π : Pm} {a b c e : Expr} {es : List Expr} {f g h : M D} {pos p1 p2 : Pos}
theorem tr_nop2 {r : R2} {o : D → D → Option D} (hf : TrF X π a f) (hg : TrF X π b g) (ho : NewOp X r o) {e : Expr} (pe : ∀ {ta tb : TE}, PE X a ta → PE X b tb → PE X e (tOp r ta tb)) : TrF X π e (op2 o f g) := .mk fun W tk σ Γ B H Q st sat => by
  refine wE_of (pe pe_w pe_w) ?_
  refine hf.run W tk σ Γ B H _ st (sat.bd up_repR fun x Γ1 v B1 H1 e1 nx rv sat1 => ?_)
  refine hg.run W tk σ Γ1 B1 H1 _ nx.st (sat1.bd up_repR fun y Γ2 u B2 H2 e2 nx2 ru sat2 => ?_)
  obtain ⟨z, ez, q, qn⟩ := sat2.optL nx2.st
  exact ho B2 H2 x y v u z Q nx2.st.sub (rv.mono nx2.bb) ru ez q qn
/-! x + y: ints, texts, tuples -/
def addD : D → D → Option D
  | .int i, .int j => some (.int (i + j))
  | .str i, .str j => if i.length + j.length ≤ 1000000 then some (.str (i ++ j)) else none
  | .tup xs, .tup ys => if xs.length + ys.length ≤ 1000000 then some (.tup (xs ++ ys)) else none
  | _, _ => none
theorem le1m {n : Nat} (h : n ≤ 1000000) : n ≤ sizeLine := by rw [sizeLine_eq]; omega
theorem nw_add : NewOp X (fun x y H Q => (rI0 (fun i j => .int (i + j)) x y H Q ∨ (∃ i j, x = .str i ∧ y = .str j ∧ i.length + j.length ≤ sizeLine ∧ Q (.str (i ++ j)) H)) ∨ rCatA X.K x y H Q) addD := fun B H x y v u z Q s rv ru e q qn => by
  cases rv with
  | @int i =>
    cases ru <;> first | (cases e; done) | skip
    cases e; exact .inl (.inl ⟨_, _, rfl, rfl, q _ (.int _)⟩)
  | @str i =>
    cases ru <;> first | (cases e; done) | skip
    simp only [addD] at e
    split at e
    · rename_i hl
      cases e
      exact .inl (.inr ⟨_, _, rfl, rfl, le1m hl, q _ (.str _)⟩)
    · cases e
  | @tup pa xs ds h r =>
    cases ru with
    | @tup pb ys es h2 r2 =>
      simp only [addD] at e
      split at e
      · rename_i hl
        cases e
        refine .inr ⟨pa, pb, xs, ys, rfl, rfl, SqT.of (s _ _ h), SqT.of (s _ _ h2), le1m (by rw [r.length, r2.length]; exact hl), fun hx => ?_, fun _ hy => ?_, fun _ _ p hp => ?_⟩
        · subst hx
          cases r
          exact q _ (.tup h2 r2)
        · subst hy
          cases r2
          rw [List.append_nil] at q
          exact q _ (.tup h r)
        · exact qn p _ hp (.tup upd_same ((r.append r2).mono fun a u z => by rw [upd_ne (ne_of_none z (s.free hp))]; exact z))
      · cases e
    | _ => cases e
  | _ => cases e
theorem tr_addA (hf : TrF X π a f) (hg : TrF X π b g) : TrF X π (.BinOp a .Add b pos) (op2 addD f g) := tr_nop2 hf hg nw_add (pe_op ((op_add.or op_add_str).or op_catA))
/-! x * y: ints, a tuple times an int -/
end
/-- t * 1 is t -/
theorem tuple_mul1 (l : Addr) (items : Array Value) (n : Nat) (dd : Option Addr) (sl : Array (Option Value)) (u : Tok) :
    Meets (Builtin.«tuple.__mul__» ⟨[.ref l, .int 1 u], []⟩) (fun _ R s => s.heap.get? l = some { cls := .type "tuple", dict := dd, data := .seq items n, slots := sl } ∧ R (.ok (.ret (Value.ref l))) s) :=
  .of_wp fun prog w A R s (h : _) => by
    obtain ⟨hp, g, d, tk, os⟩ := (s)
    obtain ⟨hl, h⟩ := h
    have f1 := AutoSeq1.idx_int
    wp_walk using wpAny_loadPart' (hl)
    exact ⟨_, rfl, h⟩
def rRep1 (K : PySem.W.Frag) : R2 := fun x y H Q => ∃ l xs, x = .ref l ∧ y = .int 1 ∧ SqT K H l xs ∧ xs ≠ [] ∧ xs.length ≤ 1000 ∧ Q (.ref l) H
section
variable {X : Cx}
theorem op_rep1 : OpR X (binaryOp .Mult) (rRep1 X.K) := by
  intro pins s σ H x y v u
  intro Q I rx ry h
  obtain ⟨l, xs, rfl, rfl, hT, hne, hz, q⟩ := h
  cases rx
  obtain ⟨t, rfl⟩ := ry
  obtain ⟨its, r, ⟨⟨cls, dd, data, sl⟩, ho, hc, n, hd⟩, hs⟩ := (I.tuple hT)
  simp only at hc hd
  subst hc hd
  refine wpAny_binaryOp_repeat_ref (T := "tuple") (U := "int") (by decide) ⟨_, ho, rfl⟩ (fun s' => typeIs_int s' 1 t) noFill_tuple_mul F.fills_int_mul F.slot_int_rmul repeat_tuple F.slot_int_index.lookup
    (call_meets F.slot_int_rmul (typeIs_int s 1 t) F.entry_int_rmul (F.args_int_rmul_2 _ _) (int_rmul_tuple 1 t l its.toArray n dd sl)
      ⟨ho, rfl, ⟨_, ho, rfl⟩, call_meets F.slot_tuple_mul ⟨_, ho, rfl⟩ F.entry_tuple_mul (F.args_tuple_mul_2 _ _) (tuple_mul1 l its.toArray n dd sl t) ⟨ho, ?_⟩⟩)
  exact ⟨.ref l, H, I, rfl, q⟩
end
def timD : D → D → Option D
  | .tup ds, .int k => if ds ≠ [] ∧ ds.length ≤ 1000 ∧ 1 ≤ k ∧ k ≤ 1000 then some (.tup (List.replicate k.toNat ds).flatten) else none
  | x, y => mulI x y
theorem timD_tup {ds : List D} {k : Int} : timD (.tup ds) (.int k) = if ds ≠ [] ∧ ds.length ≤ 1000 ∧ 1 ≤ k ∧ k ≤ 1000 then some (.tup (List.replicate k.toNat ds).flatten) else none := by
  unfold timD
  congr 1
theorem timD_int {i : Int} {y : D} : timD (.int i) y = mulI (.int i) y := rfl
section
variable {X : Cx} {π : Pm} {a b c e : Expr} {es : List Expr} {f g h : M D} {pos p1 p2 : Pos}
theorem nw_tim : NewOp X (fun x y H Q => rI CMul (fun i j => .int (i * j)) x y H Q ∨ rRep1 X.K x y H Q ∨ rRepT X.K x y H Q) timD := fun B H x y v u z Q s rv ru e q qn => by
  cases rv with
  | @int i =>
    rw [timD_int] at e
    exact .inl (fl_mul (X := X) B H (.int i) y _ u z Q s (.int i) ru e q)
  | @tup pa xs ds h r =>
    cases ru with
    | @int k =>
      rw [timD_tup] at e
      split at e
      · rename_i hk
        cases e
        obtain ⟨h0, h1, h2, h3⟩ := hk
        have hx : xs ≠ [] := fun z => by subst z; cases r; exact h0 rfl
        by_cases k1 : k = 1
        · subst k1
          refine .inr (.inl ⟨pa, xs, rfl, rfl, SqT.of (s _ _ h), hx, by rw [r.length]; exact h1, q _ (.tup h (by simpa using r))⟩)
        · exact .inr (.inr ⟨pa, k, xs, rfl, rfl, SqT.of (s _ _ h), hx, by omega, h3, by rw [r.length]; exact h1, fun p hp => qn p _ hp (.tup upd_same ((r.times k.toNat).mono fun a u z => by rw [upd_ne (ne_of_none z (s.free hp))]; exact z))⟩)
      · cases e
    | _ => simp [timD, mulI] at e
  | _ => simp [timD, mulI] at e
theorem tr_tim (hf : TrF X π a f) (hg : TrF X π b g) : TrF X π (.BinOp a .Mult b pos) (op2 timD f g) := tr_nop2 hf hg nw_tim (pe_op (op_mul.or (op_rep1.or op_repT)))
end
end L2.TT

set_option Elab.async false
set_option linter.all false
set_option maxRecDepth 100000
set_option maxHeartbeats 1000001
namespace L2.TT
open PySem PyProof.Rows PySem.Spec

/-! ### max(list), min(a, b), str(x), int(x) -/
theorem foldl_max : ∀ (l : List Int) (n : Int), (l.foldl max n ∈ n :: l) ∧ ∀ y ∈ n :: l, y ≤ l.foldl max n
  | [], n => ⟨List.mem_cons_self, fun y h => by rcases List.mem_cons.mp h with rfl | h; exact Int.le_refl _; cases h⟩
  | a :: l, n => by
    obtain ⟨h1, h2⟩ := foldl_max l (max n a)
    refine ⟨?_, fun y h => ?_⟩
    · rw [List.foldl_cons]
      rcases List.mem_cons.mp h1 with e | h
      · rcases Int.le_total n a with k | k
        · rw [e, Int.max_eq_right k]; exact List.mem_cons_of_mem _ List.mem_cons_self
        · rw [e, Int.max_eq_left k]; exact List.mem_cons_self
      · exact List.mem_cons_of_mem _ (List.mem_cons_of_mem _ h)
    · rw [List.foldl_cons]
      have hm := h2 _ List.mem_cons_self
      rcases (List.mem_cons.mp h) with rfl | h
      · omega
      · rcases (List.mem_cons.mp h) with rfl | h
        · omega
        · exact h2 y (List.mem_cons_of_mem _ h)
def maxLD : D → Option D
  | .lst ds => match asInts ds with
    | some (n :: ns) => some (.int (ns.foldl max n))
    | _ => none
  | _ => none
section
variable {X : Cx} {π : Pm} {a b c e : Expr} {es : List Expr} {f g h : M D} {fs : M (List D)} {pos p1 p2 : Pos}
theorem rd_max : RdCall X (rMax X.K) maxLD := fun B H x v z Q s rv e q => by
  cases x <;> simp only [maxLD] at e <;> first | (cases e; done) | skip
  rename_i ds
  obtain ⟨p, xs, rfl, hp, rs⟩ := rv
  split at e
  · rename_i n ns k
    cases e
    have ev := asInts_v rs k
    subst ev
    obtain ⟨m1, m2⟩ := foldl_max ns n
    refine ⟨p, n :: ns, rfl, SqL.of hp, by simp, fun m hm hy => ?_⟩
    have : m = ns.foldl max n := by
      have h1 := m2 m hm
      have h2 := hy _ m1
      omega
    rw [this]
    exact q _ (.int _)
  · cases e
theorem tr_maxL (hc : X.calm = true) (hf : TrP X π a f) (hm : X.mg "max" = none) (hg : Gl X "max" := by rfl) (hst : starEach [a] X.env = (false, eval a X.env) :: starEach [] X.env := by kernel_rfl) (hpl : (backTo pos (starEach [] X.env)).any (·.1) = false := by kernel_rfl) : TrF X π (.Call (.Name "max" p1) [a] [] pos) (op1 maxLD f) :=
  tr_call1 hf rd_max (fun h => pe_callB (cr_max hc) hg hm (by decide +kernel) h (he := hst) (hpl := hpl)) hst
def min2D : List D → Option D
  | [.int i, .int j] => some (.int (if j < i then j else i))
  | _ => none
def min2M (fs : M (List D)) : M D := bd fs fun ds => opt (min2D ds)
theorem tr_min2 (hc : X.calm = true) (hs : TrA X π (e :: es) fs) (hm : X.mg "min" = none) (hg : Gl X "min" := by rfl) (hst : starEach (e :: es) X.env = (false, eval e X.env) :: starEach es X.env := by kernel_rfl) (hpl : (backTo pos (starEach es X.env)).any (·.1) = false := by kernel_rfl) :
    TrF X π (.Call (.Name "min" p1) (e :: es) [] pos) (min2M fs) := .mk fun W tk σ Γ B H Q st sat => by
  refine wE_of (pe_callB (call_min2 hc) hg hm (by decide +kernel) pa_w (he := hst) (hpl := hpl)) ?_
  refine hs.run W tk σ Γ B H _ st (sat.bd up_repR fun ds Γ1 vs B1 H1 e1 nx rv sat1 => ?_)
  obtain ⟨z, ez, q⟩ := sat1.opt nx.st
  unfold min2D at ez
  split at ez
  · cases ez
    cases rv with
    | cons r1 t =>
      cases t with
      | cons r2 t =>
        cases t
        cases r1; cases r2
        exact ⟨_, _, rfl, q _ (.int _)⟩
  · cases ez
def strD : D → Option D
  | .int i => if i.natAbs ≤ 1000000 then some (.str (toString i)) else none
  | .str x => some (.str x)
  | _ => none
theorem rd_str : RdCall X (fun xs H Q => (∃ i, xs = [.int i] ∧ i.natAbs.log2 < 1920 ∧ Q (.str (toString i)) H) ∨ ∃ a, xs = [.str a] ∧ Q (.str a) H) strD := fun B H x v z Q s rv e q => by
  cases x <;> simp only [strD] at e <;> first | (cases e; done) | skip
  · cases rv
    rename_i i
    split at e
    · rename_i hi
      cases e
      refine .inl ⟨i, rfl, ?_, q _ (.str _)⟩
      by_cases h0 : i.natAbs = 0
      · rw [h0]; decide
      · have : i.natAbs.log2 < 20 := (Nat.log2_lt h0).mpr (by omega)
        omega
    · cases e
  · cases rv
    cases e
    exact .inr ⟨_, rfl, q _ (.str _)⟩
theorem tr_str1 (hf : TrP X π a f) (hm : X.mg "str" = none) (hg : Gl X "str" := by rfl) (hst : starEach [a] X.env = (false, eval a X.env) :: starEach [] X.env := by kernel_rfl) (hpl : (backTo pos (starEach [] X.env)).any (·.1) = false := by kernel_rfl) : TrF X π (.Call (.Name "str" p1) [a] [] pos) (op1 strD f) :=
  tr_call1 hf rd_str (fun h => pe_callTy (call_str_int.or SkE.call_str_str) hg hm (by decide +kernel) h (he := hst) (hpl := hpl)) hst
def intXD : D → Option D
  | .str a => if a.length ≤ 640 then (PySem.intText? a).map .int else none
  | x => intD x
theorem rd_intX : RdCall X (fun xs H Q => ((∃ i, xs = [.int i] ∧ Q (.int i) H) ∨ ∃ k, xs = [.bl k] ∧ Q (.int (if k then 1 else 0)) H) ∨ ∃ a n, xs = [.str a] ∧ PySem.intText? a = some n ∧ a.length ≤ 640 ∧ Q (.int n) H) intXD := fun B H x v z Q s rv e q => by
  cases x with
  | str a =>
    cases rv
    simp only [intXD] at e
    split at e
    · rename_i hl
      cases k : PySem.intText? a with
      | none => rw [k] at e; cases e
      | some n => rw [k] at e; cases e; exact .inr ⟨a, n, rfl, k, hl, q _ (.int _)⟩
    · cases e
  | _ => exact .inl (rd_int (X := X) B H _ v z Q s rv e q)
theorem tr_intX (hf : TrP X π a f) (hm : X.mg "int" = none) (hg : Gl X "int" := by rfl) (hst : starEach [a] X.env = (false, eval a X.env) :: starEach [] X.env := by kernel_rfl) (hpl : (backTo pos (starEach [] X.env)).any (·.1) = false := by kernel_rfl) : TrF X π (.Call (.Name "int" p1) [a] [] pos) (op1 intXD f) :=
  tr_call1 hf rd_intX (fun h => pe_callTy (call_int1.or call_int_str) hg hm (by decide +kernel) h (he := hst) (hpl := hpl)) hst
/-! ### x.split(y) -/
def splitD (x y : D) : Option D := match x, y with
  | .str a, .str b => if (b.length == 0) = false ∧ a.length ≤ 1000000 then some (.lst ((Txt.split a b).map .str)) else none
  | _, _ => none
def splitM (f g : M D) : M (D × Bool) := bd f fun x => if isS x = true then bd g fun y => bd (opt (splitD x y)) fun z => ret (z, true) else fun _ => none
theorem tv_split {apos : Pos} {g : M D} (hf : TrF X π a f) (hg : TrF X π b g) (hs : starEach [b] X.env = [(false, eval b X.env)] := by kernel_rfl) (hbase : attributeBase a "split" X.env (eval a X.env) = eval a X.env := by kernel_rfl) (hline : (apos.endLine == pos.line) = true := by kernel_rfl) :
    TrV X π (.Call (.Attribute a "split" apos) [b] [] pos) (splitM f g) := .mk fun W tk σ Γ B H Q st sat => by
  refine wE_of (pe_m1 F.slot_str_split F.type_str_split mt_split pe_w pe_w hs hbase hline) ?_
  refine hf.run W tk σ Γ B H _ st (sat.bd up_valR fun x Γ1 v B1 H1 e1 nx rv sat1 => ?_)
  by_cases hx : isS x = true
  · rw [if_pos hx] at sat1
    cases x <;> simp only [isS] at hx <;> first | (cases hx; done) | skip
    cases rv
    rename_i z
    refine ⟨⟨z, rfl⟩, ?_⟩
    refine hg.run W tk σ Γ1 B1 H1 _ nx.st (sat1.bd up_valR fun y Γ2 u B2 H2 e2 nx2 ru sat2 => ?_)
    cases y <;> simp only [splitD] at sat2 <;> first | exact sat2.false | skip
    cases ru
    rename_i w
    split at sat2
    · rename_i hl
      refine ⟨z, w, rfl, rfl, hl.1, by rw [sizeLine_eq]; omega, fun p hp => ?_⟩
      have sat3 : Sat X.K π W σ Γ2 B2 H2 (valR X.K) (ret (.lst ((Txt.split z w).map .str), true) Γ2) Q := sat2
      exact sat3 _ _ _ (Nx.new nx2.st hp) ⟨p, rfl, hp, nx2.st.sub.free hp, ⟨_, upd_same, reps_strs _⟩, not_own_new nx2.st hp⟩
    · exact sat2.false
  · rw [if_neg hx] at sat1; exact sat1.false
/-! ### range(a, b) -/
def rng2 (f g : M D) : M (List D) := bd f fun x => bd g fun y => match x, y with
  | .int i, .int j => if i.natAbs ≤ 1000000 ∧ j.natAbs ≤ 1000000 then ret (rngD i (j - i).toNat) else fun _ => none
  | _, _ => fun _ => none
theorem ti_rng2 {tg : Expr} (hf : TrF X π a f) (hg' : TrF X π b g) (hm : X.mg "range" = none) (hg : Gl X "range" := by rfl) (hst : starEach [a, b] X.env = (false, eval a X.env) :: starEach [b] X.env := by kernel_rfl) (hst2 : starEach [b] X.env = (false, eval b X.env) :: starEach [] X.env := by kernel_rfl)
    (hs : starEach [a, b] X.env = [(false, eval a X.env), (false, eval b X.env)] := by kernel_rfl) (hs2 : starEach [b] X.env = [(false, eval b X.env)] := by kernel_rfl) : TrI X π tg (.Call (.Name "range" p1) [a, b] [] pos) (rng2 f g) := .mk fun W tk σ Γ B H R st sat => by
  refine wI_of (pi_range2 hg hm (pa_cons pe_w (pa_cons pe_w pa_nil hst2) hst) hs hs2) ?_
  refine hf.run W tk σ Γ B H _ st (sat.bd up_walkR fun x Γ1 v B1 H1 e1 nx rv sat1 => ?_)
  refine hg'.run W tk σ Γ1 B1 H1 _ nx.st (sat1.bd up_walkR fun y Γ2 u B2 H2 e2 nx2 ru sat2 => ?_)
  cases rv <;> first | exact (show False from sat2).elim | skip
  rename_i i
  cases ru <;> first | exact (show False from sat2).elim | skip
  rename_i j
  simp only at sat2
  by_cases hc : i.natAbs ≤ 1000000 ∧ j.natAbs ≤ 1000000
  · rw [if_pos hc] at sat2
    exact ⟨i, j, rfl, by omega, sat2 _ B2 H2 (Nx.refl nx2.st) walk_rng⟩
  · rw [if_neg hc] at sat2; exact (show False from sat2).elim
/-! ### slices of lists and tuples -/
def slcXD : D → Option Int → Option Int → Option (D × Bool)
  | .tup ds, lo, hi => some (.tup (cutD ds lo hi), false)
  | x, lo, hi => (slcD x lo hi).map (·, true)
def slcXM (f : M D) (l u : M (Option Int)) : M (D × Bool) := bd f fun x => bd l fun lo => bd u fun hi => opt (slcXD x lo hi)
theorem tv_slcX {lo hi : Option Expr} {l u : M (Option Int)} (hf : TrF X π a f) (hl : TrO X π lo l) (hu : TrO X π hi u) : TrV X π (.Subscript a (.Slice lo hi none p2) pos) (slcXM f l u) := .mk fun W tk σ Γ B H Q st sat => by
  refine wE_of (pe_slice (sl_list.or sl_tupA) pe_w po_w po_w) ?_
  refine hf.run W tk σ Γ B H _ st (sat.bd up_valR fun x Γ1 v B1 H1 e1 nx rv sat1 => ?_)
  refine hl.run W tk σ Γ1 B1 H1 _ nx.st (sat1.bd up_valR fun y Γ2 lo' B2 H2 e2 nx2 e3 sat2 => ?_)
  refine hu.run W tk σ Γ2 B2 H2 _ nx2.st (sat2.bd up_valR fun z Γ3 hi' B3 H3 e4 nx3 e5 sat3 => ?_)
  cases e3; cases e5
  have rv3 := (rv.mono nx2.bb).mono nx3.bb
  have fin : ∀ {p : Addr} {xs : List V} {ds : List D}, v = .ref p → SqL X.K B3 p xs → Reps X.K B3 xs ds → Sat X.K π W σ Γ3 B3 H3 (valR X.K) (ret (.lst (cutD ds y z), true) Γ3) Q → rSlL X.K v y z H3 Q := fun {p xs ds} e h r sat => by
    refine ⟨p, xs, e, same_sqL nx3.st.sub h, fun q hq => ?_⟩
    refine sat _ _ _ (Nx.new nx3.st hq) ⟨q, rfl, hq, nx3.st.sub.free hq, ⟨_, upd_same, ?_⟩, not_own_new nx3.st hq⟩
    unfold cutV cutD
    rw [r.length]
    exact (r.drop _).take _
  cases rv3 <;> try exact sat3.false
  · rename_i h r
    exact .inl (fin rfl (SqL.of h) r sat3)
  · rename_i h r
    exact .inl (fin rfl h r sat3)
  · rename_i p xs ds h r
    have sat3 : Sat X.K π W σ Γ3 B3 H3 (valR X.K) (ret (.tup (cutD ds y z), false) Γ3) Q := sat3
    refine .inr ⟨p, xs, rfl, SqT.of (nx3.st.sub _ _ h), fun hw => ?_, fun hw q hq => ?_⟩
    · refine Sat.here nx3.st sat3 ?_
      show Rep X.K B3 (.ref p) (.tup (cutD ds y z))
      have : cutD ds y z = ds := by
        unfold cutD
        rw [← r.length, hw.1, hw.2, r.length]
        simp
      rw [this]
      exact .tup h r
    · refine sat3 _ _ _ (Nx.laid nx3.st hq) ?_
      refine Rep.tup upd_same ?_
      have r2 := ((r.drop (HT.sIx xs.length 0 y)).take (HT.sIx xs.length xs.length z - HT.sIx xs.length 0 y)).mono (B' := upd B3 q (.tup (cutV xs y z))) fun a u e => by rw [upd_ne (ne_of_none e (nx3.st.sub.free hq))]; exact e
      unfold cutV cutD
      rw [← r.length]
      exact r2
/-! ### x += e, ints -/
def augM (i : Nat) (f : M D) : M Fl := bd (pk i) fun x => bd f fun y => bd (opt (addI x y)) fun z => bd (stS i z false) fun _ => ret .nx
theorem ts_aug (i : Nat) {x : Str} {np : Pos} (hf : TrF X π e f) (hN : X.N.Nodup) (hi : X.N[i]? = some x := by kernel_rfl) (hx : Loc X.env.scope x := by first | exact .inl rfl | exact .inr rfl) (hl : X.fn x = true ∨ X.env.scope.names.lookup x = some .local := by first | exact .inl rfl | exact .inr rfl) :
    TrS X π (.AugAssign (.Name x np) .Add e pos) (augM i f) := .mk fun W tk σ Γ B H Dn st sat => by
  refine wS_of (ps_aug hN hi hx pe_w ip_add hl) ?_
  unfold augM at sat
  cases k0 : pk i Γ with
  | none => unfold TT.bd at sat; rw [k0] at sat; exact sat.false
  | some r =>
    cases r with
    | er c fs g => exact (pk_er k0).elim
    | ok d g =>
      obtain ⟨eg, v, h1, h2⟩ := st.peek k0
      subst eg
      have sat : SatS X.K π W σ g B H (TT.bd f (fun y => TT.bd (opt (addI d y)) fun z => TT.bd (stS i z false) fun _ => ret .nx) g) Dn := by
        unfold TT.bd at sat
        rw [k0] at sat
        exact sat
      refine ⟨v, h1, ?_⟩
      refine hf.run W tk σ g B H _ st (sat.bd fun y Γ1 u B1 H1 e1 nx ru sat1 => ?_)
      cases d <;> cases y <;> first | exact (show False from sat1).elim | skip
      rename_i m n
      cases (show v = .int m from h2)
      cases ru
      refine ⟨m, n, rfl, rfl, ?_⟩
      have sat1 : SatS X.K π W σ g B H (TT.bd (stS i (.int (m + n)) false) (fun _ => ret .nx) Γ1) Dn := sat1
      unfold TT.bd at sat1
      cases k : stS i (.int (m + n)) false Γ1 with
      | none => rw [k] at sat1; exact sat1.elim
      | some r =>
        obtain ⟨il, np, rfl⟩ := stS_ok k
        rw [k] at sat1
        exact sat1 _ B1 H1 (nx.put il np (v := .int (m + n)) (o := false) (.int _))
end
end L2.TT

set_option Elab.async false
set_option linter.all false
set_option maxRecDepth 100000
set_option maxHeartbeats 1000001
namespace L2.TT
open PySem PyProof.Rows PySem.Spec

/-! ### {'a': x, ..} -/
theorem mergeK_nodup : ∀ {more acc : List (Key × V)}, ((acc ++ more).map (·.1)).Nodup → mergeK acc more = acc ++ more
  | [], acc, _ => by rw [List.append_nil]; rfl
  | p :: more, acc, h => by
    have hn : valV acc p.1 = none := by
      cases e : valV acc p.1 with
      | none => rfl
      | some v =>
        unfold valV at e
        cases k : acc.find? (fun kv => decide (kv.1 = p.1)) with
        | none => rw [k] at e; cases e
        | some kv =>
          have h1 := List.mem_of_find?_eq_some k
          have h2 : kv.1 = p.1 := by simpa using List.find?_some k
          rw [List.map_append, List.map_cons] at h
          have := (List.nodup_append.mp h).2.2 kv.1 (List.mem_map_of_mem h1) p.1 List.mem_cons_self
          exact absurd h2 this
    show mergeK (putK acc p.1 p.2) more = _
    rw [putK_new _ hn]
    have e : acc ++ [(p.1, p.2)] ++ more = acc ++ p :: more := by simp
    rw [mergeK_nodup (by rw [e]; exact h), e]
/-- the values of a display -/
def pairsR (K : PySem.W.Frag) (ks : List Str) : Rl (List D) (List (V × V)) := fun _ _ B _ _ ds ps => ∃ vs, ps = (ks.zip vs).map (fun kv => (V.str kv.1, kv.2)) ∧ vs.length = ks.length ∧ Reps K B vs ds
theorem up_pairsR {K ks} : Up (pairsR K ks) := fun _ _ _ _ _ _ _ _ _ h => h
structure TrD (X : Cx) (π : Pm) (keys : List (Option Expr)) (values : List Expr) (ks : List Str) (m : M (List D)) : Prop where
  run : ∃ trs : List (TE × TE), (∀ pos, PPs X pos keys values trs) ∧ ∀ (W : WX), Takes X W → ∀ (σ : L2.St) (Γ : List Sl) (B H : Hp) (Q : List (V × V) → Hp → Prop), Stt X.K π B H σ Γ → Sat X.K π W σ Γ B H (pairsR X.K ks) (m Γ) Q → tPairs trs σ H Q
section
variable {X : Cx} {π : Pm} {a b c e : Expr} {es : List Expr} {f g h : M D} {fs : M (List D)} {pos p1 p2 p3 : Pos} {keys : List (Option Expr)} {ks : List Str}
theorem td_nil : TrD X π [] [] [] (ret []) := ⟨[], fun pos => ⟨fun pins s σ H Q I h => by
  first
    | exact pps_nil.run pins s σ H Q I h⟩, fun W tk σ Γ B H Q st sat => Sat.here st sat ⟨[], rfl, rfl, .nil⟩⟩
theorem td_cons {k : Str} {j} {kp : Pos} (hf : TrF X π e f) (hr : TrD X π keys es ks fs) : TrD X π (some (.Constant (.str k) j kp) :: keys) (e :: es) (k :: ks) (cnsM f fs) := by
  obtain ⟨trs, pr, hr⟩ := hr
  refine ⟨(tC (.str k), wE X e) :: trs, fun pos => pps_cons pe_str pe_w (pr pos), fun W tk σ Γ B H Q st sat => ?_⟩
  refine hf.run W tk σ Γ B H _ st (sat.bd up_pairsR fun x Γ1 v B1 H1 e1 nx rv sat1 => ?_)
  refine hr W tk σ Γ1 B1 H1 _ nx.st (sat1.bd up_pairsR fun ds Γ2 ps B2 H2 e2 nx2 rp sat2 => ?_)
  obtain ⟨vs, rfl, hl, rs⟩ := rp
  refine Sat.here nx2.st sat2 ⟨v :: vs, rfl, by simp [hl], .cons (rv.mono nx2.bb) rs⟩
def keysOfS (ks : List Str) : List Key := ks.map .inr
def dispM (ks : List Str) (fs : M (List D)) : M (D × Bool) := bd fs fun ds => ret (.dic (keysOfS ks) ds, true)
theorem tv_disp {k : Option Expr} {kr : List (Option Expr)} (hd : TrD X π (k :: kr) es ks fs) (hn : ks.Nodup) (h15 : (k :: kr).length ≤ 15) (hks : ks.length ≤ 15) (hl : (k :: kr).length = es.length) (hall : (k :: kr).all (·.isSome) = true := by rfl) : TrV X π (.Dict (k :: kr) es pos) (dispM ks fs) := .mk fun W tk σ Γ B H Q st sat => by
  obtain ⟨trs, pr, hr⟩ := hd
  refine wE_of (pe_disp (pr pos) hall hl (by simp) h15) ?_
  intro p hp
  have n0 := Nx.new (o := .dK []) st hp
  have no0 := not_own_new st hp
  refine hr W tk σ Γ B (upd H p (.dK [])) _ n0.st ?_
  unfold dispM at sat
  unfold TT.bd at sat
  cases e : fs Γ with
  | none => rw [e] at sat; exact sat.false
  | some r =>
    rw [e] at sat
    cases r with
    | er c fs' g =>
      intro dd B2 H2 nx2 er hd
      refine sat dd B2 H2 (n0.trans nx2) er fun x ex => ?_
      have := hd x ex
      by_cases z : x = p
      · subst z; exact hp
      · rw [upd_ne z] at this; exact this
    | ok ds Γ1 =>
      intro ps B2 H2 nx2 rp
      obtain ⟨vs, rfl, hlv, rs⟩ := rp
      obtain ⟨k1, k2, k3⟩ := lst_kept nx2 (p := p) (o := .dK []) upd_same (st.sub.free hp) no0
      refine ⟨k1, (ks.zip vs).map (fun kv => (Sum.inr kv.1, kv.2)), ?_, ?_, ?_⟩
      · rw [List.map_map]; rfl
      · rw [List.length_map, List.length_zip]; omega
      · have nx3 := (n0.trans nx2).setl (p := p) (o := .dK []) (o' := .dK ((ks.zip vs).map fun kv => ((Sum.inr kv.1 : Key), kv.2))) hp k1 k2 k3
        have ek : ((ks.zip vs).map fun kv => ((Sum.inr kv.1 : Key), kv.2)).map (·.1) = keysOfS ks := by
          rw [List.map_map]
          unfold keysOfS
          have : (ks.zip vs).map Prod.fst = ks := List.map_fst_zip (by omega)
          conv => rhs; rw [← this]
          rw [List.map_map]; rfl
        have ev : ((ks.zip vs).map fun kv => ((Sum.inr kv.1 : Key), kv.2)).map (·.2) = vs := by
          rw [List.map_map]
          exact List.map_snd_zip (by omega)
        have em : mergeK [] ((ks.zip vs).map fun kv => ((Sum.inr kv.1 : Key), kv.2)) = (ks.zip vs).map fun kv => ((Sum.inr kv.1 : Key), kv.2) := by
          rw [mergeK_nodup (by
            rw [List.nil_append, ek]
            unfold keysOfS
            exact hn.map Sum.inr (fun a b h z => h (Sum.inr.inj z)))]
          rfl
        rw [em]
        refine sat _ _ _ nx3 ⟨p, rfl, hp, k2, ⟨_, upd_same, ek, by rw [ev]; exact rs⟩, k3⟩
/-! ### x is True, x is False -/
def isD (x y : D) : Option D := match x, y with
  | .bl i, .bl j => some (.bl (decide (i = j)))
  | _, _ => none
def isNotD (x y : D) : Option D := match x, y with
  | .bl i, .bl j => some (.bl (!decide (i = j)))
  | _, _ => none
theorem fl_is : FlatOp X (fun x y H Q => ∃ a b, x = .bl a ∧ y = .bl b ∧ Q (.bl (decide (a = b))) H) isD := fun B H x y v u z Q s rv ru e q => by
  cases rv <;> first | (cases e; done) | skip
  cases ru <;> first | (cases e; done) | skip
  cases e; exact ⟨_, _, rfl, rfl, q _ (.bl _)⟩
theorem fl_isNot : FlatOp X (fun x y H Q => ∃ a b, x = .bl a ∧ y = .bl b ∧ Q (.bl (!decide (a = b))) H) isNotD := fun B H x y v u z Q s rv ru e q => by
  cases rv <;> first | (cases e; done) | skip
  cases ru <;> first | (cases e; done) | skip
  cases e; exact ⟨_, _, rfl, rfl, q _ (.bl _)⟩
theorem tr_isB (hf : TrF X π a f) (hg : TrF X π b g) : TrF X π (.Compare a [.Is] [b] pos) (op2 isD f g) := tr_op2 hf hg fl_is fun h1 h2 => pe_cmpR op_is_bl h1 h2 (nomark _)
theorem tr_isNB (hf : TrF X π a f) (hg : TrF X π b g) : TrF X π (.Compare a [.IsNot] [b] pos) (op2 isNotD f g) := tr_op2 hf hg fl_isNot fun h1 h2 => pe_cmpR op_isnot_bl h1 h2 (nomark _)
theorem tt_isB (hf : TrF X π a f) (hg : TrF X π b g) : TrT X π (.Compare a [.Is] [b] pos) (tv (op2 isD f g)) := tt_op2 hf hg fl_is op_is_bl (nomark _)
theorem tt_isNB (hf : TrF X π a f) (hg : TrF X π b g) : TrT X π (.Compare a [.IsNot] [b] pos) (tv (op2 isNotD f g)) := tt_op2 hf hg fl_isNot op_isnot_bl (nomark _)
end
/-! ### sorted(set(x)), x a list of pairs of small numbers -/
def dedup : List (Int × Int) → List (Int × Int)
  | [] => []
  | p :: r => if p ∈ dedup r then dedup r else p :: dedup r
theorem mem_dedup : ∀ {l : List (Int × Int)} {x : Int × Int}, x ∈ dedup l ↔ x ∈ l
  | [], x => Iff.rfl
  | p :: r, x => by
    unfold dedup
    split
    · rename_i h
      rw [mem_dedup, List.mem_cons]
      constructor
      · exact .inr
      · rintro (rfl | h2)
        · exact mem_dedup.mp h
        · exact h2
    · rw [List.mem_cons, List.mem_cons, mem_dedup]
theorem nodup_dedup : ∀ {l : List (Int × Int)}, (dedup l).Nodup
  | [] => List.nodup_nil
  | p :: r => by
    unfold dedup
    split
    · exact nodup_dedup
    · rename_i h
      exact List.nodup_cons.mpr ⟨h, nodup_dedup⟩
def smallP (p : Int × Int) : Bool := decide (0 ≤ p.1) && decide (p.1 < 64) && decide (0 ≤ p.2) && decide (p.2 < 64)
def sortSetD : D → Option D
  | .lst ds => match asPrs ds with
    | some ps => if ps.length < 64 ∧ ps.all smallP = true then some (.lst (((dedup ps).mergeSort leP).map mkPr)) else none
    | none => none
  | _ => none
def prL (p : Int × Int) : List Int := [p.1, p.2]
theorem prL_inj {p q : Int × Int} (h : prL p = prL q) : p = q := by
  unfold prL at h
  simp only [List.cons.injEq, and_true] at h
  exact Prod.ext h.1 h.2
section
variable {X : Cx} {π : Pm} {a b c e : Expr} {f g h : M D} {pos p1 p2 p3 : Pos}
theorem ks_of {B H : Hp} : ∀ {xs : List V}, (∀ x ∈ xs, ∃ t, x = V.ref t ∧ B t = some (.tup [.int (prAt H x).1, .int (prAt H x).2])) →
    ∃ ks : List (Addr × (Int × Int)), xs = ks.map (fun p => V.ref p.1) ∧ ks.map (·.2) = xs.map (prAt H) ∧ ∀ p ∈ ks, B p.1 = some (.tup [.int p.2.1, .int p.2.2])
  | [], _ => ⟨[], rfl, rfl, fun p hp => by cases hp⟩
  | x :: xs, h => by
    obtain ⟨t, h1, h2⟩ := h x List.mem_cons_self
    obtain ⟨ks, k1, k2, k3⟩ := ks_of fun y hy => h y (List.mem_cons_of_mem _ hy)
    refine ⟨(t, prAt H x) :: ks, by rw [List.map_cons, ← k1, h1], by rw [List.map_cons, k2, List.map_cons], fun p hp => ?_⟩
    rcases (List.mem_cons.mp hp) with rfl | hp
    · exact h2
    · exact k3 p hp
theorem reps_js {K : PySem.W.Frag} {B : Hp} : ∀ {js : List (Addr × (Int × Int))}, (∀ p ∈ js, B p.1 = some (.tup [.int p.2.1, .int p.2.2])) → Reps K B (js.map fun p => V.ref p.1) ((js.map (·.2)).map mkPr)
  | [], _ => .nil
  | x :: js, h => .cons (.tup (h x List.mem_cons_self) (.cons (.int _) (.one (.int _)))) (reps_js fun p hp => h p (List.mem_cons_of_mem _ hp))
theorem code_le {p q : Int × Int} (bp : 0 ≤ p.1 ∧ p.1 < 64 ∧ 0 ≤ p.2 ∧ p.2 < 64) (bq : 0 ≤ q.1 ∧ q.1 < 64 ∧ 0 ≤ q.2 ∧ q.2 < 64) (h : TS.code 64 (prL p) ≤ TS.code 64 (prL q)) : leP p q = true := by
  unfold prL at h
  rw [(code_pair), code_pair] at h
  rw [leP_iff]
  omega
theorem tv_sortSet {s1 s2 : Str} (hc : X.calm = true) {k : Nat} (hr : Room k X.A) (hf : TrP X π a f) (hm : X.mg "sorted" = none) (hm2 : X.mg "set" = none) (hg : Gl X "sorted" := by rfl) (hg2 : Gl X "set" := by rfl) (hst : starEach [a] X.env = (false, eval a X.env) :: starEach [] X.env := by kernel_rfl) (hpl : (backTo p1 (starEach [] X.env)).any (·.1) = false := by kernel_rfl)
    (hst2 : starEach [.Call (.Name "set" p2) [a] [] p1] X.env = (false, eval (.Call (.Name "set" p2) [a] [] p1) X.env) :: starEach [] X.env := by kernel_rfl) (hpl2 : (backTo pos (starEach [] X.env)).any (·.1) = false := by kernel_rfl) :
    TrV X π (.Call (.Name "sorted" p3) [.Call (.Name "set" p2) [a] [] p1] [] pos) (op1n sortSetD f) := .mk fun W tk σ Γ B H Q st sat => by
  refine wE_of (pe_callB (cr_sortedT hc) hg hm (by decide +kernel) (pa_cons (pe_callTy (cr_setOfT hc (by have := hr.un; omega)) hg2 hm2 (by decide +kernel) (pa_cons pe_w pa_nil hst) (he := hst) (hpl := hpl)) pa_nil hst2) (he := hst2) (hpl := hpl2)) ?_
  refine hf.run W tk σ Γ B H _ st (sat.bd up_valR fun x Γ1 v B1 H1 e1 nx rv sat1 => ?_)
  cases e : sortSetD x with
  | none => rw [e] at sat1; exact sat1.false
  | some z =>
    rw [e] at sat1
    have sat1 : Sat X.K π W σ Γ1 B1 H1 (valR X.K) (ret (z, true) Γ1) Q := sat1
    cases x <;> simp only [sortSetD] at e <;> first | (cases e; done) | skip
    rename_i ds
    obtain ⟨l, xs, rfl, hl, rs⟩ := rv
    split at e
    · rename_i ps hps
      split at e
      · rename_i hsm
        cases e
        obtain ⟨hlen, hsm⟩ := hsm
        obtain ⟨e1, e2⟩ := asPrs_v nx.st.sub rs hps
        obtain ⟨ks, k1, k2, k3⟩ := ks_of e2
        rw [e1] at k2
        have hb : ∀ p ∈ ks, 0 ≤ p.2.1 ∧ p.2.1 < 64 ∧ 0 ≤ p.2.2 ∧ p.2.2 < 64 := fun p hp => by
          have := List.all_eq_true.mp hsm p.2 (by rw [← k2]; exact List.mem_map_of_mem hp)
          simp only [smallP, Bool.and_eq_true, decide_eq_true_eq] at this
          omega
        refine ⟨l, ks.map (fun p => (p.1, prL p.2)), rfl, ?_, ?_, ?_, ?_⟩
        · rw [List.map_map]
          show SqL X.K H1 l (ks.map fun p => V.ref p.1)
          rw [← k1]; exact SqL.of hl
        · intro p hp
          obtain ⟨q0, hq, rfl⟩ := List.mem_map.mp hp
          exact SqT.of (nx.st.sub _ _ (k3 q0 hq))
        · rw [List.length_map, ← List.length_map (f := (·.2)) (as := ks), k2]; exact hlen
        · intro a L ha hL hall
          have n1 := Nx.new (o := SetTO X.prog X.w a L) nx.st ha
          have lne : ∀ {b o}, B1 b = some o → b ≠ a := fun h z => by rw [z, nx.st.sub.free ha] at h; cases h
          have fromks : ∀ p ∈ L, ∃ q0 ∈ ks, p = (q0.1, prL q0.2) := fun p hp => by
            obtain ⟨q0, hq, e⟩ := List.mem_map.mp (hL p hp)
            exact ⟨q0, hq, e.symm⟩
          refine ⟨a, L, 2, 64, rfl, upd_same, fun p hp => ?_, by omega, fun p hp => ?_, fun L' p pm nd hl' pw hp => ?_⟩
          · obtain ⟨q0, hq, rfl⟩ := fromks p hp
            have := k3 q0 hq
            exact SqT.of (by rw [upd_ne (lne this)]; exact nx.st.sub _ _ this)
          · obtain ⟨q0, hq, rfl⟩ := fromks p hp
            refine ⟨rfl, ?_⟩
            have := hb q0 hq
            intro i hi
            simp only [prL, List.mem_cons, List.not_mem_nil, or_false] at hi
            rcases hi with rfl | rfl <;> omega
          · have fromL' : ∀ p ∈ L', ∃ q0 ∈ ks, p = (q0.1, prL q0.2) := fun p hp => fromks p (pm.mem_iff.mp hp)
            obtain ⟨js, j1, j2⟩ : ∃ js : List (Addr × (Int × Int)), L' = js.map (fun p => (p.1, prL p.2)) ∧ ∀ p ∈ js, p ∈ ks := by
              clear pm nd hl' pw
              induction L' with
              | nil => exact ⟨[], rfl, fun p hp => by cases hp⟩
              | cons x L' ih =>
                obtain ⟨q0, hq, e⟩ := fromL' x List.mem_cons_self
                obtain ⟨js, j1, j2⟩ := ih fun p hp => fromL' p (List.mem_cons_of_mem _ hp)
                refine ⟨q0 :: js, by rw [List.map_cons, ← j1, e], fun p hp => ?_⟩
                rcases (List.mem_cons.mp hp) with rfl | hp
                · exact hq
                · exact j2 p hp
            subst j1
            have ndj : (js.map (·.2)).Nodup := by
              rw [List.map_map] at nd
              have : (js.map fun p => prL p.2) = (js.map (·.2)).map prL := by rw [List.map_map]; rfl
              have nd' : ((js.map (·.2)).map prL).Nodup := by rw [← this]; exact nd
              exact List.Pairwise.of_map prL (fun a b h z => h (by rw [z])) nd'
            have pj : (js.map (·.2)).Perm (dedup ps) := by
              refine (List.perm_ext_iff_of_nodup ndj nodup_dedup).mpr fun y => ?_
              rw [mem_dedup, ← k2]
              constructor
              · intro hy
                obtain ⟨p, hp, rfl⟩ := List.mem_map.mp hy
                exact List.mem_map_of_mem (j2 p hp)
              · intro hy
                obtain ⟨p, hp, rfl⟩ := List.mem_map.mp hy
                have h1 := hall (p.1, prL p.2) (List.mem_map_of_mem hp)
                have h2 : prL p.2 ∈ (js.map fun p => (p.1, prL p.2)).map (·.2) := (pm.map (·.2)).mem_iff.mpr h1
                rw [List.map_map] at h2
                obtain ⟨p', hp', e'⟩ := List.mem_map.mp h2
                exact List.mem_map.mpr ⟨p', hp', prL_inj e'⟩
            have pwj : (js.map (·.2)).Pairwise (fun x y => leP x y = true) := by
              rw [List.pairwise_map] at pw ⊢
              exact List.Pairwise.imp_of_mem (fun {p q} hp hq h => code_le (hb p (j2 p hp)) (hb q (j2 q hq)) h) pw
            have fin := sortP_is pwj pj
            have n2 := Nx.new (o := .lst ((js.map fun p => (p.1, prL p.2)).map fun q => V.ref q.1)) n1.st hp
            have hp1 : H1 p = none := by
              by_cases z : p = a
              · subst z; exact ha
              · rw [upd_ne z] at hp; exact hp
            refine sat1 _ _ _ (n1.trans n2) ⟨p, rfl, hp1, nx.st.sub.free hp1, ⟨_, upd_same, ?_⟩, not_own_new nx.st hp1⟩
            rw [← fin]
            rw [List.map_map]
            exact reps_js fun p hp => k3 p (j2 p hp)
      · cases e
    · cases e
end
end L2.TT

set_option Elab.async false
set_option linter.all false
set_option maxRecDepth 100000
set_option maxHeartbeats 1000001
namespace L2.TT
open PySem PyProof.Rows PySem.Spec

/-! ### isinstance(e, C), e the error that is handled -/
structure ExI (K : PySem.W.Frag) (C : Addr) : Prop where
  cl : (PySem.W.clsIn K C).isSome = true
  ga : (PySem.W.findIn K (.ref C) "__getattribute__") = some (some (.builtin "BaseException.__getattribute__"))
  gt : PySem.W.findIn K (.ref C) "__getattr__" = some none
  sub : PySem.W.subIn K (.ref C) (.type "BaseException") = some true
  own : PySem.W.findIn K (.ref C) "__class__" = some (some (.builtin "object.__class__"))
  get : PySem.W.specialIn K (.builtin "object.__class__") "__get__" = some (some (.builtin "getset_descriptor.__get__"))
  tak : PySem.W.takesIn K (.builtin "object.__class__") = some true
  obj : PySem.W.mroIn K C (.type "object") = some true
def rIsX (K : PySem.W.Frag) (C a : Addr) (d : Option Addr) : List V → Hp → VK → Prop := fun xs H Q => ∃ (c : V) (cv : Value) (b : Bool), xs = [.ref a, c] ∧ (∀ u, RelV c u → u = cv) ∧ PySem.W.kitOne K (.ref C) cv = some b ∧ (∀ dd, d = some dd → ∃ fv, H dd = some (.xd fv)) ∧ Q (.bl b) H
theorem call_isX {X : Cx} {a C : Addr} {oe : Obj} {d : Option Addr} {pn : List (Addr × Obj)} (T : ExI X.K C) (hz : Zc (.ref C) d oe) (hf : ∃ vs, oe.data = .fields vs) : CallR (X.suite a ((a, oe) :: pn)) (.builtin "isinstance") (rIsX X.K C a d) := by
  intro pins s σ H xs us
  intro Q I r h
  obtain ⟨c, cv, b, rfl, hcv, e, hd, q⟩ := h
  cases r with
  | cons rx rr =>
    cases rr with
    | cons rt rr =>
      cases rr
      cases rx
      have ec := hcv _ rt
      subst ec
      obtain ⟨hget, _⟩ := (I.pin (a, oe) (List.mem_append.mpr (.inl List.mem_cons_self)))
      obtain ⟨vs, hv⟩ := hf
      have hn : PySem.W.notCls oe = true := by unfold PySem.W.notCls; rw [hv] <;> rfl
      have J : ∃ od, PySem.W.InstAt s.heap a oe C od := by
        cases d with
        | none => exact ⟨none, hget, hz.1, hn, by rw [hz.2]; exact trivial⟩
        | some dd =>
          obtain ⟨fv, hfv⟩ := hd dd rfl
          have hx : ObjOk X.prog X.w H s.heap dd (.xd fv) := I.hok dd _ hfv
          obtain ⟨mA, hns, hr⟩ := hx
          obtain ⟨od, ho, hl⟩ := (lookIn_ns hns)
          exact ⟨some od, hget, hz.1, hn, by rw [hz.2]; exact ho⟩
      obtain ⟨od, J⟩ := J
      exact PySem.W.kia_one (PySem.W.kitx_exc T.cl T.ga T.gt T.sub T.own T.get T.tak T.obj) I.kIn J e (fun z => nomatch z) fun tk => ⟨.bl b, H, I.kept (t' := tk) fun _ _ z => z, rfl, q⟩
def isXM (isx : Str → Str → Option Bool) (i : Nat) (x : Str) : M D := fun Γ => match Γ[i]? with
  | some (.ex c _) => opt ((isx c x).map .bl) Γ
  | _ => none
section
variable {X : Cx} {π : Pm} {isx : Str → Str → Option Bool}
theorem tr_isX {n x : Str} {a : Addr} {dd : Option Addr} {oe : Obj} {pn : List (Addr × Obj)} {p1 p2 p3 pos : Pos} {pa la : Addr} {ec : Str} (i : Nat) (T : ∀ c x b, isx c x = some b → ExI X.K (He.ga X.K c) ∧ PySem.W.kitOne X.K (.ref (He.ga X.K c)) (.ref (He.ga X.K x)) = some b)
    (mg : X.mg x = some (.ref (He.ga X.K x))) (hz : Zc (.ref (He.ga X.K ec)) dd oe) (hf : ∃ vs, oe.data = .fields vs) (hm : X.mg "isinstance" = none) (gx : Gl X x := by rfl) (dx : (x == ("__debug__" : Str)) = false := by decide) (hg : Gl X "isinstance" := by rfl)
    (hN : X.N[i]? = some n := by kernel_rfl) (hv : Vis X.env.scope n := by first | exact Or.inl rfl | exact Or.inr (Or.inl rfl) | exact Or.inr (Or.inr rfl)) (hd : (n == ("__debug__" : Str)) = false := by decide) (hcd : (n == ("__classdict__" : Str)) = false := by decide)
    (hst : starEach [.Name n p1, .Name x p2] X.env = (false, eval (.Name n p1) X.env) :: starEach [.Name x p2] X.env := by kernel_rfl) (hst2 : starEach [.Name x p2] X.env = (false, eval (.Name x p2) X.env) :: starEach [] X.env := by kernel_rfl) (hpl : (backTo pos (starEach [.Name x p2] X.env)).any (·.1) = false := by kernel_rfl) :
    TrF (X.suite a ((a, oe) :: pn)) ⟨pa, a, dd, la, ec⟩ (.Call (.Name "isinstance" p3) [.Name n p1, .Name x p2] [] pos) (isXM isx i x) := .mk fun W tk σ Γ B H Q st sat => by
  unfold isXM at sat
  cases e : Γ[i]? with
  | none => simp only [e] at sat; exact sat.false
  | some s =>
    simp only [e] at sat
    split at sat
    · rename_i c fs h
      cases h
      cases k : isx c x with
      | none => rw [k] at sat; exact sat.false
      | some b =>
        rw [k] at sat
        have sat : Sat X.K ⟨pa, a, dd, la, ec⟩ W σ Γ B H (repR X.K) (ret (.bl b) Γ) Q := sat
        obtain ⟨h0, h1, fv, h2, h3, h4⟩ := st.ex i c fs e
        have h0 : c = ec := h0
        subst h0
        obtain ⟨t1, t2⟩ := T c x b k
        refine wE_of (pe_callB (X := X.suite a ((a, oe) :: pn)) (call_isX t1 hz hf) hg hm (by decide +kernel) (pa_cons (pe_var (X := X.suite a ((a, oe) :: pn)) hN hv hd hcd) (pa_cons (pe_glob (X := X.suite a ((a, oe) :: pn)) (v := .ref (He.ga X.K x)) gx mg rfl dx) pa_nil hst2) hst) (he := hst) (hpl := hpl)) ?_
        refine ⟨_, h1, .ref (He.ga X.K x), .ref (He.ga X.K x), b, rfl, fun u ru => ru, t2, fun d' ed => ?_, Sat.here st sat (.bl b)⟩
        subst ed
        exact ⟨fv, st.sub _ _ h2⟩
    · exact sat.false
theorem tss_bad {ss : List Stmt} : TrSs X π ss (fun _ => none) := .mk fun W tk σ Γ B H Dn st sat => sat.false
end
end L2.TT

set_option Elab.async false
set_option linter.all false
set_option maxRecDepth 100000
set_option maxHeartbeats 1000001
namespace L2.TT
open PySem PyProof.Rows PySem.Spec

/-! ### sorted(d), d a dict of texts -/
def keyS : List Key → Option (List Str)
  | [] => some []
  | .inr x :: r => (keyS r).map (x :: ·)
  | .inl _ :: _ => none
theorem keyS_map : ∀ {ks : List Key} {ss : List Str}, keyS ks = some ss → ks = ss.map Sum.inr
  | [], _, e => by cases e; rfl
  | .inr x :: r, _, e => by
    simp only [keyS] at e
    cases k : keyS r with
    | none => rw [k] at e; cases e
    | some m => rw [k] at e; cases e; rw [keyS_map k]; rfl
  | .inl _ :: _, _, e => by cases e
def sortXL : D → Option D
  | .dic ks _ => match keyS ks with
    | some ss => if ss.length < 64 then some (.lst ((ss.mergeSort leS).map .str)) else none
    | none => none
  | x => sortL x
section
variable {X : Cx} {π : Pm} {a b c e : Expr} {f : M D} {pos p1 : Pos}
theorem nw_sortedX : NewCall X (fun vs H Q => (rSortedI X.K vs H Q ∨ rSortedS X.K vs H Q ∨ rSortedPO X.K vs H Q) ∨ (∃ (a : Addr) (kvs : List (Key × V)) (ks : List Str), vs = [.ref a] ∧ Rd H a (.dK kvs) ∧ kvs.map (·.1) = ks.map Sum.inr ∧ ks.length < 64 ∧
    ∀ ys p, ys.Perm ks → sortedS ys = true → H p = none → Q (.ref p) (upd H p (.lst (ys.map V.str))))) sortXL := fun B H x v z Q s rv e q => by
  cases x with
  | dic ks ds =>
    obtain ⟨p, kvs, rfl, h, ek, rs⟩ := rv
    simp only [sortXL] at e
    split at e
    · rename_i ss hss
      split at e
      · rename_i hl
        cases e
        refine .inr ⟨p, kvs, ss, rfl, h, by rw [ek]; exact keyS_map hss, hl, fun ys l pm so hp => q l _ hp ⟨_, upd_same, by rw [sortS_is so pm]; exact reps_strs _⟩⟩
      · cases e
    · cases e
  | _ => exact .inl (nw_sorted (X := X) B H _ v z Q s rv e q)
theorem tv_sortedX (hc : X.calm = true) (hf : TrP X π a f) (hm : X.mg "sorted" = none) (hg : Gl X "sorted" := by rfl) (hst : starEach [a] X.env = (false, eval a X.env) :: starEach [] X.env := by kernel_rfl) (hpl : (backTo pos (starEach [] X.env)).any (·.1) = false := by kernel_rfl) : TrV X π (.Call (.Name "sorted" p1) [a] [] pos) (op1n sortXL f) :=
  tv_call1 hf nw_sortedX (fun h => pe_callB ((cr_sortedI.or (cr_sortedS.or cr_sortedPO)).or (call_sortedD hc)) hg hm (by decide +kernel) h (he := hst) (hpl := hpl)) hst
end
end L2.TT

set_option Elab.async false
set_option linter.all false
set_option maxRecDepth 100000
set_option maxHeartbeats 1000001
namespace HX
open PySem PyProof.Rows PySem.Spec L2
/-! ### the head's facts, and a list of checks of one's own -/
abbrev Ck := PySem.W.Frag → Bool
def look (ck : List Ck) (fa : List He.Fa) (fn : List He.DefD) (K : PySem.W.Frag) : He.AlD × Bool := (He.obsD fa fn K, ck.all fun c => c K)
def lookG (n : Nat) (ck : List Ck) (fa : List He.Fa) (fn : List He.DefD) (g : Addr → Option Obj) : He.AlD × Bool := look ck fa fn (He.frG g (He.asD g n))
def hook (n : Nat) (ck : List Ck) (fa : List He.Fa) (fn : List He.DefD) : PySem.W.Hook where
  α := He.AlD × Bool
  obs := fun s => lookG n ck fa fn s.heap.get?
  val := fun _ => (He.valD fn, true)
  says := fun _ h => ∃ K : PySem.W.Frag, K.In h ∧ He.SaysD fa fn K ∧ ∀ c ∈ ck, c K = true
  of := fun _ _ e => ⟨_, He.frG_in, congrArg Prod.fst e, List.all_eq_true.mp (congrArg Prod.snd e)⟩
  keeps := fun _ _ _ w k => match w with
    | ⟨K, hK, c⟩ => ⟨K, PySem.W.Frag.In.keeps hK k, c⟩
theorem look_eq {n : Nat} {ck : List Ck} {fa : List He.Fa} {fn : List He.DefD} {g : Addr → Option Obj} {s : Shared} (h : ∀ a, g a = s.heap.get? a) : lookG n ck fa fn g = (hook n ck fa fn).obs s := by
  have e : g = s.heap.get? := (funext h)
  rw [e]
  rfl
/-! ### an own exception class with an __init__ of its own -/
def oexB (x : Str) : Ck := fun K => (match K.lookup (He.ga K x) with
  | some ⟨.type "type", _, .cls cd, sl⟩ => (match (cd.mro), (sl.toList) with
    | .ref D :: bm, [_, _, _, _, some (.builtin n), _] => D == He.ga K x && n == "ValueError.__new__" && !cd.hasDel && cd.hasDict && PySem.HandSPX.refsVE bm
    | _, _ => false)
  | _ => false) && decide (PySem.W.findIn K (.ref (He.ga K x)) "__setattr__" = some (some (.builtin "object.__setattr__"))) && decide (PySem.W.subIn K (.ref (He.ga K x)) (.type "BaseException") = some true) &&
  decide (PySem.W.typeIn K (.ref (He.ga K x)) = some (.type "type")) && PySem.W.keepIn K (.ref (He.ga K x))
theorem oexB_ok {x : Str} {K : PySem.W.Frag} (h : oexB x K = true) : OexC K (He.ga K x) := by
  unfold oexB at h
  simp only [decide_eq_true_eq, Bool.and_eq_true] at h
  obtain ⟨⟨⟨⟨h1, h2⟩, h3⟩, h4⟩, h5⟩ := h
  refine ⟨?_, h2, h3, h4, h5⟩
  split at h1
  · rename_i dd cd sl ho
    split at h1
    · rename_i D bm k0 k1 k2 k3 n k5 hm hs
      simp only [Bool.and_eq_true, beq_iff_eq, Bool.not_eq_true'] at h1
      obtain ⟨⟨⟨⟨rfl, rfl⟩, hdel⟩, hdict⟩, href⟩ := h1
      obtain ⟨nm, bs, mro, ns, qn, hd, sn, sub, ab, col, del⟩ := (cd)
      dsimp only at hm hdel hdict
      subst hm hdel hdict
      have hsl : sl = #[k0, k1, k2, k3, some (.builtin "ValueError.__new__"), k5] := by
        obtain ⟨l⟩ := sl
        simp only at hs
        rw [hs]
      subst hsl
      exact ⟨nm, qn, ns, bs, bm, sn, sub, ab, col, dd, k0, k1, k2, k3, k5, ho, href⟩
    · cases h1
  · cases h1
end HX

set_option Elab.async false
set_option linter.all false
set_option maxRecDepth 100000
set_option maxHeartbeats 1000001
namespace L2.TT
open PySem PyProof.Rows PySem.Spec
/-! ### running M on known slots -/
section
variable {α β : Type}
@[simp] theorem bd_r (m : M α) (k : α → M β) (g : List Sl) : bd m k g = match m g with
  | none => none
  | some (.ok a g') => k a g'
  | some (.er c fs g') => some (.er c fs g') := (rfl)
@[simp] theorem ret_r (a : α) (g : List Sl) : TT.ret a g = some (.ok a g) := (rfl)
@[simp] theorem opt_r (o : Option α) (g : List Sl) : opt o g = match o with
  | none => none
  | some a => some (.ok a g) := (rfl)
@[simp] theorem gv_r (i : Nat) (g : List Sl) : gv i g = match g[i]? with
  | some (.fz d) => some (.ok d g)
  | some (.ow d) => some (.ok d (g.set i (.fz d)))
  | some (.lk ks ds) => some (.ok (.dic ks ds) g)
  | _ => none := (rfl)
@[simp] theorem pk_r (i : Nat) (g : List Sl) : pk i g = match g[i]? with
  | some (.fz d) => some (.ok d g)
  | some (.ow d) => some (.ok d g)
  | some (.pn d) => some (.ok d g)
  | some (.lk ks ds) => some (.ok (.dic ks ds) g)
  | _ => none := (rfl)
@[simp] theorem rtv_r (i : Nat) (g : List Sl) : rtv i g = match g[i]? with
  | some (.fz d) => some (.ok (.rt d false) g)
  | some (.ow d) => some (.ok (.rt d true) (g.set i .no))
  | _ => none := (rfl)
def stOk : Sl → Bool
  | .pn _ => false
  | .ex _ _ => false
  | .lk _ _ => false
  | _ => true
@[simp] theorem stOk_no : stOk .no = true := (rfl)
@[simp] theorem stOk_fz (d : D) : stOk (.fz d) = true := (rfl)
@[simp] theorem stOk_ow (d : D) : stOk (.ow d) = true := (rfl)
@[simp] theorem stOk_pn (d : D) : stOk (.pn d) = false := (rfl)
@[simp] theorem stOk_lk (ks : List Key) (ds : List D) : stOk (.lk ks ds) = false := (rfl)
@[simp] theorem stS_r (i : Nat) (d : D) (o : Bool) (g : List Sl) : stS i d o g = match g[i]? with
  | some s => if stOk s = true then some (.ok () (g.set i (if o then .ow d else .fz d))) else none
  | none => none := by
  unfold stS
  cases g[i]? with
  | none => rfl
  | some s => cases s <;> rfl
@[simp] theorem seqM_r (u v : M Fl) (g : List Sl) : seqM u v g = match u g with
  | none => none
  | some (.ok .nx g') => v g'
  | some r => some r := (rfl)
@[simp] theorem ite_r (c : Prop) [Decidable c] (m n : M α) (g : List Sl) : (if c then m else n) g = if c then m g else n g := by split <;> rfl
@[simp] theorem ifM_r (t : M Bool) (f h : M α) (g : List Sl) : ifM t f h g = bd t (fun x => if x = true then f else h) g := (rfl)
@[simp] theorem notM_r (f : M Bool) (g : List Sl) : notM f g = bd f (fun x => ret (!x)) g := (rfl)
@[simp] theorem andM_r (f h : M Bool) (g : List Sl) : andM f h g = bd f (fun x => if x = true then h else ret false) g := (rfl)
@[simp] theorem orM_r (f h : M Bool) (g : List Sl) : orM f h g = bd f (fun x => if x = true then ret true else h) g := (rfl)
@[simp] theorem andV_r (f h : M D) (g : List Sl) : andV f h g = bd (TT.tv f) (fun x => if x = true then h else ret (.bl false)) g := (rfl)
@[simp] theorem orV_r (f h : M D) (g : List Sl) : orV f h g = bd (TT.tv f) (fun x => if x = true then ret (.bl true) else h) g := (rfl)
@[simp] theorem notV_r (f : M D) (g : List Sl) : notV f g = bd (TT.tv f) (fun x => ret (.bl (!x))) g := (rfl)
@[simp] theorem tv_r (f : M D) (g : List Sl) : TT.tv f g = bd f (fun x => opt (tst x)) g := (rfl)
@[simp] theorem chV_r (o o' : D → D → Option D) (f h k : M D) (g : List Sl) : chV o o' f h k g = bd f (fun x => bd h fun y => bd (opt (o x y)) fun z => bd (opt (tst z)) fun b => if b = true then bd k fun w => opt (o' y w) else ret (.bl false)) g := (rfl)
@[simp] theorem chT_r (o o' : D → D → Option D) (f h k : M D) (g : List Sl) : chT o o' f h k g = bd f (fun x => bd h fun y => bd (opt ((o x y).bind tst)) fun b => if b = true then bd k fun w => opt ((o' y w).bind tst) else ret false) g := (rfl)
@[simp] theorem op1_r (o : D → Option D) (f : M D) (g : List Sl) : op1 o f g = bd f (fun x => opt (o x)) g := (rfl)
@[simp] theorem op2_r (o : D → D → Option D) (f h : M D) (g : List Sl) : op2 o f h g = bd f (fun x => bd h fun y => opt (o x y)) g := (rfl)
@[simp] theorem op2v_r (o : D → D → Option D) (i : Nat) (h : M D) (g : List Sl) : op2v o i h g = bd (pk i) (fun _ => bd h fun y => bd (pk i) fun x => opt (o x y)) g := (rfl)
@[simp] theorem op1n_r (o : D → Option D) (f : M D) (g : List Sl) : op1n o f g = bd f (fun x => bd (opt (o x)) fun z => ret (z, true)) g := (rfl)
@[simp] theorem asV_r (f : M D) (g : List Sl) : asV f g = bd f (fun d => ret (d, false)) g := (rfl)
@[simp] theorem frz_r (f : M (D × Bool)) (g : List Sl) : frz f g = bd f (fun p => ret p.1) g := (rfl)
@[simp] theorem retM_r (f : M (D × Bool)) (g : List Sl) : retM f g = bd f (fun p => ret (.rt p.1 p.2)) g := (rfl)
@[simp] theorem exprM_r (f : M α) (g : List Sl) : exprM f g = bd f (fun _ => ret .nx) g := (rfl)
@[simp] theorem setM_r (i : Nat) (f : M (D × Bool)) (g : List Sl) : setM i f g = bd f (fun p => bd (stS i p.1 p.2) fun _ => ret .nx) g := (rfl)
@[simp] theorem asgM_r (f : M D) (gm : D → M Unit) (g : List Sl) : asgM f gm g = bd f (fun d => bd (gm d) fun _ => ret .nx) g := (rfl)
@[simp] theorem cnsM_r (f : M D) (fs : M (List D)) (g : List Sl) : cnsM f fs g = bd f (fun d => bd fs fun ds => ret (d :: ds)) g := (rfl)
@[simp] theorem cnsV_r (f : M (D × Bool)) (fs : M (List (D × Bool))) (g : List Sl) : cnsV f fs g = bd f (fun d => bd fs fun ds => ret (d :: ds)) g := (rfl)
@[simp] theorem tupM_r (fs : M (List D)) (g : List Sl) : tupM fs g = bd fs (fun ds => if ds.length ≤ 1000 then ret (.tup ds) else fun _ => none) g := (rfl)
@[simp] theorem lstM_r (fs : M (List D)) (g : List Sl) : lstM fs g = bd fs (fun ds => if ds.length ≤ 1000 then ret (.lst ds, true) else fun _ => none) g := (rfl)
@[simp] theorem pickM_r (ms : M (List (D × Bool))) (h : M D) (g : List Sl) : pickM ms h g = bd ms (fun ps => if ps.length ≤ 1000 then bd h fun x => opt (pickD ps x) else fun _ => none) g := (rfl)
@[simp] theorem catM_r (f h : M D) (g : List Sl) : catM f h g = bd f (fun x => bd h fun y => match x, y with
  | .lst xs, .lst ys => if xs.length + ys.length ≤ 1000000 then ret (.lst (xs ++ ys), true) else fun _ => none
  | _, _ => fun _ => none) g := (rfl)
@[simp] theorem repM_r (f h : M D) (g : List Sl) : repM f h g = bd f (fun x => bd h fun y => bd (opt (repD x y)) fun z => ret (z, true)) g := (rfl)
@[simp] theorem slcM_r (f : M D) (l u : M (Option Int)) (g : List Sl) : slcM f l u g = bd f (fun x => bd l fun lo => bd u fun hi => bd (opt (slcD x lo hi)) fun z => ret (z, true)) g := (rfl)
@[simp] theorem partM_r (f : M D) (g : List Sl) : partM f g = bd f (fun x => opt (partD x)) g := (rfl)
@[simp] theorem max2M_r (fs : M (List D)) (g : List Sl) : max2M fs g = bd fs (fun ds => opt (max2D ds)) g := (rfl)
@[simp] theorem joinM_r (f h : M D) (g : List Sl) : joinM f h g = bd f (fun x => if isS x = true then bd h fun y => opt (joinD x y) else fun _ => none) g := (rfl)
@[simp] theorem itM_r (f : M D) (g : List Sl) : itM f g = bd f (fun x => opt (itemsD x)) g := (rfl)
@[simp] theorem enumM_r (f : M D) (g : List Sl) : enumM f g = bd f (fun x => opt (enumD x)) g := (rfl)
def okR (j : Int) : Bool := decide (j.natAbs ≤ 1000000)
theorem okR_nat {n : Nat} (h : n ≤ 1000000) : okR (n : Int) = true := decide_eq_true (by omega)
theorem okR_int {n : Int} (h0 : 0 ≤ n) (h : n ≤ 1000000) : okR n = true := decide_eq_true (by omega)
@[simp] theorem rng1_r (f : M D) (g : List Sl) : rng1 f g = bd f (fun x => match x with
  | .int j => if okR j = true then ret (rngD 0 j.toNat) else fun _ => none
  | _ => fun _ => none) g := by
  unfold rng1
  congr 1
  funext x
  cases x <;> first | rfl | skip
  rename_i j
  show (if j.natAbs ≤ 1000000 then (ret (rngD 0 j.toNat) : M (List D)) else fun _ => none) = (if okR j = true then ret (rngD 0 j.toNat) else fun _ => none)
  by_cases h : j.natAbs ≤ 1000000
  · rw [if_pos h, if_pos (show okR j = true from decide_eq_true h)]
  · rw [if_neg h, if_neg (show ¬ okR j = true from fun z => h (of_decide_eq_true z))]
@[simp] theorem callM_r (n : Nat) (F : List D → Option Out) (fs : M (List D)) (g : List Sl) : callM n F fs g = bd fs (fun ds => if ds.length = n then bd (opt (F ds)) outM else fun _ => none) g := (rfl)
@[simp] theorem outV_r (d : D) (o : Bool) (g : List Sl) : outM (.v d o) g = some (.ok (d, o) g) := (rfl)
@[simp] theorem outE_r (c : Str) (fs : List (Str × D)) (g : List Sl) : outM (.e c fs) g = some (.er c fs g) := (rfl)
@[simp] theorem hasM_r (i : Nat) (m : M α) (g : List Sl) : hasM i m g = match ownD g i with
  | none => none
  | some _ => m g := (rfl)
@[simp] theorem callPM_r (i n : Nat) (F : D → List D → Option (D × Out)) (fs : M (List D)) (g : List Sl) : callPM i n F fs g = hasM i (bd fs fun ds => if ds.length = n then fun Γ => match ownD Γ i with
  | none => none
  | some d => match F d ds with
    | none => none
    | some (d', r) => outM r (reS Γ i d') else fun _ => none) g := (rfl)
@[simp] theorem setIxM_r (i : Nat) (f h : M D) (g : List Sl) : setIxM i f h g = bd f (fun v => hasM i (bd h fun x => fun Γ => match ownD Γ i with
  | none => none
  | some d => match setIxD d x v with
    | none => none
    | some d' => some (.ok .nx (reS Γ i d')))) g := (rfl)
@[simp] theorem ownM_r (i : Nat) (o : D → List D → Option (D × D)) (fs : M (List D)) (g : List Sl) : ownM i o fs g = hasM i (bd fs fun ds => fun Γ => match ownD Γ i with
  | none => none
  | some d => match o d ds with
    | none => none
    | some (d', z) => some (.ok (z, false) (reS Γ i d'))) g := (rfl)
@[simp] theorem tyM_r (T : String) (i : Nat) (m : M α) (g : List Sl) : tyM T i m g = match ownD g i with
  | some d => if tyD T d then m g else none
  | none => none := (rfl)
@[simp] theorem setFM_r (x f : Str) (i : Nat) (m : M D) (g : List Sl) : setFM x f i m g = bd m (fun v => fun Γ => match ownD Γ i with
  | none => none
  | some d => match setFD x f v d with
    | none => none
    | some d' => some (.ok .nx (reS Γ i d'))) g := (rfl)
@[simp] theorem raiseM_r (x f : Str) (h : M D) (g : List Sl) : raiseM x f h g = bd h (fun d => fun Γ => some (.er x [(f, d)] Γ)) g := (rfl)
@[simp] theorem onM_r (x m : Str) (n : Nat) (F : List D → Option Out) (h : M D) (fs : M (List D)) (g : List Sl) : onM x m n F h fs g = bd h (fun d => if isOf x m d = true then bd fs fun ds => if ds.length = n then bd (opt (F (d :: ds))) outM else fun _ => none else fun _ => none) g := (rfl)
@[simp] theorem inOwnM_r (x : Str) (k : Bool → Bool) (F : List D → Option Out) (f h : M D) (g : List Sl) : inOwnM x k F f h g = bd f (fun d => bd h fun o => if isCl x o = true then bd (opt (F [o, d])) (flgM k) else fun _ => none) g := (rfl)
@[simp] theorem flg_r (k : Bool → Bool) (b : Bool) (g : List Sl) : flgM k (.v (.bl b) false) g = some (.ok (.bl (k b)) g) := (rfl)
@[simp] theorem makeM_r (x : Str) (n : Nat) (F : D → List D → Option (D × Out)) (fs : M (List D)) (g : List Sl) : makeM x n F fs g = bd fs (makeD x n F) g := (rfl)
@[simp] theorem gcons_r (k : D → M Unit) (r : List D → M Unit) (d : D) (ds : List D) : gcons k r (d :: ds) = bd (k d) fun _ => r ds := (rfl)
@[simp] theorem gnil_r (g : List Sl) : gnil [] g = some (.ok () g) := (rfl)
@[simp] theorem gtupT_r (n : Nat) (k : List D → M Unit) (ds : List D) : gtup n k (.tup ds) = if ds.length = n then k ds else fun _ => none := (rfl)
@[simp] theorem gtupL_r (n : Nat) (k : List D → M Unit) (ds : List D) : gtup n k (.lst ds) = if ds.length = n then k ds else fun _ => none := (rfl)
@[simp] theorem compM_r (vs : List Nat) (mi : M (List D)) (gm : D → M Unit) (mt : M Bool) (me : M D) (g : List Sl) : compM vs mi gm mt me g = bd mi (fun ds => fun Γ => match compL vs gm mt me ds [] (dropS vs Γ) with
  | some (.ok acc Γ') => some (.ok (.lst acc, true) Γ')
  | _ => none) g := (rfl)
@[simp] theorem fun_none (g : List Sl) : (fun _ => none : M α) g = none := (rfl)
end
end L2.TT

set_option Elab.async false
set_option linter.all false
set_option maxRecDepth 100000
set_option maxHeartbeats 1000001
namespace L2.TT
open PySem PyProof.Rows PySem.Spec
/-! ### operations on known data -/
@[simp] theorem addI_ii (i j : Int) : addI (.int i) (.int j) = some (.int (i + j)) := (rfl)
@[simp] theorem subI_ii (i j : Int) : subI (.int i) (.int j) = some (.int (i - j)) := (rfl)
@[simp] theorem negI_i (i : Int) : negI (.int i) = some (.int (-i)) := (rfl)
@[simp] theorem mulI_ii (i j : Int) : mulI (.int i) (.int j) = if (-(2 ^ 64) < i ∧ i < 2 ^ 64) ∨ (-(2 ^ 64) < j ∧ j < 2 ^ 64) then some (.int (i * j)) else none := (rfl)
@[simp] theorem modI_ii (i j : Int) : modI (.int i) (.int j) = if 0 < j then some (.int (i % j)) else none := (rfl)
@[simp] theorem divI_ii (i j : Int) : divI (.int i) (.int j) = if 0 < j ∧ j < 1073741824 then some (.int (i / j)) else none := (rfl)
@[simp] theorem powI_ii (i j : Int) : powI (.int i) (.int j) = if 0 ≤ j ∧ j ≤ 1000000 ∧ i.natAbs < 2 ^ 64 then some (.int (i ^ j.toNat)) else none := (rfl)
@[simp] theorem eqD_ii (i j : Int) : eqD (.int i) (.int j) = some (.bl (decide (i = j))) := by
  unfold eqD eqB
  have h : ∀ k : Int, SeqAt.shaped (.int k) = true := fun _ => rfl
  simp only [toPy, h, and_self, if_true]
  show some (D.bl (i == j)) = _
  congr 2
@[simp] theorem neD_ii (i j : Int) : neD (.int i) (.int j) = some (.bl (!decide (i = j))) := by
  have h := eqD_ii i j
  unfold eqD at h
  unfold neD
  cases e : eqB (.int i) (.int j) with
  | none => (rw [e] at h; cases h)
  | some b => rw [e] at h; cases h; rfl
@[simp] theorem eqD_bb (i j : Bool) : eqD (.bl i) (.bl j) = some (.bl (i == j)) := by cases i <;> cases j <;> rfl
@[simp] theorem neD_bb (i j : Bool) : neD (.bl i) (.bl j) = some (.bl (i != j)) := by cases i <;> cases j <;> rfl
@[simp] theorem ltD_ii (i j : Int) : ltD (.int i) (.int j) = some (.bl (decide (i < j))) := (rfl)
@[simp] theorem leD_ii (i j : Int) : leD (.int i) (.int j) = some (.bl (decide (i ≤ j))) := (rfl)
@[simp] theorem gtD_ii (i j : Int) : gtD (.int i) (.int j) = some (.bl (decide (j < i))) := (rfl)
@[simp] theorem geD_ii (i j : Int) : geD (.int i) (.int j) = some (.bl (decide (j ≤ i))) := (rfl)
@[simp] theorem leD_ss (i j : Str) : leD (.str i) (.str j) = some (.bl (!decide (j.cps.toList < i.cps.toList))) := (rfl)
@[simp] theorem tst_b (b : Bool) : tst (.bl b) = some b := (rfl)
@[simp] theorem lenD_l (ds : List D) : lenD (.lst ds) = some (.int ds.length) := (rfl)
@[simp] theorem lenD_t (ds : List D) : lenD (.tup ds) = some (.int ds.length) := (rfl)
@[simp] theorem lenD_d (ks : List Key) (ds : List D) : lenD (.dic ks ds) = some (.int ks.length) := (rfl)
@[simp] theorem lenD_s (x : Str) : lenD (.str x) = if x.length ≤ 1000000 then some (.int x.length) else none := (rfl)
@[simp] theorem intD_i (i : Int) : intD (.int i) = some (.int i) := (rfl)
@[simp] theorem intD_b (b : Bool) : intD (.bl b) = some (.int (if b then 1 else 0)) := (rfl)
theorem atI_nat {α : Type} (ds : List α) (n : Nat) : L2.atI ds (n : Int) = ds[n]? := by
  unfold L2.atI L2.ixN
  rw [if_pos (by omega)]
  by_cases h : n < ds.length
  · rw [if_pos (by omega)]; simp
  · rw [if_neg (by omega), List.getElem?_eq_none (by omega)]; rfl
theorem setIx_nat (ds : List D) (n : Nat) (v : D) : setIxD (.lst ds) (.int (n : Int)) v = if n < ds.length then some (.lst (ds.set n v)) else none := by
  show (L2.ixN ds.length n).map (fun j => D.lst (ds.set j v)) = _
  unfold L2.ixN
  rw [if_pos (show (0 : Int) ≤ (n : Int) by omega)]
  by_cases h : n < ds.length
  · rw [if_pos (by omega), if_pos h]; simp
  · rw [if_neg (by omega), if_neg h]; rfl
@[simp] theorem atI_0 {α : Type} (ds : List α) : L2.atI ds 0 = ds[0]? := atI_nat ds 0
@[simp] theorem setIx_0 (ds : List D) (v : D) : setIxD (.lst ds) (.int 0) v = if 0 < ds.length then some (.lst (ds.set 0 v)) else none := setIx_nat ds 0 v
@[simp] theorem atI_1 {α : Type} (ds : List α) : L2.atI ds 1 = ds[1]? := atI_nat ds 1
@[simp] theorem setIx_1 (ds : List D) (v : D) : setIxD (.lst ds) (.int 1) v = if 1 < ds.length then some (.lst (ds.set 1 v)) else none := setIx_nat ds 1 v
@[simp] theorem atI_2 {α : Type} (ds : List α) : L2.atI ds 2 = ds[2]? := atI_nat ds 2
@[simp] theorem setIx_2 (ds : List D) (v : D) : setIxD (.lst ds) (.int 2) v = if 2 < ds.length then some (.lst (ds.set 2 v)) else none := setIx_nat ds 2 v
@[simp] theorem atI_3 {α : Type} (ds : List α) : L2.atI ds 3 = ds[3]? := atI_nat ds 3
@[simp] theorem setIx_3 (ds : List D) (v : D) : setIxD (.lst ds) (.int 3) v = if 3 < ds.length then some (.lst (ds.set 3 v)) else none := setIx_nat ds 3 v
@[simp] theorem atI_4 {α : Type} (ds : List α) : L2.atI ds 4 = ds[4]? := atI_nat ds 4
@[simp] theorem setIx_4 (ds : List D) (v : D) : setIxD (.lst ds) (.int 4) v = if 4 < ds.length then some (.lst (ds.set 4 v)) else none := setIx_nat ds 4 v
@[simp] theorem atI_5 {α : Type} (ds : List α) : L2.atI ds 5 = ds[5]? := atI_nat ds 5
@[simp] theorem setIx_5 (ds : List D) (v : D) : setIxD (.lst ds) (.int 5) v = if 5 < ds.length then some (.lst (ds.set 5 v)) else none := setIx_nat ds 5 v
@[simp] theorem atI_6 {α : Type} (ds : List α) : L2.atI ds 6 = ds[6]? := atI_nat ds 6
@[simp] theorem setIx_6 (ds : List D) (v : D) : setIxD (.lst ds) (.int 6) v = if 6 < ds.length then some (.lst (ds.set 6 v)) else none := setIx_nat ds 6 v
@[simp] theorem atI_7 {α : Type} (ds : List α) : L2.atI ds 7 = ds[7]? := atI_nat ds 7
@[simp] theorem setIx_7 (ds : List D) (v : D) : setIxD (.lst ds) (.int 7) v = if 7 < ds.length then some (.lst (ds.set 7 v)) else none := setIx_nat ds 7 v
@[simp] theorem atI_8 {α : Type} (ds : List α) : L2.atI ds 8 = ds[8]? := atI_nat ds 8
@[simp] theorem setIx_8 (ds : List D) (v : D) : setIxD (.lst ds) (.int 8) v = if 8 < ds.length then some (.lst (ds.set 8 v)) else none := setIx_nat ds 8 v
@[simp] theorem ixD_l (ds : List D) (i : Int) : ixD (.lst ds) (.int i) = L2.atI ds i := (rfl)
@[simp] theorem ixD_t (ds : List D) (i : Int) : ixD (.tup ds) (.int i) = L2.atI ds i := (rfl)
@[simp] theorem ixD_ds (ks : List Key) (ds : List D) (x : Str) : ixD (.dic ks ds) (.str x) = dlook ks ds (.inr x) := (rfl)
@[simp] theorem itemsD_l (ds : List D) : itemsD (.lst ds) = some ds := (rfl)
@[simp] theorem itemsD_t (ds : List D) : itemsD (.tup ds) = some ds := (rfl)
@[simp] theorem itemsD_s (z : Str) : itemsD (.str z) = some (sgs z) := (rfl)
@[simp] theorem enumD_l (ds : List D) : enumD (.lst ds) = some (enumL ds) := (rfl)
@[simp] theorem enumD_t (ds : List D) : enumD (.tup ds) = some (enumL ds) := (rfl)
@[simp] theorem listD_l (ds : List D) : listD (.lst ds) = some (.lst ds) := (rfl)
@[simp] theorem listD_t (ds : List D) : listD (.tup ds) = some (.lst ds) := (rfl)
@[simp] theorem listD_d (ks : List Key) (ds : List D) : listD (.dic ks ds) = some (.lst (ks.map keyD)) := (rfl)
@[simp] theorem tupD_l (ds : List D) : tupD (.lst ds) = some (.tup ds) := (rfl)
@[simp] theorem tupD_t (ds : List D) : tupD (.tup ds) = some (.tup ds) := (rfl)
@[simp] theorem isN_n : isN .non = some (.bl true) := (rfl)
@[simp] theorem isI_n (c : String) : isI c .non = some (.bl (isC "NoneType" c)) := (rfl)
@[simp] theorem isI_b (c : String) (b : Bool) : isI c (.bl b) = some (.bl (isC "bool" c)) := (rfl)
@[simp] theorem isI_i (c : String) (b : Int) : isI c (.int b) = some (.bl (isC "int" c)) := (rfl)
@[simp] theorem isI_s (c : String) (b : Str) : isI c (.str b) = some (.bl (isC "str" c)) := (rfl)
@[simp] theorem isI_l (c : String) (b : List D) : isI c (.lst b) = some (.bl (isC "list" c)) := (rfl)
@[simp] theorem isI_t (c : String) (b : List D) : isI c (.tup b) = some (.bl (isC "tuple" c)) := (rfl)
@[simp] theorem isI_d (c : String) (k : List Key) (b : List D) : isI c (.dic k b) = some (.bl (isC "dict" c)) := (rfl)
@[simp] theorem isI2_n (c c' : String) : isI2 c c' .non = some (.bl (isC "NoneType" c || isC "NoneType" c')) := (rfl)
@[simp] theorem isI2_b (c c' : String) (b : Bool) : isI2 c c' (.bl b) = some (.bl (isC "bool" c || isC "bool" c')) := (rfl)
@[simp] theorem isI2_i (c c' : String) (b : Int) : isI2 c c' (.int b) = some (.bl (isC "int" c || isC "int" c')) := (rfl)
@[simp] theorem isI2_s (c c' : String) (b : Str) : isI2 c c' (.str b) = some (.bl (isC "str" c || isC "str" c')) := (rfl)
@[simp] theorem isI2_l (c c' : String) (b : List D) : isI2 c c' (.lst b) = some (.bl (isC "list" c || isC "list" c')) := (rfl)
@[simp] theorem isI2_t (c c' : String) (b : List D) : isI2 c c' (.tup b) = some (.bl (isC "tuple" c || isC "tuple" c')) := (rfl)
@[simp] theorem isI2_d (c c' : String) (k : List Key) (b : List D) : isI2 c c' (.dic k b) = some (.bl (isC "dict" c || isC "dict" c')) := (rfl)
@[simp] theorem isN_b (b : Bool) : isN (.bl b) = some (.bl false) := (rfl)
@[simp] theorem isN_i (b : Int) : isN (.int b) = some (.bl false) := (rfl)
@[simp] theorem isN_s (b : Str) : isN (.str b) = some (.bl false) := (rfl)
@[simp] theorem isN_l (b : List D) : isN (.lst b) = some (.bl false) := (rfl)
@[simp] theorem isN_t (b : List D) : isN (.tup b) = some (.bl false) := (rfl)
@[simp] theorem partD_i (i : Int) : partD (.int i) = some (some i) := (rfl)
@[simp] theorem pickD_i (ps : List (D × Bool)) (i : Int) : pickD ps (.int i) = L2.atI ps i := (rfl)
@[simp] theorem appD_l (ds : List D) (y : D) : appD (.lst ds) [y] = if ds.length < 1000000 then some (.lst (ds ++ [y]), .non) else none := (rfl)
@[simp] theorem slcD_l (ds : List D) (a b : Option Int) : slcD (.lst ds) a b = some (.lst (cutD ds a b)) := (rfl)
@[simp] theorem slcD_k (ds : List D) (a b : Option Int) : slcD (.kl ds) a b = some (.lst (cutD ds a b)) := (rfl)
@[simp] theorem tyD_l (T : String) (ds : List D) : tyD T (.lst ds) = (T == "list") := (rfl)
end L2.TT

set_option Elab.async false
set_option linter.all false
set_option maxRecDepth 100000
set_option maxHeartbeats 1000001
namespace L2.TT
open PySem PyProof.Rows PySem.Spec
/-! ### what a run ends in -/
def Wp {α : Type} (r : Option (Rs α)) (Q : Rs α → Prop) : Prop := ∃ x, r = some x ∧ Q x
@[simp] theorem Wp_some {α : Type} (x : Rs α) (Q : Rs α → Prop) : Wp (some x) Q ↔ Q x := ⟨fun ⟨y, h, q⟩ => by cases h; exact q, fun q => ⟨x, rfl, q⟩⟩
@[simp] theorem Wp_none {α : Type} (Q : Rs α → Prop) : Wp none Q ↔ False := ⟨fun ⟨y, h, _⟩ => (nomatch h), fun q => q.elim⟩
theorem Wp.mono {α : Type} {r : Option (Rs α)} {P Q : Rs α → Prop} (h : Wp r P) (k : ∀ x, P x → Q x) : Wp r Q := let ⟨x, e, p⟩ := h; ⟨x, e, k x p⟩
def nxt (v : M Fl) (Q : Rs Fl → Prop) : Rs Fl → Prop
  | .ok .nx g => Wp (v g) Q
  | r => Q r
@[simp] theorem nxt_nx (v : M Fl) (Q : Rs Fl → Prop) (g : List Sl) : nxt v Q (.ok .nx g) = Wp (v g) Q := (rfl)
@[simp] theorem nxt_rt (v : M Fl) (Q : Rs Fl → Prop) (d : D) (o : Bool) (g : List Sl) : nxt v Q (.ok (.rt d o) g) = Q (.ok (.rt d o) g) := (rfl)
@[simp] theorem nxt_er (v : M Fl) (Q : Rs Fl → Prop) (c : Str) (fs : List (Str × D)) (g : List Sl) : nxt v Q (.er c fs g) = Q (.er c fs g) := (rfl)
theorem Wp_seq {u v : M Fl} {G : List Sl} {Q : Rs Fl → Prop} (h : Wp (u G) (nxt v Q)) : Wp (seqM u v G) Q := by
  obtain ⟨x, e, p⟩ := h
  unfold seqM
  rw [e]
  cases x with
  | er c fs g => exact (Wp_some _ _).mpr p
  | ok a g => cases a <;> first | exact p | exact (Wp_some _ _).mpr p
theorem Wp_bd {α β : Type} {m : M α} {k : α → M β} {G : List Sl} {Q : Rs β → Prop} (h : Wp (m G) (fun x => match x with | .ok a g => Wp (k a g) Q | .er c fs g => Q (.er c fs g))) : Wp (bd m k G) Q := by
  obtain ⟨x, e, p⟩ := h
  unfold bd
  rw [e]
  cases x with
  | er c fs g => exact (Wp_some _ _).mpr p
  | ok a g => exact p
theorem bd_run {α β : Type} {m : M α} {k : α → M β} {G G1 : List Sl} {a : α} (h : m G = some (.ok a G1)) : bd m k G = k a G1 := by unfold bd; rw [h]

/-! ### walks -/
def stepF (gm : D → M Unit) (body : M Fl) (d : D) : M Fl := bd (gm d) fun _ => body
theorem Wp_for {gm : D → M Unit} {body : M Fl} (hgm : ∀ d Γ c fs Γ', gm d Γ ≠ some (.er c fs Γ')) {Q : Rs Fl → Prop} (I : Nat → List Sl → Prop) :
    ∀ (ds : List D) (n : Nat) (G : List Sl), I n G →
    (∀ i d G, ds[i]? = some d → I (n + i) G → Wp (stepF gm body d G) (fun r => match r with | .ok .nx g => I (n + i + 1) g | .ok .ct g => I (n + i + 1) g | _ => False)) →
    (∀ G, I (n + ds.length) G → Q (.ok .nx G)) → Wp (forM gm body ds G) Q
  | [], n, G, h0, hs, he => (Wp_some _ _).mpr (he G h0)
  | d :: ds, n, G, h0, hs, he => by
    obtain ⟨x, e, p⟩ := hs 0 d G rfl h0
    unfold stepF bd at e
    unfold forM
    have ih := fun G1 (h1 : I (n + 1) G1) => Wp_for hgm I ds (n + 1) G1 h1 (fun i d' G' hi hI => by
      have := hs (i + 1) d' G' (by simpa using hi) (by rw [show n + (i + 1) = n + 1 + i by omega]; exact hI)
      rw [show n + (i + 1) + 1 = n + 1 + i + 1 by omega] at this; exact this) (fun G' hI => he G' (by rw [List.length_cons, show n + (ds.length + 1) = n + 1 + ds.length by omega]; exact hI))
    cases k : gm d G with
    | none => rw [k] at e; cases e
    | some r =>
      rw [k] at e
      cases r with
      | er c fs g => exact absurd k (hgm _ _ _ _ _)
      | ok u G1 =>
        have e : body G1 = some x := e
        simp only [e]
        cases x with
        | er c fs g => exact p.elim
        | ok a g => cases a <;> first | exact p.elim | exact ih _ p
def stepC (gm : D → M Unit) (mt : M Bool) (me : M D) (d : D) : M (Option D) := bd (gm d) fun _ => bd mt fun b => if b = true then bd me fun y => ret (some y) else ret none
theorem Wp_comp {vs : List Nat} {gm : D → M Unit} {mt : M Bool} {me : M D} {Q : Rs (List D) → Prop} (I : Nat → List D → List Sl → Prop) :
    ∀ (ds : List D) (n : Nat) (acc : List D) (G : List Sl), I n acc G →
    (∀ i d acc G, ds[i]? = some d → I (n + i) acc G → Wp (stepC gm mt me d G) (fun r => match r with | .ok (some y) g => acc.length < 1000000 ∧ I (n + i + 1) (acc ++ [y]) (dropS vs g) | .ok none g => I (n + i + 1) acc (dropS vs g) | _ => False)) →
    (∀ acc G, I (n + ds.length) acc G → Q (.ok acc G)) → Wp (compL vs gm mt me ds acc G) Q
  | [], n, acc, G, h0, hs, he => (Wp_some _ _).mpr (he acc G h0)
  | d :: ds, n, acc, G, h0, hs, he => by
    obtain ⟨x, e, p⟩ := hs 0 d acc G rfl h0
    unfold stepC bd at e
    unfold compL
    have ih := fun acc1 G1 (h1 : I (n + 1) acc1 G1) => Wp_comp (vs := vs) (gm := gm) (mt := mt) (me := me) I ds (n + 1) acc1 G1 h1 (fun i d' acc' G' hi hI => by
      have := hs (i + 1) d' acc' G' (by simpa using hi) (by rw [show n + (i + 1) = n + 1 + i by omega]; exact hI)
      rw [show n + (i + 1) + 1 = n + 1 + i + 1 by omega] at this; exact this) (fun acc' G' hI => he acc' G' (by rw [List.length_cons, show n + (ds.length + 1) = n + 1 + ds.length by omega]; exact hI))
    cases k : gm d G with
    | none => rw [k] at e; cases e
    | some r =>
      rw [k] at e
      cases r with
      | er c fs g => simp only [Option.some.injEq] at e; subst e; exact p.elim
      | ok u G1 =>
        simp only at e
        cases k2 : mt G1 with
        | none => rw [k2] at e; cases e
        | some r =>
          rw [k2] at e
          cases r with
          | er c fs g => simp only [Option.some.injEq] at e; subst e; exact p.elim
          | ok b G2 =>
            simp only at e
            cases b with
            | false =>
              simp only [Bool.false_eq_true, if_false, TT.ret, Option.some.injEq] at e
              subst e
              simp only [k2]
              exact ih _ _ p
            | true =>
              simp only [if_true] at e
              cases k3 : me G2 with
              | none => rw [k3] at e; cases e
              | some r =>
                rw [k3] at e
                cases r with
                | er c fs g => simp only [Option.some.injEq] at e; subst e; exact p.elim
                | ok y G3 =>
                  simp only [TT.ret, Option.some.injEq] at e
                  subst e
                  simp only [k2, k3]
                  rw [if_pos p.1]
                  exact ih _ _ p.2
theorem compL_step {vs : List Nat} {gm : D → M Unit} {mt : M Bool} {me : M D} {G G' : List Sl} {d : D} {ds acc : List D} {o : Option D} (h : stepC gm mt me d G = some (.ok o G')) :
    compL vs gm mt me (d :: ds) acc G = match o with
      | some y => if acc.length < 1000000 then compL vs gm mt me ds (acc ++ [y]) (dropS vs G') else none
      | none => compL vs gm mt me ds acc (dropS vs G') := by
  unfold stepC bd at h
  show (match gm d G with
    | some (.ok () Γ1) => match mt Γ1 with
      | some (.ok true Γ2) => match me Γ2 with
        | some (.ok y Γ3) => if acc.length < 1000000 then compL vs gm mt me ds (acc ++ [y]) (dropS vs Γ3) else none
        | _ => none
      | some (.ok false Γ2) => compL vs gm mt me ds acc (dropS vs Γ2)
      | _ => none
    | _ => none) = _
  cases k : gm d G with
  | none => rw [k] at h; cases h
  | some r =>
    rw [k] at h
    cases r with
    | er c fs g => cases h
    | ok u G1 =>
      simp only at h ⊢
      cases k2 : mt G1 with
      | none => rw [k2] at h; cases h
      | some r =>
        rw [k2] at h
        cases r with
        | er c fs g => cases h
        | ok b G2 =>
          simp only at h ⊢
          cases b with
          | false =>
            simp only [Bool.false_eq_true, if_false, TT.ret, Option.some.injEq, Rs.ok.injEq] at h
            obtain ⟨rfl, rfl⟩ := h
            rfl
          | true =>
            simp only [if_true] at h ⊢
            cases k3 : me G2 with
            | none => rw [k3] at h; cases h
            | some r =>
              rw [k3] at h
              cases r with
              | er c fs g => cases h
              | ok y G3 =>
                simp only [TT.ret, Option.some.injEq, Rs.ok.injEq] at h ⊢
                obtain ⟨rfl, rfl⟩ := h
                rfl
/-- a comprehension that leaves the slots as they were -/
theorem compL_map {vs : List Nat} {gm : D → M Unit} {mt : M Bool} {me : M D} {G : List Sl} {f : D → D} :
    ∀ (ds acc : List D), acc.length + ds.length ≤ 1000000 → (∀ d ∈ ds, ∃ G', stepC gm mt me d G = some (.ok (some (f d)) G') ∧ dropS vs G' = G) → compL vs gm mt me ds acc G = some (.ok (acc ++ ds.map f) G)
  | [], acc, hl, h => by simp [compL]
  | d :: ds, acc, hl, h => by
    have hl' : acc.length + (ds.length + 1) ≤ 1000000 := hl
    obtain ⟨G', e, eg⟩ := h d List.mem_cons_self
    rw [compL_step e]
    simp only
    rw [if_pos (by omega), eg, compL_map (f := f) ds (acc ++ [f d]) (by simp only [List.length_append, List.length_cons, List.length_nil]; omega) (fun d' hd => h d' (List.mem_cons_of_mem _ hd))]
    simp
theorem compL_filter {vs : List Nat} {gm : D → M Unit} {mt : M Bool} {me : M D} {G : List Sl} {p : D → Bool} :
    ∀ (ds acc : List D), acc.length + ds.length ≤ 1000000 → (∀ d ∈ ds, ∃ G', stepC gm mt me d G = some (.ok (if p d = true then some d else none) G') ∧ dropS vs G' = G) → compL vs gm mt me ds acc G = some (.ok (acc ++ ds.filter p) G)
  | [], acc, hl, h => by simp [compL]
  | d :: ds, acc, hl, h => by
    have hl' : acc.length + (ds.length + 1) ≤ 1000000 := hl
    obtain ⟨G', e, eg⟩ := h d List.mem_cons_self
    by_cases hp : p d = true
    · rw [if_pos hp] at e
      rw [compL_step e]
      simp only
      rw [if_pos (by omega), eg, compL_filter (p := p) ds (acc ++ [d]) (by simp only [List.length_append, List.length_cons, List.length_nil]; omega) (fun d' hd => h d' (List.mem_cons_of_mem _ hd))]
      simp [List.filter_cons, hp]
    · rw [if_neg hp] at e
      rw [compL_step e]
      simp only
      rw [eg, compL_filter (p := p) ds acc (by omega) (fun d' hd => h d' (List.mem_cons_of_mem _ hd))]
      simp [List.filter_cons, hp]
end L2.TT

set_option Elab.async false
set_option linter.all false
set_option maxRecDepth 100000
set_option maxHeartbeats 1000001
namespace L2.TT
open PySem PyProof.Rows PySem.Spec
section
variable {α β : Type}
@[simp] theorem lenD_k (ds : List D) : lenD (.kl ds) = some (.int ds.length) := (rfl)
@[simp] theorem intXD_i (i : Int) : intXD (.int i) = some (.int i) := (rfl)
@[simp] theorem intXD_b (b : Bool) : intXD (.bl b) = some (.int (if b then 1 else 0)) := (rfl)
@[simp] theorem addD_ii (i j : Int) : addD (.int i) (.int j) = some (.int (i + j)) := (rfl)
@[simp] theorem addD_tt (xs ys : List D) : addD (.tup xs) (.tup ys) = if xs.length + ys.length ≤ 1000000 then some (.tup (xs ++ ys)) else none := (rfl)
@[simp] theorem addD_ss (x y : Str) : addD (.str x) (.str y) = if x.length + y.length ≤ 1000000 then some (.str (x ++ y)) else none := (rfl)
@[simp] theorem timD_ii (i j : Int) : timD (.int i) (.int j) = if (-(2 ^ 64) < i ∧ i < 2 ^ 64) ∨ (-(2 ^ 64) < j ∧ j < 2 ^ 64) then some (.int (i * j)) else none := (rfl)
@[simp] theorem timD_ti (ds : List D) (k : Int) : timD (.tup ds) (.int k) = if ds ≠ [] ∧ ds.length ≤ 1000 ∧ 1 ≤ k ∧ k ≤ 1000 then some (.tup (List.replicate k.toNat ds).flatten) else none := timD_tup
@[simp] theorem strD_i (i : Int) : strD (.int i) = if i.natAbs ≤ 1000000 then some (.str (toString i)) else none := (rfl)
@[simp] theorem strD_s (x : Str) : strD (.str x) = some (.str x) := (rfl)
@[simp] theorem min2M_r (fs : M (List D)) (g : List Sl) : min2M fs g = bd fs (fun ds => opt (min2D ds)) g := (rfl)
@[simp] theorem min2D_ii (i j : Int) : min2D [.int i, .int j] = some (.int (if j < i then j else i)) := (rfl)
@[simp] theorem max2D_ii (i j : Int) : max2D [.int i, .int j] = some (.int (if j > i then j else i)) := (rfl)
@[simp] theorem splitM_r (f h : M D) (g : List Sl) : splitM f h g = bd f (fun x => if isS x = true then bd h fun y => bd (opt (splitD x y)) fun z => ret (z, true) else fun _ => none) g := (rfl)
@[simp] theorem isS_s (x : Str) : isS (.str x) = true := (rfl)
@[simp] theorem splitD_ss (a b : Str) : splitD (.str a) (.str b) = if (b.length == 0) = false ∧ a.length ≤ 1000000 then some (.lst ((Txt.split a b).map .str)) else none := (rfl)
@[simp] theorem rng2_r (f h : M D) (g : List Sl) : rng2 f h g = bd f (fun x => bd h fun y => match x, y with
  | .int i, .int j => if okR i = true ∧ okR j = true then ret (rngD i (j - i).toNat) else fun _ => none
  | _, _ => fun _ => none) g := by
  unfold rng2
  congr 1
  funext x
  congr 1
  funext y
  cases x <;> cases y <;> first | rfl | skip
  rename_i i j
  show (if i.natAbs ≤ 1000000 ∧ j.natAbs ≤ 1000000 then (ret (rngD i (j - i).toNat) : M (List D)) else fun _ => none) = (if okR i = true ∧ okR j = true then ret (rngD i (j - i).toNat) else fun _ => none)
  unfold okR
  simp only [decide_eq_true_eq]
@[simp] theorem slcXM_r (f : M D) (l u : M (Option Int)) (g : List Sl) : slcXM f l u g = bd f (fun x => bd l fun lo => bd u fun hi => opt (slcXD x lo hi)) g := (rfl)
@[simp] theorem slcXD_l (ds : List D) (a b : Option Int) : slcXD (.lst ds) a b = some (.lst (cutD ds a b), true) := (rfl)
@[simp] theorem slcXD_k (ds : List D) (a b : Option Int) : slcXD (.kl ds) a b = some (.lst (cutD ds a b), true) := (rfl)
@[simp] theorem slcXD_t (ds : List D) (a b : Option Int) : slcXD (.tup ds) a b = some (.tup (cutD ds a b), false) := (rfl)
@[simp] theorem augM_r (i : Nat) (f : M D) (g : List Sl) : augM i f g = bd (pk i) (fun x => bd f fun y => bd (opt (addI x y)) fun z => bd (stS i z false) fun _ => ret .nx) g := (rfl)
@[simp] theorem raise0M_r (x : Str) (g : List Sl) : raise0M x g = some (.er x [] g) := (rfl)
@[simp] theorem dispM_r (ks : List Str) (fs : M (List D)) (g : List Sl) : dispM ks fs g = bd fs (fun ds => ret (.dic (keysOfS ks) ds, true)) g := (rfl)
@[simp] theorem isXM_r (isx : Str → Str → Option Bool) (i : Nat) (x : Str) (g : List Sl) : isXM isx i x g = match g[i]? with
  | some (.ex c _) => opt ((isx c x).map .bl) g
  | _ => none := (rfl)
@[simp] theorem xfM_r (xok : Str → Str → Bool) (i : Nat) (f : Str) (g : List Sl) : xfM xok i f g = match g[i]? with
  | some (.ex c fs) => if xok c f = true then opt (xfD fs f) g else none
  | _ => none := (rfl)
@[simp] theorem isD_bb (a b : Bool) : isD (.bl a) (.bl b) = some (.bl (decide (a = b))) := (rfl)
@[simp] theorem isNotD_bb (a b : Bool) : isNotD (.bl a) (.bl b) = some (.bl (!decide (a = b))) := (rfl)
@[simp] theorem tryM_r (exm : Str → Str → Option Bool) (mb : M Fl) (qs : List Clm) (g : List Sl) : tryM exm mb qs g = match mb g with
  | some (.er c fs Γ') => if noEx Γ' then pickCl exm c fs Γ' qs else none
  | r => r := (rfl)
@[simp] theorem sortXL_l (ds : List D) : sortXL (.lst ds) = sortL (.lst ds) := (rfl)
theorem keyS_inr (ss : List Str) : keyS (ss.map Sum.inr) = some ss := by
  induction ss with
  | nil => rfl
  | cons x r ih => simp [keyS, ih]
@[simp] theorem sortXL_d (ss : List Str) (ds : List D) : sortXL (.dic (ss.map Sum.inr) ds) = if ss.length < 64 then some (.lst ((ss.mergeSort leS).map .str)) else none := by
  simp only [sortXL, keyS_inr]
@[simp] theorem noEx_nil : noEx [] = true := (rfl)
@[simp] theorem noEx_cons (s : Sl) (g : List Sl) : noEx (s :: g) = (!isEx s && noEx g) := by
  unfold noEx
  simp
@[simp] theorem isEx_pn (d : D) : isEx (.pn d) = false := (rfl)
@[simp] theorem isEx_fz (d : D) : isEx (.fz d) = false := (rfl)
@[simp] theorem isEx_ow (d : D) : isEx (.ow d) = false := (rfl)
@[simp] theorem isEx_no : isEx .no = false := (rfl)
@[simp] theorem isEx_lk (ks : List Key) (ds : List D) : isEx (.lk ks ds) = false := (rfl)
end
end L2.TT

set_option Elab.async false
set_option linter.all false
set_option maxRecDepth 100000
set_option maxHeartbeats 1000001
namespace L2.TT
open PySem PyProof.Rows PySem.Spec
/-! rules for dicts with tuple keys -/
section
variable (f : M D) (g : List Sl) (ks : List Key) (kt : List (List Key)) (ds : List D)
@[simp] theorem itemsM_r : itemsM f g = bd f (fun x => opt (itsD x)) g := (rfl)
@[simp] theorem itemsD_dic : itemsD (.dic ks ds) = some (ks.map keyD) := (rfl)
@[simp] theorem itemsD_dit : itemsD (.dit kt ds) = some (kt.map tkeyD) := (rfl)
@[simp] theorem itsD_dic : itsD (.dic ks ds) = if ks.length = ds.length then some (pairD ks ds) else none := (rfl)
@[simp] theorem itsD_dit : itsD (.dit kt ds) = if kt.length = ds.length then some (pairT kt ds) else none := (rfl)
@[simp] theorem isI_dit (c : String) : isI c (.dit kt ds) = some (.bl (isC "dict" c)) := (rfl)
@[simp] theorem isI2_dit (c c' : String) : isI2 c c' (.dit kt ds) = some (.bl (isC "dict" c || isC "dict" c')) := (rfl)
@[simp] theorem tyN_dit : tyN (.dit kt ds) = some "dict" := (rfl)
end
end L2.TT

set_option Elab.async false
set_option linter.all false
set_option maxRecDepth 100000
set_option maxHeartbeats 1000001
namespace L2.TT
open PySem PyProof.Rows PySem.Spec

/-! ### the same data, its nesting -/
mutual
def sameB : D → D → Bool
  | .non, .non => true
  | .bl a, .bl b => a == b
  | .int a, .int b => decide (a = b)
  | .str a, .str b => decide (a = b)
  | .lst a, .lst b => samesB a b
  | .tup a, .tup b => samesB a b
  | .dic k a, .dic l b => decide (k = l) && samesB a b
  | .dit k a, .dit l b => decide (k = l) && samesB a b
  | _, _ => false
def samesB : List D → List D → Bool
  | [], [] => true
  | a :: r, b :: t => sameB a b && samesB r t
  | _, _ => false
end
mutual
theorem sameB_eq : ∀ {x y : D}, sameB x y = true → x = y
  | .non, y, h => by cases y <;> simp [sameB] at h; rfl
  | .bl a, y, h => by cases y <;> simp [sameB] at h; rw [h]
  | .int a, y, h => by cases y <;> simp [sameB] at h; rw [h]
  | .str a, y, h => by cases y <;> simp [sameB] at h; rw [h]
  | .lst a, y, h => by cases y <;> simp [sameB] at h; rw [samesB_eq h]
  | .tup a, y, h => by cases y <;> simp [sameB] at h; rw [samesB_eq h]
  | .dic k a, y, h => by cases y <;> simp [sameB] at h; rw [h.1, samesB_eq h.2]
  | .dit k a, y, h => by cases y <;> simp [sameB] at h; rw [h.1, samesB_eq h.2]
  | .kl a, y, h => by cases y <;> simp [sameB] at h
  | .obj c n a, y, h => by cases y <;> simp [sameB] at h
theorem samesB_eq : ∀ {x y : List D}, samesB x y = true → x = y
  | [], y, h => by cases y <;> simp [samesB] at h; rfl
  | a :: r, y, h => by
    cases y with
    | nil => simp [samesB] at h
    | cons b t =>
      simp [samesB] at h
      rw [sameB_eq h.1, samesB_eq h.2]
end
mutual
def dep : D → Nat
  | .lst a => deps a + 1
  | .tup a => deps a + 1
  | .dic _ a => deps a + 1
  | .dit _ a => deps a + 1
  | _ => 0
def deps : List D → Nat
  | [] => 0
  | a :: r => max (dep a) (deps r)
end

/-! ### two dicts, entry by entry -/
/-- a loop that counts: each turn goes on -/
theorem wp_count {β : Type} {prog : Program} {w : World} {R : Around} {X : Value → Shared → Prop} {n : Nat} {f : Nat → β → Sem (ForInStep β)} {T : β → Shared → Prop} (I : Nat → β → Shared → Prop)
    (turn : ∀ i acc z, i < n → I i acc z → wpAny (model prog w) R (f i acc) (fun r z' => ∃ c, r = .yield c ∧ I (i + 1) c z') X z) (fin : ∀ acc z, I n acc z → T acc z) :
    ∀ (k i : Nat) (acc : β) (z : Shared), i + k = n → I i acc z → wpAny (model prog w) R (forIn (List.range' i k) acc f) T X z
  | 0, i, acc, z, e, h => by
    rw [show i = n by omega] at h
    rw [List.range'_zero, List.forIn_nil]
    exact wpAny_pure (fin acc z h)
  | k + 1, i, acc, z, e, h => by
    rw [List.range'_succ]
    rw [List.forIn_cons]
    refine wpAny_bind (wpAny_mono (turn i acc z (by omega) h) (fun r z' w => ?_) fun _ _ x => x)
    obtain ⟨c, rfl, h2⟩ := w
    exact wp_count I turn fin k (i + 1) c z' (by omega) h2
section
variable {w : World} {prog : Program} {E : Value → Shared → Prop} {A : Around} {s : Shared}
theorem same_raw {nm : String} {a b : Addr} {oa ob : Obj} {es fs : Array DictEntry} {ep fp : Nat} {Q : Bool → Shared → Prop} (na : (a == sysModules) = false) (nb : (b == sysModules) = false) (ha : s.heap.get? a = some oa) (da : oa.data = .dict es ep) (hb : s.heap.get? b = some ob) (db : ob.data = .dict fs fp) (size : es.size = fs.size)
    (step : ∀ i (h : i < es.size), ∃ j, ∃ hj : j < fs.size, (∀ (R : Option Nat → Shared → Prop), R (some j) s → wpAny (model prog w) A (dictFind b es[i].key es[i].hash) R E s) ∧ SeqAt.EqP prog w A s es[i].val fs[j].val true) (told : Q true s) : wpAny (model prog w) A (Builtin.Dict.samePairs nm a b) Q E s := by
  unfold Builtin.Dict.samePairs
  unfold Builtin.Dict.showsAll
  simp only [if_neg (by rw [na]; decide : ¬ (a == sysModules) = true), if_neg (by rw [nb]; decide : ¬ (b == sysModules) = true)]
  refine wpAny_bind (wpAny_pure (wpAny_bind (wpAny_pure (wpAny_bind (wpAny_dictEntries ha da ?_)))))
  refine wpAny_bind (wpAny_dictEntries hb db ?_)
  rw [if_neg (by simp [size])]
  refine wpAny_bind (wpAny_dictEpoch ha da (wpAny_bind ?_))
  simp only [Std.Legacy.Range.forIn_eq_forIn_range', Std.Legacy.Range.size, Nat.add_sub_cancel, Nat.sub_zero, Nat.div_one]
  refine wp_count (n := es.size) (fun _ acc z => z = s ∧ acc = (none, ())) (fun i acc z lt st => ?_) (fun acc z st => ?_) es.size 0 _ s (Nat.zero_add _) ⟨rfl, rfl⟩
  · obtain ⟨rfl, rfl⟩ := st
    obtain ⟨j, hj, found, eq⟩ := step i lt
    refine wpAny_bind (wpAny_dictEntries ha da ?_)
    simp only [Array.getElem?_eq_getElem lt]
    refine wpAny_bind (m := holding [es[i].key, es[i].val] _) (wpAny_holding (wpAny_bind (found _ (wpAny_bind (wpAny_dictEntries hb db ?_)))))
    simp only [Array.getElem?_eq_getElem hj]
    refine wpAny_holding (eq _ _ ?_)
    refine wpAny_bind (wpAny_dictEpoch ha da ?_)
    rw [if_neg (by simp)]
    exact wpAny_pure ⟨_, rfl, rfl, rfl⟩
  · obtain ⟨rfl, rfl⟩ := st
    exact wpAny_pure told
theorem rc_raw {a b : Addr} {oa ob : Obj} {es fs : Array DictEntry} {ep fp : Nat} {Q : Value → Shared → Prop} (units : A.units < cLine) (na : (a == sysModules) = false) (nb : (b == sysModules) = false) (ha : s.heap.get? a = some oa) (ea : oa.ExactDict) (da : oa.data = .dict es ep) (hb : s.heap.get? b = some ob) (eb : ob.ExactDict) (db : ob.data = .dict fs fp) (size : es.size = fs.size)
    (step : ∀ i (h : i < es.size), ∃ j, ∃ hj : j < fs.size, (∀ (E : Value → Shared → Prop) (R : Option Nat → Shared → Prop), R (some j) s → wpAny (model prog w) A.in1 (dictFind b es[i].key es[i].hash) R E s) ∧ SeqAt.EqP prog w A.in1 s es[i].val fs[j].val true) (told : Q (.bool true) s) :
    wpAny (model prog w) A (richCompare .Eq (.ref a) (.ref b)) Q E s := by
  have ta : s.TypeIs (.ref a) "dict" := ⟨oa, ha, ea.1⟩
  have tb : s.TypeIs (.ref b) "dict" := ⟨ob, hb, eb.1⟩
  refine wpAny_richCompare_same_room (op := .Eq) ta tb PySem.F.slot_dict_eq (wpAny_call_entry PySem.F.slot_dict_eq ta PySem.F.entry_dict_eq ?_ (PySem.F.args_dict_eq_2 _ _)) units
  refine wpAny_bind (m := Builtin.Dict.dictSlotArgs "__eq__" ⟨[.ref a, .ref b], []⟩) ?_
  simp only [Builtin.Dict.dictSlotArgs]
  refine wpAny_bind (wpAny_notOrdered_dict ta (wpAny_pure (wpAny_bind (wpAny_isInstance (T := "dict") tb PySem.F.sub_dict_dict ?_))))
  rw [if_neg (by decide)]
  refine wpAny_bind (wpAny_pure (wpAny_bind (wpAny_pure (wpAny_bind (same_raw na nb ha da hb db size (fun i h => ?_) ?_)))))
  · obtain ⟨j, hj, f, e⟩ := step i h
    exact ⟨j, hj, f _, e⟩
  · exact wpAny_pure ⟨_, rfl, (fun x => nomatch x), told⟩
end
end L2.TT

set_option Elab.async false
set_option linter.all false
set_option maxRecDepth 100000
set_option maxHeartbeats 1000001
namespace L2.TT
open PySem PyProof.Rows PySem.Spec

/-! ### the same data is equal, wherever it lies -/
section
variable {X : Cx} {pins : List (Addr × Obj)} {τ : L2.St} {B H : Hp} {z : Shared}
theorem at_vals {vs : List V} {us : List Value} (r : Vals vs us) {i : Nat} (h : i < us.length) : ∃ v, vs[i]? = some v ∧ RelV v us[i] := by
  have l : i < vs.length := by rw [r.length]; exact h
  obtain ⟨u, e, q⟩ := r.get (List.getElem?_eq_getElem l)
  rw [List.getElem?_eq_getElem h] at e
  cases e
  exact ⟨_, List.getElem?_eq_getElem l, q⟩
/-- what a locked or open dict of int and text keys holds, by place -/
def EqL (X : Cx) (z : Shared) (A : Around) (vs us : List V) : Prop := ∀ (i : Nat) v u, vs[i]? = some v → us[i]? = some u → ∀ x y, RelV v x → RelV u y → SeqAt.EqP X.prog X.w A z x y true
theorem eq_lists (inv : Inv X pins τ H z) {A : Around} {a b : Addr} {xs ys : List V} (units : A.units < cLine) (ha : H a = some (.lst xs)) (hb : H b = some (.lst ys)) (len : xs.length = ys.length) (items : EqL X z A.in1 xs ys) (E Q : Value → Shared → Prop) (told : Q (.bool true) z) :
    wpAny (model X.prog X.w) A (richCompare .Eq (.ref a) (.ref b)) Q E z := by
  obtain ⟨_, us, n, r1, at1⟩ := inv.hok a _ ha
  obtain ⟨_, ws, m, r2, at2⟩ := inv.hok b _ hb
  refine GQ.rc_listG (N := xs.length) units (fun _ s' => s' = z) (fun i s' q => ?_) (fun s' q => by rw [q]; exact told) rfl
  subst q
  refine ⟨us.toArray, ws.toArray, n, m, at1, at2, by rw [List.size_toArray, ← r1.length], by rw [List.size_toArray, ← r2.length, len], fun h1 h2 => ?_⟩
  obtain ⟨v, e1, q1⟩ := at_vals r1 (i := i) (by simpa using h1)
  obtain ⟨u, e2, q2⟩ := at_vals r2 (i := i) (by simpa using h2)
  have eq : SeqAt.EqP X.prog X.w A.in1 s' us.toArray[i] ws.toArray[i] true := by simpa using items i v u e1 e2 _ _ q1 q2
  exact eq E _ ⟨rfl, rfl⟩
theorem eq_tups (inv : Inv X pins τ H z) {A : Around} {a b : Addr} {xs ys : List V} (units : A.units < cLine) (ha : H a = some (.tup xs)) (hb : H b = some (.tup ys)) (len : xs.length = ys.length) (items : EqL X z A.in1 xs ys) (E Q : Value → Shared → Prop) (told : Q (.bool true) z) :
    wpAny (model X.prog X.w) A (richCompare .Eq (.ref a) (.ref b)) Q E z := by
  obtain ⟨us, r1, at1, _⟩ := inv.tuple (SqT.of ha)
  obtain ⟨ws, r2, at2, _⟩ := inv.tuple (SqT.of hb)
  refine GQ.rc_tupG (items := us.toArray) (items2 := ws.toArray) (by rw [List.size_toArray, List.size_toArray, ← r1.length, ← r2.length, len]) units (fun _ s' => s' = z) at1 at2 (fun i h1 h2 s' q => ?_) (fun s' q => by rw [q]; exact told) rfl
  subst q
  obtain ⟨v, e1, q1⟩ := at_vals r1 (i := i) (by simpa using h1)
  obtain ⟨u, e2, q2⟩ := at_vals r2 (i := i) (by simpa using h2)
  have eq : SeqAt.EqP X.prog X.w A.in1 s' us.toArray[i] ws.toArray[i] true := by simpa using items i v u e1 e2 _ _ q1 q2
  exact eq E _ ⟨rfl, rfl⟩
theorem key_nodup {kvs : List (Key × V)} {a : Addr} (inv : Inv X pins τ H z) (h : Rd H a (.dK kvs)) : (kvs.map (·.1)).Nodup := by
  obtain ⟨_, _, vs, rel, _, _, _, _, _, _, _, _, nn⟩ := dk_rd inv.hok h
  rw [KV.keys rel]
  exact nn
theorem val_at {κ : Type} [DecidableEq κ] : ∀ {kvs : List (κ × V)}, (kvs.map (·.1)).Nodup → ∀ {i : Nat} {k : κ} {v : V}, kvs[i]? = some (k, v) → valV kvs k = some v
  | p :: r, nd, 0, k, v, h => by
    cases Option.some.inj (List.getElem?_cons_zero.symm.trans h)
    exact valV_pos rfl
  | p :: r, nd, i + 1, k, v, h => by
    rw [List.getElem?_cons_succ] at h
    simp only [List.map_cons, List.nodup_cons] at nd
    rw [valV_neg (fun e => nd.1 (by rw [e]; exact List.mem_map.mpr ⟨(k, v), List.mem_of_getElem? h, rfl⟩))]
    exact val_at nd.2 h
theorem eq_dicts (inv : Inv X pins τ H z) {A : Around} {a b : Addr} {ks ls : List (Key × V)} (units : A.units < cLine) (ha : Rd H a (.dK ks)) (hb : Rd H b (.dK ls)) (keys : ks.map (·.1) = ls.map (·.1)) (items : EqL X z A.in1 (ks.map (·.2)) (ls.map (·.2))) (E Q : Value → Shared → Prop) (told : Q (.bool true) z) :
    wpAny (model X.prog X.w) A (richCompare .Eq (.ref a) (.ref b)) Q E z := by
  have nd := key_nodup inv hb
  obtain ⟨_, na, va, ra, da⟩ := dk_rd inv.hok ha
  obtain ⟨_, nb, vb, rb, db⟩ := dk_rd inv.hok hb
  have len : ks.length = ls.length := by simpa using congrArg List.length keys
  refine PySem.W.rcP_dicts (knd := mixKind X.prog X.w) (r := true) na nb da db units (fun _ => hits_run (F := fun v u => ∃ i, (ks.map (·.2))[i]? = some v ∧ (ls.map (·.2))[i]? = some u) (fun v u x y ⟨i, e1, e2⟩ r1 r2 => items i v u e1 e2 x y r1 r2) rb ra fun p hp => ?_) E Q ?_
  · obtain ⟨i, hi, rfl⟩ := List.getElem_of_mem hp
    have hi2 : i < ls.length := by rw [← len]; exact hi
    have same : ks[i].1 = ls[i].1 := by
      have e := congrArg (fun l : List Key => l[i]?) keys
      simp only [List.getElem?_map, List.getElem?_eq_getElem hi, List.getElem?_eq_getElem hi2, Option.map_some, Option.some.injEq] at e
      exact e
    refine ⟨ls[i].2, by rw [same]; exact val_at nd (i := i) (List.getElem?_eq_getElem hi2), i, ?_, ?_⟩
    · rw [List.getElem?_map, List.getElem?_eq_getElem hi]; rfl
    · rw [List.getElem?_map, List.getElem?_eq_getElem hi2]; rfl
  · rw [show (va.length == vb.length && true) = true from by rw [← ra.length, ← rb.length, len]; simp]
    exact told
theorem eq_dictsT (inv : Inv X pins τ H z) {A : Around} {a b : Addr} {ks ls : List (List Key × V)} (units : A.units + 1 < cLine) (ha : Rd H a (.dT ks)) (hb : Rd H b (.dT ls)) (keys : ks.map (·.1) = ls.map (·.1)) (items : EqL X z A.in1 (ks.map (·.2)) (ls.map (·.2))) (E Q : Value → Shared → Prop) (told : Q (.bool true) z) :
    wpAny (model X.prog X.w) A (richCompare .Eq (.ref a) (.ref b)) Q E z := by
  obtain ⟨_, na, xs, ra, oa, es, ep, a1, a2, a3, a4, a5, a6⟩ := dt_rd inv.hok ha
  obtain ⟨_, nb, ys, rb, ob, fs, fp, b1, b2, b3, b4, b5, b6⟩ := dt_rd inv.hok hb
  have len : ks.length = ls.length := by simpa using congrArg List.length keys
  have l1 : es.size = ks.length := by rw [size_of_entries a4, Paired.length ra]
  have l2 : fs.size = ls.length := by rw [size_of_entries b4, Paired.length rb]
  refine rc_raw (by omega) na nb a1 a2 a3 b1 b2 b3 (by omega) (fun i h => ?_) told
  have hi : i < ks.length := by omega
  have hi2 : i < ls.length := by omega
  obtain ⟨⟨k1, q1, v1⟩, x1, s1, t1, u1⟩ := paired_get ra (List.getElem?_eq_getElem hi)
  obtain ⟨⟨k2, q2, v2⟩, x2, s2, t2, u2⟩ := paired_get rb (List.getElem?_eq_getElem hi2)
  have same : ks[i].1 = ls[i].1 := by
    have e := congrArg (fun l : List (List Key) => l[i]?) keys
    simp only [List.getElem?_map, List.getElem?_eq_getElem hi, List.getElem?_eq_getElem hi2, Option.map_some, Option.some.injEq] at e
    exact e
  simp only at s1 s2 t1 t2 u1 u2
  subst s1 s2
  have en1 := entry_at a4 i
  have en2 := entry_at b4 i
  rw [x1, Array.getElem?_eq_getElem h] at en1
  have hf : i < fs.size := by omega
  rw [x2, Array.getElem?_eq_getElem hf] at en2
  have e1 := Option.some.inj en1
  have e2 := Option.some.inj en2
  refine ⟨i, hf, fun E R told => ?_, ?_⟩
  · rw [e1]
    show wpAny (model X.prog X.w) A.in1 (dictFind b (.ref q1) ((tupleKind (mixKind X.prog X.w)).hash ks[i].1)) R E z
    refine wpAny_dictFind_heap (tupleKind_room_in1 units) (key_of inv.hok t1) b1 b3 b4 b5 b6 (fun none_ => ?_) (fun j p hj => ?_)
    · exact absurd x2 (by rw [← same]; exact none_ i _)
    · have jl : j < ys.length := (List.getElem?_eq_some_iff.mp hj).1
      have il : i < ys.length := (List.getElem?_eq_some_iff.mp x2).1
      have eq : i = j := by
        rw [same] at hj
        refine (List.getElem?_inj (l := ys.map (·.1)) (by simpa using il) b6).mp ?_
        rw [List.getElem?_map, List.getElem?_map, x2, hj]; rfl
      subst eq
      exact told
  · rw [e1, e2]
    exact items i _ _ (by rw [List.getElem?_map, List.getElem?_eq_getElem hi]; rfl) (by rw [List.getElem?_map, List.getElem?_eq_getElem hi2]; rfl) v1 v2 u1 u2
end
end L2.TT

set_option Elab.async false
set_option linter.all false
set_option maxRecDepth 100000
set_option maxHeartbeats 1000001
namespace L2.TT
open PySem PyProof.Rows PySem.Spec

section
variable {X : Cx} {pins : List (Addr × Obj)} {τ : L2.St} {B H : Hp} {z : Shared}
theorem eq_refs {A : Around} {a b : Addr} {x y : Value} (rx : RelV (.ref a) x) (ry : RelV (.ref b) y) (h : a ≠ b → ∀ (E Q : Value → Shared → Prop), Q (.bool true) z → wpAny (model X.prog X.w) A (richCompare .Eq (.ref a) (.ref b)) Q E z) : SeqAt.EqP X.prog X.w A z x y true := by
  cases (show (x : Value) = .ref a from rx)
  cases (show (y : Value) = .ref b from ry)
  by_cases e : a = b
  · subst e; exact (SeqAt.EqAt.same _).eqP
  · exact SeqAt.eqP_refs e (h e)
mutual
theorem eq_data (inv : Inv X pins τ H z) (s : Same B H) : ∀ {d : D} {A : Around} {v u : V}, Rep X.K B v d → Rep X.K B u d → sameB d d = true → A.units + dep d < cLine → ∀ {x y : Value}, RelV v x → RelV u y → SeqAt.EqP X.prog X.w A z x y true
  | .non, A, _, _, .non, .non, _, _, x, y, rx, ry => (eqAt_same rx ry rfl).eqP
  | .bl b, A, _, _, .bl _, .bl _, _, _, x, y, rx, ry => (eqAt_same rx ry rfl).eqP
  | .int b, A, _, _, .int _, .int _, _, _, x, y, rx, ry => (eqAt_same rx ry rfl).eqP
  | .str b, A, _, _, .str _, .str _, _, _, x, y, rx, ry => (eqAt_same rx ry rfl).eqP
  | .lst ds, A, _, _, .lst h r, .lst h2 r2, hs, hu, x, y, rx, ry => eq_refs rx ry fun _ E Q q => by
    simp only [sameB] at hs
    simp only [dep] at hu
    exact eq_lists inv (by omega) (s _ _ h) (s _ _ h2) (by rw [r.length, r2.length]) (eq_datas inv s r r2 hs (by show A.units + 1 + deps ds < cLine; omega)) E Q q
  | .tup ds, A, _, _, .tup h r, .tup h2 r2, hs, hu, x, y, rx, ry => eq_refs rx ry fun _ E Q q => by
    simp only [sameB] at hs
    simp only [dep] at hu
    exact eq_tups inv (by omega) (s _ _ h) (s _ _ h2) (by rw [r.length, r2.length]) (eq_datas inv s r r2 hs (by show A.units + 1 + deps ds < cLine; omega)) E Q q
  | .dic ks ds, A, _, _, .dic h e r, .dic h2 e2 r2, hs, hu, x, y, rx, ry => eq_refs rx ry fun _ E Q q => by
    simp only [sameB, Bool.and_eq_true] at hs
    simp only [dep] at hu
    exact eq_dicts inv (by omega) (.inr (h.imp fun _ w => s _ _ w)) (.inr (h2.imp fun _ w => s _ _ w)) (e.trans e2.symm) (eq_datas inv s r r2 hs.2 (by show A.units + 1 + deps ds < cLine; omega)) E Q q
  | .dit ks ds, A, _, _, .dit h e r, .dit h2 e2 r2, hs, hu, x, y, rx, ry => eq_refs rx ry fun _ E Q q => by
    simp only [sameB, Bool.and_eq_true] at hs
    simp only [dep] at hu
    exact eq_dictsT inv (by omega) (.inr (h.imp fun _ w => s _ _ w)) (.inr (h2.imp fun _ w => s _ _ w)) (e.trans e2.symm) (eq_datas inv s r r2 hs.2 (by show A.units + 1 + deps ds < cLine; omega)) E Q q
  | .kl ds, A, _, _, _, _, hs, hu, x, y, rx, ry => by simp [sameB] at hs
  | .obj c n ds, A, _, _, _, _, hs, hu, x, y, rx, ry => by simp [sameB] at hs
theorem eq_datas (inv : Inv X pins τ H z) (s : Same B H) : ∀ {ds : List D} {A : Around} {vs us : List V}, Reps X.K B vs ds → Reps X.K B us ds → samesB ds ds = true → A.units + deps ds < cLine → EqL X z A vs us
  | [], A, _, _, .nil, .nil, _, _ => fun i v u e => by cases e
  | d :: ds, A, _, _, .cons h t, .cons h2 t2, hs, hu => fun i v u e1 e2 x y rx ry => by
    simp only [samesB, Bool.and_eq_true] at hs
    simp only [deps] at hu
    cases i with
    | zero =>
      simp only [List.getElem?_cons_zero, Option.some.injEq] at e1 e2
      subst e1 e2
      exact eq_data inv s h h2 hs.1 (by omega) rx ry
    | succ i =>
      simp only [List.getElem?_cons_succ] at e1 e2
      exact eq_datas inv s t t2 hs.2 (by omega) i v u e1 e2 x y rx ry
end
/-! ### x == y of lists and dicts that are the same data -/
def isRef : D → Bool
  | .lst _ => true
  | .tup _ => true
  | .dic _ _ => true
  | .dit _ _ => true
  | _ => false
def eqS (x y : D) : Option D := if sameB x y = true ∧ isRef x = true ∧ dep x ≤ 60 then some (.bl true) else none
def rEqS (X : Cx) : R2 := fun x y H Q => ∃ (B : Hp) (d : D), Same B H ∧ Rep X.K B x d ∧ Rep X.K B y d ∧ sameB d d = true ∧ isRef d = true ∧ dep d ≤ 60 ∧ Q (.bl true) H
theorem op_eqS (units : X.A.units + 64 < cLine) : OpR X (compareOp .Eq) (rEqS X) := by
  rintro pins z τ H x y v u Q inv rx ry ⟨B, d, s, r1, r2, sm, isr, few, told⟩
  have fin : EP X pins τ Q (.bool true) z := ⟨.bl true, H, inv, rfl, told⟩
  show wpAny (model X.prog X.w) X.A (richCompare .Eq v u) (EP X pins τ Q) X.xe z
  cases d <;> simp only [isRef] at isr <;> first | (cases isr; done) | skip
  · cases r1 with
    | lst h r => cases r2 with
      | lst h2 t =>
        cases (show (v : Value) = .ref _ from rx); cases (show (u : Value) = .ref _ from ry)
        simp only [sameB] at sm
        simp only [dep] at few
        exact eq_lists inv (by omega) (s _ _ h) (s _ _ h2) (by rw [r.length, t.length]) (eq_datas inv s r t sm (by show X.A.units + 1 + _ < cLine; omega)) _ _ fin
  · cases r1 with
    | tup h r => cases r2 with
      | tup h2 t =>
        cases (show (v : Value) = .ref _ from rx); cases (show (u : Value) = .ref _ from ry)
        simp only [sameB] at sm
        simp only [dep] at few
        exact eq_tups inv (by omega) (s _ _ h) (s _ _ h2) (by rw [r.length, t.length]) (eq_datas inv s r t sm (by show X.A.units + 1 + _ < cLine; omega)) _ _ fin
  · cases r1 with
    | dic h e r => cases r2 with
      | dic h2 e2 t =>
        cases (show (v : Value) = .ref _ from rx); cases (show (u : Value) = .ref _ from ry)
        simp only [sameB, Bool.and_eq_true] at sm
        simp only [dep] at few
        exact eq_dicts inv (by omega) (.inr (h.imp fun _ w => s _ _ w)) (.inr (h2.imp fun _ w => s _ _ w)) (e.trans e2.symm) (eq_datas inv s r t sm.2 (by show X.A.units + 1 + _ < cLine; omega)) _ _ fin
  · cases r1 with
    | dit h e r => cases r2 with
      | dit h2 e2 t =>
        cases (show (v : Value) = .ref _ from rx); cases (show (u : Value) = .ref _ from ry)
        simp only [sameB, Bool.and_eq_true] at sm
        simp only [dep] at few
        exact eq_dictsT inv (by omega) (.inr (h.imp fun _ w => s _ _ w)) (.inr (h2.imp fun _ w => s _ _ w)) (e.trans e2.symm) (eq_datas inv s r t sm.2 (by show X.A.units + 1 + _ < cLine; omega)) _ _ fin
end
section
variable {X : Cx} {π : Pm} {k : Nat} {a b : Expr} {f h : M D} {pos : Pos}
theorem fl_eqS : FlatOp X (rEqS X) eqS := fun B H x y v u w Q s rv ru e q => by
  unfold eqS at e
  split at e
  · rename_i c
    cases e
    have xy := sameB_eq c.1
    subst xy
    exact ⟨B, _, s, rv, ru, c.1, c.2.1, c.2.2, q _ (.bl _)⟩
  · cases e
theorem tr_eqS (hr : Room k X.A) (hf : TrF X π a f) (hg : TrF X π b h) : TrF X π (.Compare a [.Eq] [b] pos) (op2 eqS f h) := tr_op2 hf hg fl_eqS fun h1 h2 => pe_cmpR (op_eqS hr.units) h1 h2 (nomark _)
end
/-! ### x == y by an own __eq__ -/
def rEqOwn (C : Addr) (sp : Sp) : R2 := fun x y H Q => ∃ a dx fs b dy gs, x = .ref a ∧ y = .ref b ∧ H a = some (.ins C dx fs) ∧ H b = some (.ins C dy gs) ∧ sp [x, y] H (fun w H' => ∃ t, w = .bl t ∧ Q (.bl t) H') (fun _ _ _ => False)
theorem op_eqOwn {X : Cx} {k : Nat} {f C : Addr} {fd : FuncData} {ps : List Str} {sp : Sp} (hm : Meth X.K C "__eq__" f) (F : FnOk X.prog X.w X.K X.mg X.base (L2.CX X.prog X.w) k f fd ps sp) (hr : Room k X.A) (hb : Binds X.K fd ps []) : OpR X (compareOp .Eq) (rEqOwn C sp) := by
  rintro pins z τ H x y v u Q inv rx ry ⟨a, dx, fs, b, dy, gs, rfl, rfl, ha, hb', q⟩
  cases (show (v : Value) = .ref a from rx)
  cases (show (u : Value) = .ref b from ry)
  obtain ⟨_, O, _⟩ := ins_get inv.hok ha
  obtain ⟨_, O', _⟩ := ins_get inv.hok hb'
  obtain ⟨_, I1, _⟩ := O.look
  obtain ⟨_, I2, _⟩ := O'.look
  obtain ⟨n, frame⟩ := inv.fr
  show wpAny (model X.prog X.w) X.A (richCompare .Eq (.ref a) (.ref b)) (EP X pins τ Q) X.xe z
  refine PySem.W.cmp_K (op := .Eq) (tb := .ref C) (by have := hr.units; omega) frame inv.ok.mod.kin I1 I2.type (by simp [PySem.W.notFirst]) hm.at_ hm.fn ?_
  refine wpAny_mono (run_fnS (E := fun _ => fun _ _ _ => False) (us := [.ref a, .ref b]) (vs := [.ref a, .ref b]) F hr hb (passAt takes0 τ) inv (.cons rfl (.cons rfl .nil)) q) (fun r s' got => ?_) fun _ _ w => w
  obtain ⟨w, H', inv', rw', t, rfl, q'⟩ := got
  cases (show (r : Value) = .bool t from rw')
  exact ⟨.bl t, H', inv', rfl, q'⟩
def eqOwnM (x : Str) (F : List D → Option Out) (f h : M D) : M D := bd f fun d => bd h fun o => if isCl x d = true ∧ isCl x o = true then bd (opt (F [d, o])) (flgM id) else fun _ => none
section
variable {X : Cx} {π : Pm} {k : Nat} {x : Str} {a b : Expr} {f h : M D} {pos : Pos} {F : List D → Option Out}
theorem tr_eqOwn (G : MethOk X.prog X.w X.K X.mg X.base k x "__eq__" (spF X.K 2 F)) (hr : Room k X.A) (hf : TrF X π a f) (hg : TrF X π b h) (hm : behindInMarks .Eq b = false := by kernel_rfl) : TrF X π (.Compare a [.Eq] [b] pos) (eqOwnM x F f h) := by
  obtain ⟨f', fd, ps, Fn, c, hm', hb⟩ := G
  refine .mk fun W tk σ Γ B H Q st sat => wE_of (pe_cmpR (op_eqOwn hm' Fn hr hb) pe_w pe_w hm) ?_
  refine hf.run W tk σ Γ B H _ st (sat.bd up_repR fun d Γ1 v B1 H1 e1 nx rv sat1 => ?_)
  refine hg.run W tk σ Γ1 B1 H1 _ nx.st (sat1.bd up_repR fun o Γ2 u B2 H2 e2 nx2 ru sat2 => ?_)
  split at sat2
  · rename_i hc
    have rv2 := rv.mono nx2.bb
    cases d <;> simp only [isCl] at hc <;> first | (cases hc.1; done) | skip
    cases o <;> simp only [isCl] at hc <;> first | (cases hc.2; done) | skip
    cases of_decide_eq_true hc.1
    cases of_decide_eq_true hc.2
    cases rv2 with
    | @obj p dx ff _ _ _ hp en rp =>
      subst en
      cases ru with
      | @obj q dy gg _ _ _ hq en2 rq =>
        subst en2
        rename_i ds1 ds2
        cases hF : F [.obj x (ff.map (·.1)) ds1, .obj x (gg.map (·.1)) ds2] with
        | none => rw [hF] at sat2; exact sat2.false
        | some r =>
          rw [hF] at sat2
          have sat2 : Sat X.K π W σ Γ2 B2 H2 (repR X.K) (flgM id r Γ2) Q := sat2
          refine ⟨p, dx, ff, q, dy, gg, rfl, rfl, nx2.st.sub _ _ hp, nx2.st.sub _ _ hq, B2, _, r, nx2.st.sub, .cons (.obj hp rfl rp) (.one (.obj hq rfl rq)), rfl, hF, ?_⟩
          cases r with
          | e c fs => exact sat2.false
          | v w own =>
            cases own with
            | true => cases w <;> exact sat2.false
            | false =>
              cases w <;> first | exact sat2.false | skip
              intro w B' H' af rw'
              cases rw'
              exact ⟨_, rfl, sat2 _ B' H' ((Nx.refl nx2.st).grow af.bb af.hh af.sub af.fr) (.bl _)⟩
  · exact sat2.false
end
end L2.TT

set_option Elab.async false
set_option linter.all false
set_option maxRecDepth 100000
set_option maxHeartbeats 1000001
namespace L2.TT
open PySem PyProof.Rows PySem.Spec

/-! ### f(x, 1, y) of names and numbers: what they own is lent, the answer is flat, or a new list of flat things -/
inductive NamesC (X : Cx) : List Expr → List (Nat ⊕ Int) → Prop
  | nil : NamesC X [] []
  | cons {x : Str} {pos : Pos} {es : List Expr} {is : List (Nat ⊕ Int)} (i : Nat) (hN : X.N[i]? = some x) (hv : Vis X.env.scope x) (hd : (x == ("__debug__" : Str)) = false) (hcd : (x == ("__classdict__" : Str)) = false)
      (hs : starEach (.Name x pos :: es) X.env = (false, eval (.Name x pos) X.env) :: starEach es X.env) (t : NamesC X es is) : NamesC X (.Name x pos :: es) (.inl i :: is)
  | con {n : Int} {j} {pos : Pos} {es : List Expr} {is : List (Nat ⊕ Int)} (hs : starEach (.Constant (.int n) j pos :: es) X.env = (false, eval (.Constant (.int n) j pos) X.env) :: starEach es X.env) (t : NamesC X es is) : NamesC X (.Constant (.int n) j pos :: es) (.inr n :: is)
theorem nc_cons {X : Cx} {x : Str} {pos : Pos} {es : List Expr} {is : List (Nat ⊕ Int)} (i : Nat) (t : NamesC X es is) (hN : X.N[i]? = some x := by kernel_rfl) (hv : Vis X.env.scope x := by first | exact Or.inl rfl | exact Or.inr (Or.inl rfl) | exact Or.inr (Or.inr rfl)) (hd : (x == ("__debug__" : Str)) = false := by decide) (hcd : (x == ("__classdict__" : Str)) = false := by decide)
    (hs : starEach (.Name x pos :: es) X.env = (false, eval (.Name x pos) X.env) :: starEach es X.env := by kernel_rfl) : NamesC X (.Name x pos :: es) (.inl i :: is) := .cons i hN hv hd hcd hs t
theorem nc_con {X : Cx} {n : Int} {j} {pos : Pos} {es : List Expr} {is : List (Nat ⊕ Int)} (t : NamesC X es is) (hs : starEach (.Constant (.int n) j pos :: es) X.env = (false, eval (.Constant (.int n) j pos) X.env) :: starEach es X.env := by kernel_rfl) : NamesC X (.Constant (.int n) j pos :: es) (.inr n :: is) := .con hs t
def pkC : List (Nat ⊕ Int) → List Sl → Option (List D)
  | [], _ => some []
  | .inl i :: is, Γ => match pk i Γ, pkC is Γ with
    | some (.ok d _), some ds => some (d :: ds)
    | _, _ => none
  | .inr n :: is, Γ => match pkC is Γ with
    | some ds => some (.int n :: ds)
    | _ => none
theorem wA_namesC {X : Cx} {π : Pm} {B H : Hp} {σ : L2.St} {Γ : List Sl} (st : Stt X.K π B H σ Γ) : ∀ {es : List Expr} {is : List (Nat ⊕ Int)}, NamesC X es is → ∀ {ds : List D}, pkC is Γ = some ds → ∀ {Q : List V → Hp → Prop}, (∀ vs, SeesL X.K B H vs ds → Q vs H) → wA X es σ H Q
  | _, _, .nil, ds, e, Q, q => by cases e; exact wA_of pa_nil (q [] .nil)
  | _, _, .cons i hN hv hd hcd hs t, ds, e, Q, q => by
    simp only [pkC] at e
    split at e
    · rename_i d g ds' e1 e2
      cases e
      obtain ⟨_, v, h1, h2⟩ := st.peek e1
      refine wA_of (pa_cons (pe_var hN hv hd hcd) pa_w hs) ⟨v, h1, ?_⟩
      exact wA_namesC st t e2 fun vs h => q (v :: vs) (.cons h2 h)
    · cases e
  | _, _, .con hs t, ds, e, Q, q => by
    simp only [pkC] at e
    split at e
    · rename_i ds' e2
      cases e
      refine wA_of (pa_cons pe_int pa_w hs) ?_
      exact wA_namesC st t e2 fun vs h => q _ (.cons (d := .int _) (show See X.K B H _ (.int _) from rfl) h)
    · cases e
def flatL : D → Bool
  | .lst ds => ds.all flatD
  | _ => false
theorem flat_reps {K : PySem.W.Frag} {B B' : Hp} : ∀ {vs : List V} {ds : List D}, ds.all flatD = true → Reps K B vs ds → Reps K B' vs ds
  | _, _, _, .nil => .nil
  | _, _, h, .cons r t => by
    have q := (Bool.and_eq_true _ _).mp (List.all_cons ▸ h)
    exact .cons (flat_rep q.1 r) (flat_reps q.2 t)
def callCM (n : Nat) (F : List D → Option Out) (is : List (Nat ⊕ Int)) : M (D × Bool) := fun Γ => match pkC is Γ with
  | none => none
  | some ds => if ds.length = n ∧ ds.all noDic = true then match F ds with
    | some (.v d false) => if flatD d = true then some (.ok (d, false) Γ) else none
    | some (.v d true) => if flatL d = true then some (.ok (d, true) Γ) else none
    | _ => none else none
section
variable {X : Cx} {π : Pm} {e : Expr} {es : List Expr} {pos p : Pos} {k n : Nat} {x : Str} {is : List (Nat ⊕ Int)}
theorem tv_callC {F : List D → Option Out} (G : DefOk X.prog X.w X.K X.mg X.base k x (spF X.K n F)) (hr : Room k X.A) (ha : NamesC X (e :: es) is) (hg : Gl X x := by rfl)
    (hdb : (x == ("__debug__" : Str)) = false := by decide) (he : starEach (e :: es) X.env = (false, eval e X.env) :: starEach es X.env := by kernel_rfl) (hpl : (backTo pos (starEach es X.env)).any (·.1) = false := by kernel_rfl) :
    TrV X π (.Call (.Name x p) (e :: es) [] pos) (callCM n F is) := .mk fun W tk σ Γ B H Q st sat => by
  obtain ⟨f, fd, ps, Fn, hm, hk, hb⟩ := G
  refine wE_of (pe_callS (E := WE W) Fn hr hg hm hk hb (fun σ => passAt tk σ) pa_w hdb he hpl) ?_
  unfold callCM at sat
  cases e1 : pkC is Γ with
  | none => simp only [e1] at sat; exact sat.false
  | some ds =>
    simp only [e1] at sat
    split at sat
    · rename_i hl
      refine wA_namesC st ha e1 fun vs sees => ?_
      have s := st.sub
      obtain ⟨hl, hnd⟩ := hl
      have rs := lend_reps (ws := vs) s (fun v hv => hv) hnd sees
      cases hF : F ds with
      | none => simp only [hF] at sat; exact sat.false
      | some r =>
        simp only [hF] at sat
        cases r with
        | e c fs => exact sat.false
        | v d o =>
          cases o with
          | true =>
            simp only at sat
            split at sat
            · rename_i hfl
              cases d with
              | lst zs =>
                refine ⟨lend vs B H, ds, .v (.lst zs) true, lend_under s, rs, hl, hF, fun v B' H' af nr => ?_⟩
                have nx : Nx X.K π σ Γ B H σ Γ B H' := (Nx.refl st).grow (Same.refl B) af.hh (fun a u e => af.hh _ _ (s _ _ e)) (fun a _ b => b)
                obtain ⟨q, rfl, hq, _, xs, hx, rx⟩ := nr
                refine sat _ B H' nx ⟨q, rfl, hq, s.free hq, ⟨xs, hx, flat_reps hfl rx⟩, fun ⟨i, z, h1, h2⟩ => ?_⟩
                obtain ⟨p', h3, _, h4⟩ := st.ow i z h1
                rw [h2] at h3
                cases h3
                obtain ⟨o, ho⟩ := ho_of_own h4
                rw [hq] at ho; cases ho
              | _ => cases hfl
            · exact sat.false
          | false =>
            simp only at sat
            split at sat
            · rename_i hfl
              refine ⟨lend vs B H, ds, .v d false, lend_under s, rs, hl, hF, fun v B' H' af nr => ?_⟩
              have nx : Nx X.K π σ Γ B H σ Γ B H' := (Nx.refl st).grow (Same.refl B) af.hh (fun a u e => af.hh _ _ (s _ _ e)) (fun a _ b => b)
              exact sat v B H' nx (flat_rep hfl nr)
            · exact sat.false
    · exact sat.false
end
end L2.TT

set_option Elab.async false
set_option linter.all false
set_option maxRecDepth 100000
set_option maxHeartbeats 4000001
namespace G
open PySem PySem.Spec PyProof.Rows L2 L2.TT
def tp (i : Nat) : Stmt := PySem.Challenge.pw_towerup_k27_free_and_only.main.body.getD i (.Pass ⟨0, 0, 0, 0⟩)
def exm (c x : Str) : Option Bool := if c = "BadContract" ∧ x = "BadContract" then some true else if c = "BadContract" ∧ x = "BadSides" then some false else if c = "BadContract" ∧ x = "TowerError" then some true else if c = "BadKind" ∧ x = "BadContract" then some false else if c = "BadKind" ∧ x = "BadSides" then some false else if c = "BadKind" ∧ x = "TowerError" then some true else if c = "BadSides" ∧ x = "BadContract" then some false else if c = "BadSides" ∧ x = "BadSides" then some true else if c = "BadSides" ∧ x = "TowerError" then some true else if c = "NoArgument" ∧ x = "BadContract" then some false else if c = "NoArgument" ∧ x = "BadSides" then some false else if c = "NoArgument" ∧ x = "TowerError" then some true else if c = "NoMethod" ∧ x = "BadContract" then some false else if c = "NoMethod" ∧ x = "BadSides" then some false else if c = "NoMethod" ∧ x = "TowerError" then some true else if c = "NoMode" ∧ x = "BadContract" then some false else if c = "NoMode" ∧ x = "BadSides" then some false else if c = "NoMode" ∧ x = "TowerError" then some true else if c = "NoSide" ∧ x = "BadContract" then some false else if c = "NoSide" ∧ x = "BadSides" then some false else if c = "NoSide" ∧ x = "TowerError" then some true else if c = "NoState" ∧ x = "BadContract" then some false else if c = "NoState" ∧ x = "BadSides" then some false else if c = "NoState" ∧ x = "TowerError" then some true else if c = "TowerError" ∧ x = "BadContract" then some false else if c = "TowerError" ∧ x = "BadSides" then some false else if c = "TowerError" ∧ x = "TowerError" then some true else none
def xok (c f : Str) : Bool := (decide (c = "BadContract") && decide (f = "side"))
structure Fr (K : PySem.W.Frag) (mg : Str → Option Value) : Prop where
  all : mg "all" = none
  bool : mg "bool" = none
  dict : mg "dict" = none
  enumerate : mg "enumerate" = none
  int : mg "int" = none
  isinstance : mg "isinstance" = none
  len : mg "len" = none
  list : mg "list" = none
  max : mg "max" = none
  range : mg "range" = none
  sorted : mg "sorted" = none
  str : mg "str" = none
  tuple : mg "tuple" = none
  c_LONGEST_NAME : ∃ t, mg "LONGEST_NAME" = some (.int 8 t)
  c_MOST_ANSWERS : ∃ t, mg "MOST_ANSWERS" = some (.int 8 t)
  c_MOST_ARGUMENTS : ∃ t, mg "MOST_ARGUMENTS" = some (.int 4 t)
  c_MOST_METHODS : ∃ t, mg "MOST_METHODS" = some (.int 4 t)
  c_MOST_MODES : ∃ t, mg "MOST_MODES" = some (.int 16 t)
  c_MOST_RESULTS : ∃ t, mg "MOST_RESULTS" = some (.int 4 t)
  c_MOST_SIDES : ∃ t, mg "MOST_SIDES" = some (.int 3 t)
  c_MOST_STATES : ∃ t, mg "MOST_STATES" = some (.int 8 t)
  c_Contract : Cls K (He.ga K "Contract")
  c_Kind : Cls K (He.ga K "Kind")
  n_Contract__rules : NoAttr K (He.ga K "Contract") "_rules"
  n_Contract_kind : NoAttr K (He.ga K "Contract") "kind"
  n_Contract_sides : NoAttr K (He.ga K "Contract") "sides"
  n_Kind__table : NoAttr K (He.ga K "Kind") "_table"
  n_Kind_start : NoAttr K (He.ga K "Kind") "start"
  n_Kind_states : NoAttr K (He.ga K "Kind") "states"
  xf : ∀ c f, G.xok c f = true → XfC K (He.ga K c) ∧ PySem.W.findIn K (.ref (He.ga K c)) f = some none
  i_Contract : InsT K (He.ga K "Contract")
  ki_Contract : ∀ t ∈ ["NoneType", "bool", "int", "str", "list", "tuple", "dict"], PySem.W.kitOne K (.type t) (.ref (He.ga K "Contract")) = some false
  i_Kind : InsT K (He.ga K "Kind")
  ki_Kind : ∀ t ∈ ["NoneType", "bool", "int", "str", "list", "tuple", "dict"], PySem.W.kitOne K (.type t) (.ref (He.ga K "Kind")) = some false
  g_BadContract : mg "BadContract" = some (.ref (He.ga K "BadContract"))
  g_BadSides : mg "BadSides" = some (.ref (He.ga K "BadSides"))
  g_Contract : mg "Contract" = some (.ref (He.ga K "Contract"))
  g_Kind : mg "Kind" = some (.ref (He.ga K "Kind"))
  g_TowerError : mg "TowerError" = some (.ref (He.ga K "TowerError"))
  exm : ∀ c x b, G.exm c x = some b → PySem.W.exmOne K (.ref (He.ga K c)) (.ref (He.ga K x)) = some b

variable {P : Program} {w : World} {K : PySem.W.Frag} {mg : Str → Option Value} {base : Heap} {f : Addr}
def m_is_integer : M Fl := (retM (asV (andV (op1 (isI "int") (pk 0)) (notV (op1 (isI "bool") (pk 0))))))
def F_is_integer (ds : List D) : Option Out := fnM 1 1 m_is_integer ds
abbrev Hd_is_integer (P : Program) (w : World) (K : PySem.W.Frag) (mg : Str → Option Value) (base : Heap) : Prop := True

theorem sc_is_integer : FnScope ["value"] ["value"] (defScope (tp 3)) := ⟨rfl, rfl, rfl, by decide +kernel, rfl, by decide +kernel, by decide +kernel⟩
theorem ok_is_integer (fr : Fr K mg) (hd : Hd_is_integer P w K mg base) (F : ∃ fd, FunD K "is_integer" "is_integer" (defArgs (tp 3)) (defBody (tp 3)) (defScope (tp 3)) [] [] f fd) (hg : mg "is_integer" = some (.ref f)) : DefOk P w K mg base 1 "is_integer" (spF K 1 F_is_integer) :=
  have sc := sc_is_integer
  def_F F hg sc rfl (by decide) (fun π cdv A outer s H E hr => by
    refine ts_one ?_
    exact ts_ret (trv_of_f (tr_and (tr_isi (c := "int") (n := "int") (trp_v 0) (by decide) (by decide +kernel) fr.int fr.isinstance rfl (by decide) (by decide)) (tr_one (tr_not (tr_isi (c := "bool") (n := "bool") (trp_v 0) (by decide) (by decide +kernel) fr.bool fr.isinstance rfl (by decide) (by decide))))))) (fun fd F => F.bindsN fun _ _ _ _ _ _ us hl => match us, hl with | [_], _ => rfl)
def m_is_between : M Fl := (retM (asV (andV (frz (callM 1 F_is_integer (cnsM (gv 0) (ret [])))) (chV leD leD (gv 1) (gv 0) (gv 2)))))
def F_is_between (ds : List D) : Option Out := fnM 3 3 m_is_between ds
structure Hd_is_between (P : Program) (w : World) (K : PySem.W.Frag) (mg : Str → Option Value) (base : Heap) : Prop where
  is_integer : DefOk P w K mg base 1 "is_integer" (spF K 1 F_is_integer)

theorem sc_is_between : FnScope ["value", "least", "greatest"] ["value", "least", "greatest"] (defScope (tp 4)) := ⟨rfl, rfl, rfl, by decide +kernel, rfl, by decide +kernel, by decide +kernel⟩
theorem ok_is_between (fr : Fr K mg) (hd : Hd_is_between P w K mg base) (F : ∃ fd, FunD K "is_between" "is_between" (defArgs (tp 4)) (defBody (tp 4)) (defScope (tp 4)) [] [] f fd) (hg : mg "is_between" = some (.ref f)) : DefOk P w K mg base 2 "is_between" (spF K 3 F_is_between) :=
  have sc := sc_is_between
  def_F F hg sc rfl (by decide) (fun π cdv A outer s H E hr => by
    refine ts_one ?_
    exact ts_ret (trv_of_f (tr_and (tr_frz (tv_callD (hd.is_integer) (hr.mono (by omega)) (ta_cons (tr_v 0) ta_nil))) (tr_one (tr_lele (tr_v 1) (tr_v 0) (tr_v 2)))))) (fun fd F => F.bindsN fun _ _ _ _ _ _ us hl => match us, hl with | [_, _, _], _ => rfl)
def m_is_below : M Fl := (retM (callM 3 F_is_between (cnsM (gv 0) (cnsM (ret (.int 0)) (cnsM (op2 subI (gv 1) (ret (.int 1))) (ret []))))))
def F_is_below (ds : List D) : Option Out := fnM 2 2 m_is_below ds
structure Hd_is_below (P : Program) (w : World) (K : PySem.W.Frag) (mg : Str → Option Value) (base : Heap) : Prop where
  is_between : DefOk P w K mg base 2 "is_between" (spF K 3 F_is_between)

theorem sc_is_below : FnScope ["value", "bound"] ["value", "bound"] (defScope (tp 5)) := ⟨rfl, rfl, rfl, by decide +kernel, rfl, by decide +kernel, by decide +kernel⟩
theorem ok_is_below (fr : Fr K mg) (hd : Hd_is_below P w K mg base) (F : ∃ fd, FunD K "is_below" "is_below" (defArgs (tp 5)) (defBody (tp 5)) (defScope (tp 5)) [] [] f fd) (hg : mg "is_below" = some (.ref f)) : DefOk P w K mg base 3 "is_below" (spF K 2 F_is_below) :=
  have sc := sc_is_below
  def_F F hg sc rfl (by decide) (fun π cdv A outer s H E hr => by
    refine ts_one ?_
    exact ts_ret (tv_callD (hd.is_between) (hr.mono (by omega)) (ta_cons (tr_v 0) (ta_cons tr_int (ta_cons (tr_sub (tr_v 1) tr_int) ta_nil))))) (fun fd F => F.bindsN fun _ _ _ _ _ _ us hl => match us, hl with | [_, _], _ => rfl)
def m_is_row : M Fl := (retM (asV (andV (op1 (isI2 "list" "tuple") (pk 0)) (chV leD leD (gv 1) (op1 lenD (pk 0)) (gv 2)))))
def F_is_row (ds : List D) : Option Out := fnM 3 3 m_is_row ds
abbrev Hd_is_row (P : Program) (w : World) (K : PySem.W.Frag) (mg : Str → Option Value) (base : Heap) : Prop := True

theorem sc_is_row : FnScope ["value", "fewest", "most"] ["value", "fewest", "most"] (defScope (tp 6)) := ⟨rfl, rfl, rfl, by decide +kernel, rfl, by decide +kernel, by decide +kernel⟩
theorem ok_is_row (fr : Fr K mg) (hd : Hd_is_row P w K mg base) (F : ∃ fd, FunD K "is_row" "is_row" (defArgs (tp 6)) (defBody (tp 6)) (defScope (tp 6)) [] [] f fd) (hg : mg "is_row" = some (.ref f)) : DefOk P w K mg base 1 "is_row" (spF K 3 F_is_row) :=
  have sc := sc_is_row
  def_F F hg sc rfl (by decide) (fun π cdv A outer s H E hr => by
    refine ts_one ?_
    exact ts_ret (trv_of_f (tr_and (tr_isi2 (c := "list") (c' := "tuple") (n := "list") (n' := "tuple") (trp_v 0) (by decide) (by decide) (by decide +kernel) (by decide +kernel) fr.list fr.tuple fr.isinstance rfl (by decide) (by decide) rfl (by decide) (by decide)) (tr_one (tr_lele (tr_v 1) (tr_len (trp_v 0) fr.len) (tr_v 2)))))) (fun fd F => F.bindsN fun _ _ _ _ _ _ us hl => match us, hl with | [_, _, _], _ => rfl)
def m_is_name : M Fl := (seqM (ifM (orM (notM (tv (op1 (isI "str") (pk 0)))) (notM (chT leD leD (ret (.int 1)) (op1 lenD (pk 0)) (ret (.int 8))))) (retM (asV (ret (.bl false)))) (ret .nx)) (retM (asV (op1 allD (frz (compM [1] (itM (gv 0)) (fun d => stS 1 d false) (ret true) (chV leD leD (ret (.str ("a" : PySem.Str))) (gv 1) (ret (.str ("z" : PySem.Str))))))))))
def F_is_name (ds : List D) : Option Out := fnM 2 1 m_is_name ds
abbrev Hd_is_name (P : Program) (w : World) (K : PySem.W.Frag) (mg : Str → Option Value) (base : Heap) : Prop := True

theorem sc_is_name : FnScope ["value", "sign"] ["value"] (defScope (tp 7)) := ⟨rfl, rfl, rfl, by decide +kernel, rfl, by decide +kernel, by decide +kernel⟩
theorem ok_is_name (fr : Fr K mg) (hd : Hd_is_name P w K mg base) (F : ∃ fd, FunD K "is_name" "is_name" (defArgs (tp 7)) (defBody (tp 7)) (defScope (tp 7)) [] [] f fd) (hg : mg "is_name" = some (.ref f)) : DefOk P w K mg base 1 "is_name" (spF K 1 F_is_name) :=
  have sc := sc_is_name
  def_F F hg sc rfl (by decide) (fun π cdv A outer s H E hr => by
    refine ts_cons ?_ ?_
    · refine ts_if (tt_w (tw_or (tt_not (tt_val (tr_isi (c := "str") (n := "str") (trp_v 0) (by decide) (by decide +kernel) fr.str fr.isinstance rfl (by decide) (by decide)))) (tw_or1 (tt_not (tt_lele tr_int (tr_len (trp_v 0) fr.len) (tr_gx fr.c_LONGEST_NAME)))))) ?_ ?_
      · refine ts_one ?_
        exact ts_ret (trv_of_f tr_bl)
      · exact ts_nil
    refine ts_one ?_
    exact ts_ret (trv_of_f (tr_all rfl (trp_of_f (tr_frz (tv_lc (own := [("sign", 1)]) rfl sc.nd (ti_seq (tr_v 0)) (blkOk_by (by kernel_rfl)) (by decide) (fun s0 H0 C cl fp => (tg_name 1 sc.nd)) (fun s0 H0 C cl fp => tts_nil) (fun s0 H0 C cl fp => (tr_lele tr_str (tr_v 1) tr_str))))) fr.all))) (fun fd F => F.bindsN fun _ _ _ _ _ _ us hl => match us, hl with | [_], _ => rfl)
def m_check_sides : M Fl := (ifM (notM (tv (frz (callM 3 F_is_between (cnsM (gv 0) (cnsM (ret (.int 1)) (cnsM (ret (.int 3)) (ret [])))))))) (raise0M "BadSides") (ret .nx))
def F_check_sides (ds : List D) : Option Out := fnM 1 1 m_check_sides ds
structure Hd_check_sides (P : Program) (w : World) (K : PySem.W.Frag) (mg : Str → Option Value) (base : Heap) : Prop where
  is_between : DefOk P w K mg base 2 "is_between" (spF K 3 F_is_between)
  z_BadSides : Exc0 K mg "BadSides"

theorem sc_check_sides : FnScope ["sides"] ["sides"] (defScope (tp 20)) := ⟨rfl, rfl, rfl, by decide +kernel, rfl, by decide +kernel, by decide +kernel⟩
theorem ok_check_sides (fr : Fr K mg) (hd : Hd_check_sides P w K mg base) (F : ∃ fd, FunD K "check_sides" "check_sides" (defArgs (tp 20)) (defBody (tp 20)) (defScope (tp 20)) [] [] f fd) (hg : mg "check_sides" = some (.ref f)) : DefOk P w K mg base 3 "check_sides" (spF K 1 F_check_sides) :=
  have sc := sc_check_sides
  def_F F hg sc rfl (by decide) (fun π cdv A outer s H E hr => by
    refine ts_one ?_
    refine ts_if (tt_not (tt_val (tr_frz (tv_callD (hd.is_between) (hr.mono (by omega)) (ta_cons (tr_v 0) (ta_cons tr_int (ta_cons (tr_gx fr.c_MOST_SIDES) ta_nil))))))) ?_ ?_
    · refine ts_one ?_
      exact ts_raise0 hd.z_BadSides rfl
    · exact ts_nil) (fun fd F => F.bindsN fun _ _ _ _ _ _ us hl => match us, hl with | [_], _ => rfl)
def m_Contract_rules : M Fl := (retM (compM [1] (itM (op1 (fldD "Contract" "_rules") (pk 0))) (fun d => stS 1 d false) (ret true) (frz (dcM [2] (itM (gv 1)) (fun d => stS 2 d false) (ret true) (gv 2) (op2v ixD 1 (gv 2))))))
def F_Contract_rules (ds : List D) : Option Out := fnM 3 1 m_Contract_rules ds
abbrev Hd_Contract_rules (P : Program) (w : World) (K : PySem.W.Frag) (mg : Str → Option Value) (base : Heap) : Prop := True

theorem sc_Contract_rules : FnScope ["self", "rows", "key"] ["self"] (defScope (inClass (tp 23) 4)) := ⟨rfl, rfl, rfl, by decide +kernel, rfl, by decide +kernel, by decide +kernel⟩
theorem ok_Contract_rules (fr : Fr K mg) (hd : Hd_Contract_rules P w K mg base) (F : ∃ fd, FunD K "rules" "Contract.rules" (defArgs (inClass (tp 23) 4)) (defBody (inClass (tp 23) 4)) (defScope (inClass (tp 23) 4)) [] [] f fd) : ∃ fd, FnOk P w K mg base (L2.CX P w) 1 f fd ["self"] (spF K 1 F_Contract_rules) ∧ Binds K fd ["self"] [] := by
  have sc := sc_Contract_rules
  obtain ⟨fd, F⟩ := F
  exact ⟨fd, fn_F F sc rfl (by decide) (fun π cdv A outer s H E hr => by
    refine ts_one ?_
    exact ts_ret (tv_lc (own := [("rows", 1)]) rfl sc.nd (ti_seq (tr_fld "Contract" fr.c_Contract fr.n_Contract__rules (trp_v 0))) (blkOk_by (by kernel_rfl)) (by decide) (fun s0 H0 C cl fp => (tg_name 1 sc.nd)) (fun s0 H0 C cl fp => tts_nil) (fun s0 H0 C cl fp => (tr_frz (tv_dc (own := [("key", 2)]) hr rfl sc.nd (ti_seq (tr_v 1)) (blkOk_by (by kernel_rfl)) (by decide) (fun s0 H0 C cl fp => (tg_name 2 sc.nd)) (fun s0 H0 C cl fp => tts_nil) (fun s0 H0 C cl fp => (tr_v 2)) (fun s0 H0 C cl fp => (tr_ixv 1 hr (tr_v 2)))))))), F.bindsN (ps := ["self"]) fun _ _ _ _ _ _ us hl => match us, hl with | [_], _ => rfl⟩
def m_Contract__check : M Fl := (seqM (ifM (notM (tv (frz (callM 2 F_is_below (cnsM (gv 1) (cnsM (op1 (fldD "Contract" "sides") (pk 0)) (ret []))))))) (raiseM "NoSide" "side" (gv 1)) (ret .nx)) (ifM (notM (tv (frz (callM 2 F_is_below (cnsM (gv 2) (cnsM (ret (.int 16)) (ret []))))))) (raiseM "NoMode" "mode" (gv 2)) (ret .nx)))
def F_Contract__check (ds : List D) : Option Out := fnM 3 3 m_Contract__check ds
structure Hd_Contract__check (P : Program) (w : World) (K : PySem.W.Frag) (mg : Str → Option Value) (base : Heap) : Prop where
  is_below : DefOk P w K mg base 3 "is_below" (spF K 2 F_is_below)
  x_NoMode : ExcOk P w K mg base 1 "NoMode" "mode"
  x_NoSide : ExcOk P w K mg base 1 "NoSide" "side"

theorem sc_Contract__check : FnScope ["self", "side", "mode"] ["self", "side", "mode"] (defScope (inClass (tp 23) 5)) := ⟨rfl, rfl, rfl, by decide +kernel, rfl, by decide +kernel, by decide +kernel⟩
theorem ok_Contract__check (fr : Fr K mg) (hd : Hd_Contract__check P w K mg base) (F : ∃ fd, FunD K "_check" "Contract._check" (defArgs (inClass (tp 23) 5)) (defBody (inClass (tp 23) 5)) (defScope (inClass (tp 23) 5)) [] [] f fd) : ∃ fd, FnOk P w K mg base (L2.CX P w) 4 f fd ["self", "side", "mode"] (spF K 3 F_Contract__check) ∧ Binds K fd ["self", "side", "mode"] [] := by
  have sc := sc_Contract__check
  obtain ⟨fd, F⟩ := F
  exact ⟨fd, fn_F F sc rfl (by decide) (fun π cdv A outer s H E hr => by
    refine ts_cons ?_ ?_
    · refine ts_if (tt_not (tt_val (tr_frz (tv_callD (hd.is_below) (hr.mono (by omega)) (ta_cons (tr_v 1) (ta_cons (tr_fld "Contract" fr.c_Contract fr.n_Contract_sides (trp_v 0)) ta_nil)))))) ?_ ?_
      · refine ts_one ?_
        exact ts_raise hd.x_NoSide rfl (hr.mono (by omega)) (tr_v 1)
      · exact ts_nil
    refine ts_one ?_
    refine ts_if (tt_not (tt_val (tr_frz (tv_callD (hd.is_below) (hr.mono (by omega)) (ta_cons (tr_v 2) (ta_cons (tr_gx fr.c_MOST_MODES) ta_nil)))))) ?_ ?_
    · refine ts_one ?_
      exact ts_raise hd.x_NoMode rfl (hr.mono (by omega)) (tr_v 2)
    · exact ts_nil), F.bindsN (ps := ["self", "side", "mode"]) fun _ _ _ _ _ _ us hl => match us, hl with | [_, _, _], _ => rfl⟩
def m_Kind___eq__ : M Fl := (retM (asV (andV (op1 (isO "Kind") (pk 1)) (andV (op2 eqD (op1 (fldD "Kind" "states") (pk 0)) (op1 (fldD "Kind" "states") (pk 1))) (andV (op2 eqD (op1 (fldD "Kind" "start") (pk 0)) (op1 (fldD "Kind" "start") (pk 1))) (op2 eqS (op1 (fldD "Kind" "_table") (pk 0)) (op1 (fldD "Kind" "_table") (pk 1))))))))
def F_Kind___eq__ (ds : List D) : Option Out := fnM 2 2 m_Kind___eq__ ds
abbrev Hd_Kind___eq__ (P : Program) (w : World) (K : PySem.W.Frag) (mg : Str → Option Value) (base : Heap) : Prop := True

theorem sc_Kind___eq__ : FnScope ["self", "other"] ["self", "other"] (defScope (inClass (tp 33) 1)) := ⟨rfl, rfl, rfl, by decide +kernel, rfl, by decide +kernel, by decide +kernel⟩
theorem ok_Kind___eq__ (fr : Fr K mg) (hd : Hd_Kind___eq__ P w K mg base) (F : ∃ fd, FunD K "__eq__" "Kind.__eq__" (defArgs (inClass (tp 33) 1)) (defBody (inClass (tp 33) 1)) (defScope (inClass (tp 33) 1)) [] [] f fd) : ∃ fd, FnOk P w K mg base (L2.CX P w) 1 f fd ["self", "other"] (spF K 2 F_Kind___eq__) ∧ Binds K fd ["self", "other"] [] := by
  have sc := sc_Kind___eq__
  obtain ⟨fd, F⟩ := F
  exact ⟨fd, fn_F F sc rfl (by decide) (fun π cdv A outer s H E hr => by
    refine ts_one ?_
    exact ts_ret (trv_of_f (tr_and (tr_isO fr.i_Kind (trp_v 1) fr.ki_Kind fr.g_Kind rfl (by decide) fr.isinstance) (tr_and (tr_eq hr (tr_fld "Kind" fr.c_Kind fr.n_Kind_states (trp_v 0)) (trp_of_f (tr_fld "Kind" fr.c_Kind fr.n_Kind_states (trp_v 1)))) (tr_and (tr_eq hr (tr_fld "Kind" fr.c_Kind fr.n_Kind_start (trp_v 0)) (trp_of_f (tr_fld "Kind" fr.c_Kind fr.n_Kind_start (trp_v 1)))) (tr_one (tr_eqS hr (tr_fld "Kind" fr.c_Kind fr.n_Kind__table (trp_v 0)) (tr_fld "Kind" fr.c_Kind fr.n_Kind__table (trp_v 1))))))))), F.bindsN (ps := ["self", "other"]) fun _ _ _ _ _ _ us hl => match us, hl with | [_, _], _ => rfl⟩
def m_Kind___contains__ : M Fl := (retM (asV (andV (op1 (isI "str") (pk 1)) (op2 inKD (gv 1) (op1 (fldD "Kind" "_table") (pk 0))))))
def F_Kind___contains__ (ds : List D) : Option Out := fnM 2 2 m_Kind___contains__ ds
abbrev Hd_Kind___contains__ (P : Program) (w : World) (K : PySem.W.Frag) (mg : Str → Option Value) (base : Heap) : Prop := True

theorem sc_Kind___contains__ : FnScope ["self", "method"] ["self", "method"] (defScope (inClass (tp 33) 2)) := ⟨rfl, rfl, rfl, by decide +kernel, rfl, by decide +kernel, by decide +kernel⟩
theorem ok_Kind___contains__ (fr : Fr K mg) (hd : Hd_Kind___contains__ P w K mg base) (F : ∃ fd, FunD K "__contains__" "Kind.__contains__" (defArgs (inClass (tp 33) 2)) (defBody (inClass (tp 33) 2)) (defScope (inClass (tp 33) 2)) [] [] f fd) : ∃ fd, FnOk P w K mg base (L2.CX P w) 1 f fd ["self", "method"] (spF K 2 F_Kind___contains__) ∧ Binds K fd ["self", "method"] [] := by
  have sc := sc_Kind___contains__
  obtain ⟨fd, F⟩ := F
  exact ⟨fd, fn_F F sc rfl (by decide) (fun π cdv A outer s H E hr => by
    refine ts_one ?_
    exact ts_ret (trv_of_f (tr_and (tr_isi (c := "str") (n := "str") (trp_v 1) (by decide) (by decide +kernel) fr.str fr.isinstance rfl (by decide) (by decide)) (tr_one (tr_inDic hr (tr_v 1) (trp_of_f (tr_fld "Kind" fr.c_Kind fr.n_Kind__table (trp_v 0)))))))), F.bindsN (ps := ["self", "method"]) fun _ _ _ _ _ _ us hl => match us, hl with | [_, _], _ => rfl⟩
def m_Kind_names : M Fl := (retM (op1n sortXL (op1 (fldD "Kind" "_table") (pk 0))))
def F_Kind_names (ds : List D) : Option Out := fnM 1 1 m_Kind_names ds
abbrev Hd_Kind_names (P : Program) (w : World) (K : PySem.W.Frag) (mg : Str → Option Value) (base : Heap) : Prop := True

theorem sc_Kind_names : FnScope ["self"] ["self"] (defScope (inClass (tp 33) 3)) := ⟨rfl, rfl, rfl, by decide +kernel, rfl, by decide +kernel, by decide +kernel⟩
theorem ok_Kind_names (fr : Fr K mg) (hd : Hd_Kind_names P w K mg base) (F : ∃ fd, FunD K "names" "Kind.names" (defArgs (inClass (tp 33) 3)) (defBody (inClass (tp 33) 3)) (defScope (inClass (tp 33) 3)) [] [] f fd) : ∃ fd, FnOk P w K mg base (L2.CX P w) 1 f fd ["self"] (spF K 1 F_Kind_names) ∧ Binds K fd ["self"] [] := by
  have sc := sc_Kind_names
  obtain ⟨fd, F⟩ := F
  exact ⟨fd, fn_F F sc rfl (by decide) (fun π cdv A outer s H E hr => by
    refine ts_one ?_
    exact ts_ret (tv_sortedX rfl (trp_of_f (tr_fld "Kind" fr.c_Kind fr.n_Kind__table (trp_v 0))) fr.sorted)), F.bindsN (ps := ["self"]) fun _ _ _ _ _ _ us hl => match us, hl with | [_], _ => rfl⟩
def m_Kind__row : M Fl := (seqM (ifM (tv (inOwnM "Kind" not F_Kind___contains__ (gv 1) (gv 0))) (raiseM "NoMethod" "method" (gv 1)) (ret .nx)) (retM (asV (op2 ixD (op1 (fldD "Kind" "_table") (pk 0)) (gv 1)))))
def F_Kind__row (ds : List D) : Option Out := fnM 2 2 m_Kind__row ds
structure Hd_Kind__row (P : Program) (w : World) (K : PySem.W.Frag) (mg : Str → Option Value) (base : Heap) : Prop where
  m_Kind___contains__ : MethOk P w K mg base 1 "Kind" "__contains__" (spF K 2 F_Kind___contains__)
  x_NoMethod : ExcOk P w K mg base 1 "NoMethod" "method"

theorem sc_Kind__row : FnScope ["self", "method"] ["self", "method"] (defScope (inClass (tp 33) 8)) := ⟨rfl, rfl, rfl, by decide +kernel, rfl, by decide +kernel, by decide +kernel⟩
theorem ok_Kind__row (fr : Fr K mg) (hd : Hd_Kind__row P w K mg base) (F : ∃ fd, FunD K "_row" "Kind._row" (defArgs (inClass (tp 33) 8)) (defBody (inClass (tp 33) 8)) (defScope (inClass (tp 33) 8)) [] [] f fd) : ∃ fd, FnOk P w K mg base (L2.CX P w) 3 f fd ["self", "method"] (spF K 2 F_Kind__row) ∧ Binds K fd ["self", "method"] [] := by
  have sc := sc_Kind__row
  obtain ⟨fd, F⟩ := F
  exact ⟨fd, fn_F F sc rfl (by decide) (fun π cdv A outer s H E hr => by
    refine ts_cons ?_ ?_
    · refine ts_if (tt_notInOwn hd.m_Kind___contains__ (hr.mono (by omega)) (tr_v 1) (tr_v 0)) ?_ ?_
      · refine ts_one ?_
        exact ts_raise hd.x_NoMethod rfl (hr.mono (by omega)) (tr_v 1)
      · exact ts_nil
    refine ts_one ?_
    exact ts_ret (trv_of_f (tr_ix hr (tr_fld "Kind" fr.c_Kind fr.n_Kind__table (trp_v 0)) (tr_v 1)))), F.bindsN (ps := ["self", "method"]) fun _ _ _ _ _ _ us hl => match us, hl with | [_, _], _ => rfl⟩
def m__is_answer : M Fl := (retM (asV (andV (frz (callM 3 F_is_row (cnsM (gv 2) (cnsM (ret (.int 2)) (cnsM (ret (.int 2)) (ret [])))))) (andV (frz (callM 2 F_is_below (cnsM (op2v ixD 2 (ret (.int 0))) (cnsM (gv 1) (ret []))))) (frz (callM 2 F_is_below (cnsM (op2v ixD 2 (ret (.int 1))) (cnsM (gv 0) (ret [])))))))))
def F__is_answer (ds : List D) : Option Out := fnM 3 3 m__is_answer ds
structure Hd__is_answer (P : Program) (w : World) (K : PySem.W.Frag) (mg : Str → Option Value) (base : Heap) : Prop where
  is_below : DefOk P w K mg base 3 "is_below" (spF K 2 F_is_below)
  is_row : DefOk P w K mg base 1 "is_row" (spF K 3 F_is_row)

theorem sc__is_answer : FnScope ["states", "results", "answer"] ["states", "results", "answer"] (defScope (tp 38)) := ⟨rfl, rfl, rfl, by decide +kernel, rfl, by decide +kernel, by decide +kernel⟩
theorem ok__is_answer (fr : Fr K mg) (hd : Hd__is_answer P w K mg base) (F : ∃ fd, FunD K "_is_answer" "_is_answer" (defArgs (tp 38)) (defBody (tp 38)) (defScope (tp 38)) [] [] f fd) (hg : mg "_is_answer" = some (.ref f)) : DefOk P w K mg base 4 "_is_answer" (spF K 3 F__is_answer) :=
  have sc := sc__is_answer
  def_F F hg sc rfl (by decide) (fun π cdv A outer s H E hr => by
    refine ts_one ?_
    exact ts_ret (trv_of_f (tr_and (tr_frz (tv_callD (hd.is_row) (hr.mono (by omega)) (ta_cons (tr_v 2) (ta_cons tr_int (ta_cons tr_int ta_nil))))) (tr_and (tr_frz (tv_callD (hd.is_below) (hr.mono (by omega)) (ta_cons (tr_ixv 2 hr tr_int) (ta_cons (tr_v 1) ta_nil)))) (tr_one (tr_frz (tv_callD (hd.is_below) (hr.mono (by omega)) (ta_cons (tr_ixv 2 hr tr_int) (ta_cons (tr_v 0) ta_nil))))))))) (fun fd F => F.bindsN fun _ _ _ _ _ _ us hl => match us, hl with | [_, _, _], _ => rfl)
def m__kept_answers : M Fl := (retM (asV (op1 tupD (frz (op1n sortL (frz (compM [1] (itM (gv 0)) (fun d => stS 1 d false) (ret true) (op1 tupD (gv 1)))))))))
def F__kept_answers (ds : List D) : Option Out := fnM 2 1 m__kept_answers ds
abbrev Hd__kept_answers (P : Program) (w : World) (K : PySem.W.Frag) (mg : Str → Option Value) (base : Heap) : Prop := True

theorem sc__kept_answers : FnScope ["answers", "answer"] ["answers"] (defScope (tp 40)) := ⟨rfl, rfl, rfl, by decide +kernel, rfl, by decide +kernel, by decide +kernel⟩
theorem ok__kept_answers (fr : Fr K mg) (hd : Hd__kept_answers P w K mg base) (F : ∃ fd, FunD K "_kept_answers" "_kept_answers" (defArgs (tp 40)) (defBody (tp 40)) (defScope (tp 40)) [] [] f fd) (hg : mg "_kept_answers" = some (.ref f)) : DefOk P w K mg base 1 "_kept_answers" (spF K 1 F__kept_answers) :=
  have sc := sc__kept_answers
  def_F F hg sc rfl (by decide) (fun π cdv A outer s H E hr => by
    refine ts_one ?_
    exact ts_ret (trv_of_f (tr_tupc (tr_frz (tv_sorted (trp_of_f (tr_frz (tv_lc (own := [("answer", 1)]) rfl sc.nd (ti_seq (tr_v 0)) (blkOk_by (by kernel_rfl)) (by decide) (fun s0 H0 C cl fp => (tg_name 1 sc.nd)) (fun s0 H0 C cl fp => tts_nil) (fun s0 H0 C cl fp => (tr_tupc (tr_v 1) fr.tuple))))) fr.sorted)) fr.tuple))) (fun fd F => F.bindsN fun _ _ _ _ _ _ us hl => match us, hl with | [_], _ => rfl)
def m__law_pool : M Fl := (seqM (setM 1 (asV (ret (.int 29)))) (seqM (bd (itM (frz (slcXM (gv 0) (ret none) (partM (ret (.int 63)))))) (forM (fun d => stS 2 d false) (setM 1 (asV (op2 modI (op1 intXD (op2 addD (op2 addD (op2 timD (gv 1) (ret (.int 47))) (gv 2)) (ret (.int 11)))) (ret (.int 2147483629))))))) (retM (lstM (cnsM (frz (op1n listD (frz (slcXM (gv 0) (ret none) (partM (ret (.int 63))))))) (cnsM (ret (.int 0)) (cnsM (ret (.int 0)) (cnsM (ret (.int 0)) (cnsM (gv 1) (ret []))))))))))
def F__law_pool (ds : List D) : Option Out := fnM 3 1 m__law_pool ds
abbrev Hd__law_pool (P : Program) (w : World) (K : PySem.W.Frag) (mg : Str → Option Value) (base : Heap) : Prop := True

theorem sc__law_pool : FnScope ["script", "seed", "value"] ["script"] (defScope (tp 42)) := ⟨rfl, rfl, rfl, by decide +kernel, rfl, by decide +kernel, by decide +kernel⟩
theorem ok__law_pool (fr : Fr K mg) (hd : Hd__law_pool P w K mg base) (F : ∃ fd, FunD K "_law_pool" "_law_pool" (defArgs (tp 42)) (defBody (tp 42)) (defScope (tp 42)) [] [] f fd) (hg : mg "_law_pool" = some (.ref f)) : DefOk P w K mg base 1 "_law_pool" (spF K 1 F__law_pool) :=
  have sc := sc__law_pool
  def_F F hg sc rfl (by decide) (fun π cdv A outer s H E hr => by
    refine ts_cons ?_ ?_
    · exact ts_set 1 (trv_of_f tr_int) sc.nd
    refine ts_cons ?_ ?_
    · refine ts_for (passes_of rfl) rfl (ti_seq (tr_frz (tv_slcX (tr_v 0) to_none (to_some tr_int)))) (tg_name 2 sc.nd) ?_
      refine ts_one ?_
      exact ts_set 1 (trv_of_f (tr_mod (tr_intX (trp_of_f (tr_addA (tr_addA (tr_tim (tr_v 1) tr_int) (tr_v 2)) tr_int)) fr.int) tr_int)) sc.nd
    refine ts_one ?_
    exact ts_ret (tv_lst (ta_cons (tr_frz (tv_list rfl (trp_of_f (tr_frz (tv_slcX (tr_v 0) to_none (to_some tr_int)))) fr.list)) (ta_cons tr_int (ta_cons tr_int (ta_cons tr_int (ta_cons (tr_v 1) ta_nil))))))) (fun fd F => F.bindsN fun _ _ _ _ _ _ us hl => match us, hl with | [_], _ => rfl)
def m__law_draw : M Fl := (seqM (setIxM 0 (op2 addD (op2v ixD 0 (ret (.int 3))) (ret (.int 1))) (ret (.int 3))) (seqM (ifM (andM (tv (op2 eqD (op2v ixD 0 (ret (.int 2))) (ret (.int 0)))) (tv (op2 ltD (op2v ixD 0 (ret (.int 1))) (op1 lenD (op2v ixD 0 (ret (.int 0))))))) (seqM (setM 3 (asV (op2 ixD (op2v ixD 0 (ret (.int 0))) (op2v ixD 0 (ret (.int 1)))))) (seqM (setIxM 0 (op2 addD (op2v ixD 0 (ret (.int 1))) (ret (.int 1))) (ret (.int 1))) (ifM (tv (op2 geD (gv 3) (op2 powI (ret (.int 10)) (ret (.int 18))))) (setIxM 0 (gv 3) (ret (.int 2))) (setIxM 0 (op2 modI (op1 intXD (op2 addD (op2 addD (op2 timD (op2v ixD 0 (ret (.int 4))) (ret (.int 41))) (gv 3)) (ret (.int 5417)))) (ret (.int 2147483629))) (ret (.int 4)))))) (ret .nx)) (seqM (ifM (tv (op2 gtD (op2v ixD 0 (ret (.int 2))) (ret (.int 0)))) (seqM (setM 4 (asV (op2 modI (op1 intXD (op2v ixD 0 (ret (.int 2)))) (gv 1)))) (seqM (setIxM 0 (op2 divI (op2v ixD 0 (ret (.int 2))) (gv 1)) (ret (.int 2))) (rtv 4))) (ret .nx)) (seqM (setM 2 (asV (op2 modI (op1 intXD (op2 addD (op2 addD (op2 timD (op2v ixD 0 (ret (.int 4))) (ret (.int 40014))) (op2 timD (op2v ixD 0 (ret (.int 3))) (ret (.int 119267)))) (ret (.int 7817)))) (ret (.int 2147483647))))) (seqM (setM 2 (asV (op2 modI (op1 intXD (op2 timD (gv 2) (op2 addD (op2 divI (gv 2) (ret (.int 1021))) (ret (.int 69621))))) (ret (.int 2147483647))))) (seqM (setM 2 (asV (op2 modI (op1 intXD (op2 timD (gv 2) (op2 addD (op2 divI (gv 2) (ret (.int 2029))) (ret (.int 48271))))) (ret (.int 2147483399))))) (retM (asV (op2 modI (op1 intXD (op2 divI (gv 2) (ret (.int 32)))) (gv 1))))))))))
def F__law_draw (d : D) (ds : List D) : Option (D × Out) := fnP 5 1 m__law_draw d ds
abbrev Hd__law_draw (P : Program) (w : World) (K : PySem.W.Frag) (mg : Str → Option Value) (base : Heap) : Prop := True

theorem sc__law_draw : FnScope ["pool", "many", "number", "value", "digit"] ["pool", "many"] (defScope (tp 43)) := ⟨rfl, rfl, rfl, by decide +kernel, rfl, by decide +kernel, by decide +kernel⟩
theorem ok__law_draw (fr : Fr K mg) (hd : Hd__law_draw P w K mg base) (F : ∃ fd, FunD K "_law_draw" "_law_draw" (defArgs (tp 43)) (defBody (tp 43)) (defScope (tp 43)) [] [] f fd) (hg : mg "_law_draw" = some (.ref f)) : DefOk P w K mg base 1 "_law_draw" (spP K 1 F__law_draw) :=
  have sc := sc__law_draw
  def_P F hg sc rfl (by decide) (fun π cdv A outer s H E hr => by
    refine ts_cons ?_ ?_
    · exact ts_setix 0 hr (tr_addA (tr_ixv 0 hr tr_int) tr_int) tr_int
    refine ts_cons ?_ ?_
    · refine ts_if (tt_w (tw_and (tt_eq hr (tr_ixv 0 hr tr_int) (trp_of_f tr_int)) (tw_and1 (tt_lt (tr_ixv 0 hr tr_int) (tr_len (trp_of_f (tr_ixv 0 hr tr_int)) fr.len))))) ?_ ?_
      · refine ts_cons ?_ ?_
        · exact ts_set 3 (trv_of_f (tr_ix hr (tr_ixv 0 hr tr_int) (tr_ixv 0 hr tr_int))) sc.nd
        refine ts_cons ?_ ?_
        · exact ts_setix 0 hr (tr_addA (tr_ixv 0 hr tr_int) tr_int) tr_int
        refine ts_one ?_
        refine ts_if (tt_ge (tr_v 3) (tr_pow tr_int tr_int)) ?_ ?_
        · refine ts_one ?_
          exact ts_setix 0 hr (tr_v 3) tr_int
        · refine ts_one ?_
          exact ts_setix 0 hr (tr_mod (tr_intX (trp_of_f (tr_addA (tr_addA (tr_tim (tr_ixv 0 hr tr_int) tr_int) (tr_v 3)) tr_int)) fr.int) tr_int) tr_int
      · exact ts_nil
    refine ts_cons ?_ ?_
    · refine ts_if (tt_gt (tr_ixv 0 hr tr_int) tr_int) ?_ ?_
      · refine ts_cons ?_ ?_
        · exact ts_set 4 (trv_of_f (tr_mod (tr_intX (trp_of_f (tr_ixv 0 hr tr_int)) fr.int) (tr_v 1))) sc.nd
        refine ts_cons ?_ ?_
        · exact ts_setix 0 hr (tr_div (tr_ixv 0 hr tr_int) (tr_v 1)) tr_int
        refine ts_one ?_
        exact ts_rtv 4
      · exact ts_nil
    refine ts_cons ?_ ?_
    · exact ts_set 2 (trv_of_f (tr_mod (tr_intX (trp_of_f (tr_addA (tr_addA (tr_tim (tr_ixv 0 hr tr_int) tr_int) (tr_tim (tr_ixv 0 hr tr_int) tr_int)) tr_int)) fr.int) tr_int)) sc.nd
    refine ts_cons ?_ ?_
    · exact ts_set 2 (trv_of_f (tr_mod (tr_intX (trp_of_f (tr_tim (tr_v 2) (tr_addA (tr_div (tr_v 2) tr_int) tr_int))) fr.int) tr_int)) sc.nd
    refine ts_cons ?_ ?_
    · exact ts_set 2 (trv_of_f (tr_mod (tr_intX (trp_of_f (tr_tim (tr_v 2) (tr_addA (tr_div (tr_v 2) tr_int) tr_int))) fr.int) tr_int)) sc.nd
    refine ts_one ?_
    exact ts_ret (trv_of_f (tr_mod (tr_intX (trp_of_f (tr_div (tr_v 2) tr_int)) fr.int) (tr_v 1)))) (fun fd F => F.bindsN fun _ _ _ _ _ _ us hl => match us, hl with | [_, _], _ => rfl)
def m__law_names : M Fl := (seqM (setM 2 (asV (ret (.str ("abcdefghijklmnopqrstuvwxyz" : PySem.Str))))) (seqM (setM 3 (lstM (ret []))) (seqM (bd (rng1 (gv 1)) (forM (fun d => stS 4 d false) (seqM (setM 5 (pickM (cnsV (asV (ret (.int 1))) (cnsV (asV (ret (.int 2))) (cnsV (asV (ret (.int 3))) (cnsV (asV (ret (.int 8))) (ret []))))) (frz (callPM 0 1 F__law_draw (cnsM (ret (.int 4)) (ret [])))))) (seqM (setM 6 (asV (joinM (ret (.str ("" : PySem.Str))) (frz (compM [7] (rng1 (gv 5)) (fun d => stS 7 d false) (ret true) (op2v ixD 2 (frz (callPM 0 1 F__law_draw (cnsM (ret (.int 26)) (ret [])))))))))) (seqM (ifM (tv (op2 inD (gv 6) (pk 3))) (setM 6 (asV (op2 ixD (frz (compM [8] (itM (gv 2)) (fun d => stS 8 d false) (tv (op2 niD (gv 8) (pk 3))) (gv 8))) (ret (.int 0))))) (ret .nx)) (exprM (tyM "list" 3 (ownM 3 appD (cnsM (gv 6) (ret [])))))))))) (rtv 3))))
def F__law_names (d : D) (ds : List D) : Option (D × Out) := fnP 9 1 m__law_names d ds
structure Hd__law_names (P : Program) (w : World) (K : PySem.W.Frag) (mg : Str → Option Value) (base : Heap) : Prop where
  _law_draw : DefOk P w K mg base 1 "_law_draw" (spP K 1 F__law_draw)

theorem sc__law_names : FnScope ["pool", "many", "letters", "names", "k", "size", "name", "at", "letter"] ["pool", "many"] (defScope (tp 44)) := ⟨rfl, rfl, rfl, by decide +kernel, rfl, by decide +kernel, by decide +kernel⟩
theorem ok__law_names (fr : Fr K mg) (hd : Hd__law_names P w K mg base) (F : ∃ fd, FunD K "_law_names" "_law_names" (defArgs (tp 44)) (defBody (tp 44)) (defScope (tp 44)) [] [] f fd) (hg : mg "_law_names" = some (.ref f)) : DefOk P w K mg base 2 "_law_names" (spP K 1 F__law_names) :=
  have sc := sc__law_names
  def_P F hg sc rfl (by decide) (fun π cdv A outer s H E hr => by
    refine ts_cons ?_ ?_
    · exact ts_set 2 (trv_of_f tr_str) sc.nd
    refine ts_cons ?_ ?_
    · exact ts_set 3 (tv_lst ta_nil) sc.nd
    refine ts_cons ?_ ?_
    · refine ts_for (passes_of rfl) rfl (ti_rng1 (tr_v 1) fr.range) (tg_name 4 sc.nd) ?_
      refine ts_cons ?_ ?_
      · exact ts_set 5 (tv_pick (tav_cons (trv_of_f tr_int) (tav_cons (trv_of_f tr_int) (tav_cons (trv_of_f tr_int) (tav_cons (trv_of_f tr_int) tav_nil)))) (tr_frz (tv_callPD 0 (hd._law_draw) (hr.mono (by omega)) (ta_cons tr_int ta_nil)))) sc.nd
      refine ts_cons ?_ ?_
      · exact ts_set 6 (trv_of_f (tr_join tr_str (tr_frz (tv_lc (own := [("at", 7)]) rfl sc.nd (ti_rng1 (tr_v 5) fr.range) (blkOk_by (by kernel_rfl)) (by decide) (fun s0 H0 C cl fp => (tg_name 7 sc.nd)) (fun s0 H0 C cl fp => tts_nil) (fun s0 H0 C cl fp => (tr_ixv 2 hr (tr_frz (tv_callPD 0 (hd._law_draw) (hr.mono (by omega)) (ta_cons tr_int ta_nil))))))))) sc.nd
      refine ts_cons ?_ ?_
      · refine ts_if (tt_in hr (tr_v 6) (trp_v 3)) ?_ ?_
        · refine ts_one ?_
          exact ts_set 6 (trv_of_f (tr_ix hr (tr_frz (tv_lc (own := [("letter", 8)]) rfl sc.nd (ti_seq (tr_v 2)) (blkOk_by (by kernel_rfl)) (by decide) (fun s0 H0 C cl fp => (tg_name 8 sc.nd)) (fun s0 H0 C cl fp => (tts_one (tt_notIn hr (tr_v 8) (trp_v 3)))) (fun s0 H0 C cl fp => (tr_v 8)))) tr_int)) sc.nd
        · exact ts_nil
      refine ts_one ?_
      exact ts_expr (tv_append 3 (ta_cons (tr_v 6) ta_nil))
    refine ts_one ?_
    exact ts_rtv 3) (fun fd F => F.bindsN fun _ _ _ _ _ _ us hl => match us, hl with | [_, _], _ => rfl)
def m__law_answers : M Fl := (seqM (setM 4 (pickM (cnsV (asV (ret (.int 1))) (cnsV (asV (ret (.int 1))) (cnsV (asV (ret (.int 1))) (cnsV (asV (ret (.int 1))) (cnsV (asV (ret (.int 2))) (cnsV (asV (ret (.int 3))) (cnsV (asV (ret (.int 8))) (cnsV (asV (ret (.int 0))) (ret []))))))))) (frz (callPM 0 1 F__law_draw (cnsM (ret (.int 8)) (ret [])))))) (seqM (setM 5 (lstM (ret []))) (seqM (bd (rng1 (max2M (cnsM (gv 4) (cnsM (op1 intXD (pk 3)) (ret []))))) (forM (fun d => stS 6 d false) (seqM (setM 7 (asV (tupM (cnsM (frz (callPM 0 1 F__law_draw (cnsM (gv 2) (ret [])))) (cnsM (frz (callPM 0 1 F__law_draw (cnsM (gv 1) (ret [])))) (ret [])))))) (ifM (tv (op2 niD (gv 7) (pk 5))) (exprM (tyM "list" 5 (ownM 5 appD (cnsM (gv 7) (ret []))))) (ret .nx))))) (retM (op1n sortL (pk 5))))))
def F__law_answers (d : D) (ds : List D) : Option (D × Out) := fnP 8 3 m__law_answers d ds
structure Hd__law_answers (P : Program) (w : World) (K : PySem.W.Frag) (mg : Str → Option Value) (base : Heap) : Prop where
  _law_draw : DefOk P w K mg base 1 "_law_draw" (spP K 1 F__law_draw)

theorem sc__law_answers : FnScope ["pool", "states", "results", "total", "count", "found", "k", "answer"] ["pool", "states", "results", "total"] (defScope (tp 45)) := ⟨rfl, rfl, rfl, by decide +kernel, rfl, by decide +kernel, by decide +kernel⟩
theorem ok__law_answers (fr : Fr K mg) (hd : Hd__law_answers P w K mg base) (F : ∃ fd, FunD K "_law_answers" "_law_answers" (defArgs (tp 45)) (defBody (tp 45)) (defScope (tp 45)) [] [] f fd) (hg : mg "_law_answers" = some (.ref f)) : DefOk P w K mg base 2 "_law_answers" (spP K 3 F__law_answers) :=
  have sc := sc__law_answers
  def_P F hg sc rfl (by decide) (fun π cdv A outer s H E hr => by
    refine ts_cons ?_ ?_
    · exact ts_set 4 (tv_pick (tav_cons (trv_of_f tr_int) (tav_cons (trv_of_f tr_int) (tav_cons (trv_of_f tr_int) (tav_cons (trv_of_f tr_int) (tav_cons (trv_of_f tr_int) (tav_cons (trv_of_f tr_int) (tav_cons (trv_of_f tr_int) (tav_cons (trv_of_f tr_int) tav_nil)))))))) (tr_frz (tv_callPD 0 (hd._law_draw) (hr.mono (by omega)) (ta_cons tr_int ta_nil)))) sc.nd
    refine ts_cons ?_ ?_
    · exact ts_set 5 (tv_lst ta_nil) sc.nd
    refine ts_cons ?_ ?_
    · refine ts_for (passes_of rfl) rfl (ti_rng1 (tr_max2 rfl (ta_cons (tr_v 4) (ta_cons (tr_intX (trp_v 3) fr.int) ta_nil)) fr.max) fr.range) (tg_name 6 sc.nd) ?_
      refine ts_cons ?_ ?_
      · exact ts_set 7 (trv_of_f (tr_tup (ta_cons (tr_frz (tv_callPD 0 (hd._law_draw) (hr.mono (by omega)) (ta_cons (tr_v 2) ta_nil))) (ta_cons (tr_frz (tv_callPD 0 (hd._law_draw) (hr.mono (by omega)) (ta_cons (tr_v 1) ta_nil))) ta_nil)))) sc.nd
      refine ts_one ?_
      refine ts_if (tt_notIn hr (tr_v 7) (trp_v 5)) ?_ ?_
      · refine ts_one ?_
        exact ts_expr (tv_append 5 (ta_cons (tr_v 7) ta_nil))
      · exact ts_nil
    refine ts_one ?_
    exact ts_ret (tv_sorted (trp_v 5) fr.sorted)) (fun fd F => F.bindsN fun _ _ _ _ _ _ us hl => match us, hl with | [_, _, _, _], _ => rfl)
def m__law_method : M Fl := (seqM (setM 3 (pickM (cnsV (asV (ret (.int 1))) (cnsV (asV (ret (.int 1))) (cnsV (asV (ret (.int 2))) (cnsV (asV (ret (.int 3))) (cnsV (asV (ret (.int 4))) (ret [])))))) (frz (callPM 0 1 F__law_draw (cnsM (ret (.int 5)) (ret [])))))) (seqM (setM 4 (pickM (cnsV (asV (ret (.int 1))) (cnsV (asV (ret (.int 2))) (cnsV (asV (ret (.int 2))) (cnsV (asV (ret (.int 3))) (cnsV (asV (ret (.int 4))) (ret [])))))) (frz (callPM 0 1 F__law_draw (cnsM (ret (.int 5)) (ret [])))))) (seqM (setM 5 (lstM (ret []))) (seqM (bd (rng1 (gv 1)) (forM (fun d => stS 6 d false) (exprM (tyM "list" 5 (ownM 5 appD (cnsM (frz (compM [7] (rng1 (gv 3)) (fun d => stS 7 d false) (ret true) (frz (callPM 0 3 F__law_answers (cnsM (gv 1) (cnsM (gv 4) (cnsM (gv 2) (ret [])))))))) (ret []))))))) (retM (asV (tupM (cnsM (gv 3) (cnsM (gv 4) (cnsM (gv 5) (ret [])))))))))))
def F__law_method (d : D) (ds : List D) : Option (D × Out) := fnP 8 2 m__law_method d ds
structure Hd__law_method (P : Program) (w : World) (K : PySem.W.Frag) (mg : Str → Option Value) (base : Heap) : Prop where
  _law_answers : DefOk P w K mg base 2 "_law_answers" (spP K 3 F__law_answers)
  _law_draw : DefOk P w K mg base 1 "_law_draw" (spP K 1 F__law_draw)

theorem sc__law_method : FnScope ["pool", "states", "total", "arguments", "results", "rows", "state", "argument"] ["pool", "states", "total"] (defScope (tp 46)) := ⟨rfl, rfl, rfl, by decide +kernel, rfl, by decide +kernel, by decide +kernel⟩
theorem ok__law_method (fr : Fr K mg) (hd : Hd__law_method P w K mg base) (F : ∃ fd, FunD K "_law_method" "_law_method" (defArgs (tp 46)) (defBody (tp 46)) (defScope (tp 46)) [] [] f fd) (hg : mg "_law_method" = some (.ref f)) : DefOk P w K mg base 3 "_law_method" (spP K 2 F__law_method) :=
  have sc := sc__law_method
  def_P F hg sc rfl (by decide) (fun π cdv A outer s H E hr => by
    refine ts_cons ?_ ?_
    · exact ts_set 3 (tv_pick (tav_cons (trv_of_f tr_int) (tav_cons (trv_of_f tr_int) (tav_cons (trv_of_f tr_int) (tav_cons (trv_of_f tr_int) (tav_cons (trv_of_f tr_int) tav_nil))))) (tr_frz (tv_callPD 0 (hd._law_draw) (hr.mono (by omega)) (ta_cons tr_int ta_nil)))) sc.nd
    refine ts_cons ?_ ?_
    · exact ts_set 4 (tv_pick (tav_cons (trv_of_f tr_int) (tav_cons (trv_of_f tr_int) (tav_cons (trv_of_f tr_int) (tav_cons (trv_of_f tr_int) (tav_cons (trv_of_f tr_int) tav_nil))))) (tr_frz (tv_callPD 0 (hd._law_draw) (hr.mono (by omega)) (ta_cons tr_int ta_nil)))) sc.nd
    refine ts_cons ?_ ?_
    · exact ts_set 5 (tv_lst ta_nil) sc.nd
    refine ts_cons ?_ ?_
    · refine ts_for (passes_of rfl) rfl (ti_rng1 (tr_v 1) fr.range) (tg_name 6 sc.nd) ?_
      refine ts_one ?_
      exact ts_expr (tv_append 5 (ta_cons (tr_frz (tv_lc (own := [("argument", 7)]) rfl sc.nd (ti_rng1 (tr_v 3) fr.range) (blkOk_by (by kernel_rfl)) (by decide) (fun s0 H0 C cl fp => (tg_name 7 sc.nd)) (fun s0 H0 C cl fp => tts_nil) (fun s0 H0 C cl fp => (tr_frz (tv_callPD 0 (hd._law_answers) (hr.mono (by omega)) (ta_cons (tr_v 1) (ta_cons (tr_v 4) (ta_cons (tr_v 2) ta_nil)))))))) ta_nil))
    refine ts_one ?_
    exact ts_ret (trv_of_f (tr_tup (ta_cons (tr_v 3) (ta_cons (tr_v 4) (ta_cons (tr_v 5) ta_nil)))))) (fun fd F => F.bindsN fun _ _ _ _ _ _ us hl => match us, hl with | [_, _, _], _ => rfl)
def m__law_model : M Fl := (seqM (setM 3 (pickM (cnsV (asV (ret (.int 1))) (cnsV (asV (ret (.int 2))) (cnsV (asV (ret (.int 2))) (cnsV (asV (ret (.int 3))) (cnsV (asV (ret (.int 4))) (cnsV (asV (ret (.int 8))) (ret []))))))) (frz (callPM 0 1 F__law_draw (cnsM (ret (.int 6)) (ret [])))))) (seqM (setM 4 (ret (.dic [] [], true))) (seqM (bd (itM (frz (callPM 0 1 F__law_names (cnsM (op2 addD (ret (.int 1)) (frz (callPM 0 1 F__law_draw (cnsM (gv 2) (ret []))))) (ret []))))) (forM (fun d => stS 5 d false) (setIxM 4 (frz (callPM 0 2 F__law_method (cnsM (gv 3) (cnsM (gv 1) (ret []))))) (gv 5)))) (retM (lstM (cnsM (gv 3) (cnsM (frz (callPM 0 1 F__law_draw (cnsM (gv 3) (ret [])))) (cnsM (gv 4) (ret [])))))))))
def F__law_model (d : D) (ds : List D) : Option (D × Out) := fnP 6 2 m__law_model d ds
structure Hd__law_model (P : Program) (w : World) (K : PySem.W.Frag) (mg : Str → Option Value) (base : Heap) : Prop where
  _law_draw : DefOk P w K mg base 1 "_law_draw" (spP K 1 F__law_draw)
  _law_method : DefOk P w K mg base 3 "_law_method" (spP K 2 F__law_method)
  _law_names : DefOk P w K mg base 2 "_law_names" (spP K 1 F__law_names)

theorem sc__law_model : FnScope ["pool", "total", "most", "states", "methods", "name"] ["pool", "total", "most"] (defScope (tp 47)) := ⟨rfl, rfl, rfl, by decide +kernel, rfl, by decide +kernel, by decide +kernel⟩
theorem ok__law_model (fr : Fr K mg) (hd : Hd__law_model P w K mg base) (F : ∃ fd, FunD K "_law_model" "_law_model" (defArgs (tp 47)) (defBody (tp 47)) (defScope (tp 47)) [] [] f fd) (hg : mg "_law_model" = some (.ref f)) : DefOk P w K mg base 4 "_law_model" (spP K 2 F__law_model) :=
  have sc := sc__law_model
  def_P F hg sc rfl (by decide) (fun π cdv A outer s H E hr => by
    refine ts_cons ?_ ?_
    · exact ts_set 3 (tv_pick (tav_cons (trv_of_f tr_int) (tav_cons (trv_of_f tr_int) (tav_cons (trv_of_f tr_int) (tav_cons (trv_of_f tr_int) (tav_cons (trv_of_f tr_int) (tav_cons (trv_of_f tr_int) tav_nil)))))) (tr_frz (tv_callPD 0 (hd._law_draw) (hr.mono (by omega)) (ta_cons tr_int ta_nil)))) sc.nd
    refine ts_cons ?_ ?_
    · exact ts_set 4 tv_dict0 sc.nd
    refine ts_cons ?_ ?_
    · refine ts_for (passes_of rfl) rfl (ti_seq (tr_frz (tv_callPD 0 (hd._law_names) (hr.mono (by omega)) (ta_cons (tr_addA tr_int (tr_frz (tv_callPD 0 (hd._law_draw) (hr.mono (by omega)) (ta_cons (tr_v 2) ta_nil)))) ta_nil)))) (tg_name 5 sc.nd) ?_
      refine ts_one ?_
      exact ts_setix 4 hr (tr_frz (tv_callPD 0 (hd._law_method) (hr.mono (by omega)) (ta_cons (tr_v 3) (ta_cons (tr_v 1) ta_nil)))) (tr_v 5)
    refine ts_one ?_
    exact ts_ret (tv_lst (ta_cons (tr_v 3) (ta_cons (tr_frz (tv_callPD 0 (hd._law_draw) (hr.mono (by omega)) (ta_cons (tr_v 3) ta_nil))) (ta_cons (tr_v 4) ta_nil))))) (fun fd F => F.bindsN fun _ _ _ _ _ _ us hl => match us, hl with | [_, _, _], _ => rfl)
def m__law_copied (rec : List D → Option Out) : M Fl := (seqM (ifM (tv (op1 (isI "dict") (pk 0))) (seqM (setM 1 (ret (.dic [] [], true))) (seqM (bd (itM (gv 0)) (forM (fun d => stS 2 d false) (setIxM 1 (frz (callM 1 rec (cnsM (op2v ixD 0 (gv 2)) (ret [])))) (gv 2)))) (rtv 1))) (ret .nx)) (seqM (ifM (tv (op1 (isI "list") (pk 0))) (retM (compM [3] (itM (gv 0)) (fun d => stS 3 d false) (ret true) (frz (callM 1 rec (cnsM (gv 3) (ret [])))))) (ret .nx)) (seqM (ifM (tv (op1 (isI "tuple") (pk 0))) (retM (asV (op1 tupD (frz (compM [3] (itM (gv 0)) (fun d => stS 3 d false) (ret true) (frz (callM 1 rec (cnsM (gv 3) (ret []))))))))) (ret .nx)) (rtv 0))))
def F__law_copied : Nat → List D → Option Out
  | 0 => fun _ => none
  | n + 1 => fnM 4 1 (m__law_copied (F__law_copied n))
abbrev Hd__law_copied (P : Program) (w : World) (K : PySem.W.Frag) (mg : Str → Option Value) (base : Heap) : Prop := True

theorem sc__law_copied : FnScope ["value", "found", "key", "item"] ["value"] (defScope (tp 48)) := ⟨rfl, rfl, rfl, by decide +kernel, rfl, by decide +kernel, by decide +kernel⟩
theorem ok__law_copied (fr : Fr K mg) (hd : Hd__law_copied P w K mg base) (F : ∃ fd, FunD K "_law_copied" "_law_copied" (defArgs (tp 48)) (defBody (tp 48)) (defScope (tp 48)) [] [] f fd) (hg : mg "_law_copied" = some (.ref f)) : ∀ n : Nat, DefOk P w K mg base (n + 0) "_law_copied" (spF K 1 (F__law_copied n))
  | 0 => def_none F hg (ps := ["value"]) (fun fd F => F.bindsN fun _ _ _ _ _ _ us hl => match us, hl with | [_], _ => rfl)
  | n + 1 =>
    have ih := ok__law_copied fr hd F hg n
    have sc := sc__law_copied
    def_F F hg sc rfl (by decide) (fun π cdv A outer s H E hr => by
      refine ts_cons ?_ ?_
      · refine ts_if (tt_val (tr_isi (c := "dict") (n := "dict") (trp_v 0) (by decide) (by decide +kernel) fr.dict fr.isinstance rfl (by decide) (by decide))) ?_ ?_
        · refine ts_cons ?_ ?_
          · exact ts_set 1 tv_dict0 sc.nd
          refine ts_cons ?_ ?_
          · refine ts_for (passes_of rfl) rfl (ti_seq (tr_v 0)) (tg_name 2 sc.nd) ?_
            refine ts_one ?_
            exact ts_setix 1 hr (tr_frz (tv_callD ih (hr.mono (by omega)) (ta_cons (tr_ixv 0 hr (tr_v 2)) ta_nil))) (tr_v 2)
          refine ts_one ?_
          exact ts_rtv 1
        · exact ts_nil
      refine ts_cons ?_ ?_
      · refine ts_if (tt_val (tr_isi (c := "list") (n := "list") (trp_v 0) (by decide) (by decide +kernel) fr.list fr.isinstance rfl (by decide) (by decide))) ?_ ?_
        · refine ts_one ?_
          exact ts_ret (tv_lc (own := [("item", 3)]) rfl sc.nd (ti_seq (tr_v 0)) (blkOk_by (by kernel_rfl)) (by decide) (fun s0 H0 C cl fp => (tg_name 3 sc.nd)) (fun s0 H0 C cl fp => tts_nil) (fun s0 H0 C cl fp => (tr_frz (tv_callD ih (hr.mono (by omega)) (ta_cons (tr_v 3) ta_nil)))))
        · exact ts_nil
      refine ts_cons ?_ ?_
      · refine ts_if (tt_val (tr_isi (c := "tuple") (n := "tuple") (trp_v 0) (by decide) (by decide +kernel) fr.tuple fr.isinstance rfl (by decide) (by decide))) ?_ ?_
        · refine ts_one ?_
          exact ts_ret (trv_of_f (tr_tupc (tr_frz (tv_lc (own := [("item", 3)]) rfl sc.nd (ti_seq (tr_v 0)) (blkOk_by (by kernel_rfl)) (by decide) (fun s0 H0 C cl fp => (tg_name 3 sc.nd)) (fun s0 H0 C cl fp => tts_nil) (fun s0 H0 C cl fp => (tr_frz (tv_callD ih (hr.mono (by omega)) (ta_cons (tr_v 3) ta_nil)))))) fr.tuple))
        · exact ts_nil
      refine ts_one ?_
      exact ts_rtv 0) (fun fd F => F.bindsN fun _ _ _ _ _ _ us hl => match us, hl with | [_], _ => rfl)
def m__law_same (rec : List D → Option Out) : M Fl := (seqM (ifM (tv (op1 isN (pk 1))) (retM (asV (op1 isN (pk 0)))) (ret .nx)) (seqM (ifM (orM (tv (op1 (isI "bool") (pk 1))) (tv (op1 (isI "bool") (pk 0)))) (retM (asV (andV (op1 (isI "bool") (pk 1)) (andV (op1 (isI "bool") (pk 0)) (op2 eqD (gv 0) (pk 1)))))) (ret .nx)) (seqM (ifM (tv (op1 (isI "int") (pk 1))) (retM (asV (andV (op1 (isI "int") (pk 0)) (op2 eqD (gv 0) (pk 1))))) (ret .nx)) (seqM (ifM (tv (op1 (isI "str") (pk 1))) (retM (asV (andV (op1 (isI "str") (pk 0)) (op2 eqD (gv 0) (pk 1))))) (ret .nx)) (seqM (ifM (orM (tv (op2 neD (op1 (isI "list") (pk 1)) (op1 (isI "list") (pk 0)))) (notM (tv (op1 (isI2 "list" "tuple") (pk 0))))) (retM (asV (ret (.bl false)))) (ret .nx)) (seqM (ifM (tv (op2 neD (op1 lenD (pk 0)) (op1 lenD (pk 1)))) (retM (asV (ret (.bl false)))) (ret .nx)) (retM (asV (op2 eqD (op1 lenD (frz (compM [2] (rng1 (op1 lenD (pk 1))) (fun d => stS 2 d false) (notM (tv (frz (callM 2 rec (cnsM (op2v ixD 0 (gv 2)) (cnsM (op2v ixD 1 (gv 2)) (ret []))))))) (gv 2)))) (ret (.int 0)))))))))))
def F__law_same : Nat → List D → Option Out
  | 0 => fun _ => none
  | n + 1 => fnM 3 2 (m__law_same (F__law_same n))
abbrev Hd__law_same (P : Program) (w : World) (K : PySem.W.Frag) (mg : Str → Option Value) (base : Heap) : Prop := True

theorem sc__law_same : FnScope ["actual", "due", "k"] ["actual", "due"] (defScope (tp 50)) := ⟨rfl, rfl, rfl, by decide +kernel, rfl, by decide +kernel, by decide +kernel⟩
theorem ok__law_same (fr : Fr K mg) (hd : Hd__law_same P w K mg base) (F : ∃ fd, FunD K "_law_same" "_law_same" (defArgs (tp 50)) (defBody (tp 50)) (defScope (tp 50)) [] [] f fd) (hg : mg "_law_same" = some (.ref f)) : ∀ n : Nat, DefOk P w K mg base (n + 0) "_law_same" (spF K 2 (F__law_same n))
  | 0 => def_none F hg (ps := ["actual", "due"]) (fun fd F => F.bindsN fun _ _ _ _ _ _ us hl => match us, hl with | [_, _], _ => rfl)
  | n + 1 =>
    have ih := ok__law_same fr hd F hg n
    have sc := sc__law_same
    def_F F hg sc rfl (by decide) (fun π cdv A outer s H E hr => by
      refine ts_cons ?_ ?_
      · refine ts_if (tt_isN (trp_v 1)) ?_ ?_
        · refine ts_one ?_
          exact ts_ret (trv_of_f (tr_isN (trp_v 0)))
        · exact ts_nil
      refine ts_cons ?_ ?_
      · refine ts_if (tt_w (tw_or (tt_val (tr_isi (c := "bool") (n := "bool") (trp_v 1) (by decide) (by decide +kernel) fr.bool fr.isinstance rfl (by decide) (by decide))) (tw_or1 (tt_val (tr_isi (c := "bool") (n := "bool") (trp_v 0) (by decide) (by decide +kernel) fr.bool fr.isinstance rfl (by decide) (by decide)))))) ?_ ?_
        · refine ts_one ?_
          exact ts_ret (trv_of_f (tr_and (tr_isi (c := "bool") (n := "bool") (trp_v 1) (by decide) (by decide +kernel) fr.bool fr.isinstance rfl (by decide) (by decide)) (tr_and (tr_isi (c := "bool") (n := "bool") (trp_v 0) (by decide) (by decide +kernel) fr.bool fr.isinstance rfl (by decide) (by decide)) (tr_one (tr_eq hr (tr_v 0) (trp_v 1))))))
        · exact ts_nil
      refine ts_cons ?_ ?_
      · refine ts_if (tt_val (tr_isi (c := "int") (n := "int") (trp_v 1) (by decide) (by decide +kernel) fr.int fr.isinstance rfl (by decide) (by decide))) ?_ ?_
        · refine ts_one ?_
          exact ts_ret (trv_of_f (tr_and (tr_isi (c := "int") (n := "int") (trp_v 0) (by decide) (by decide +kernel) fr.int fr.isinstance rfl (by decide) (by decide)) (tr_one (tr_eq hr (tr_v 0) (trp_v 1)))))
        · exact ts_nil
      refine ts_cons ?_ ?_
      · refine ts_if (tt_val (tr_isi (c := "str") (n := "str") (trp_v 1) (by decide) (by decide +kernel) fr.str fr.isinstance rfl (by decide) (by decide))) ?_ ?_
        · refine ts_one ?_
          exact ts_ret (trv_of_f (tr_and (tr_isi (c := "str") (n := "str") (trp_v 0) (by decide) (by decide +kernel) fr.str fr.isinstance rfl (by decide) (by decide)) (tr_one (tr_eq hr (tr_v 0) (trp_v 1)))))
        · exact ts_nil
      refine ts_cons ?_ ?_
      · refine ts_if (tt_w (tw_or (tt_ne hr (tr_isi (c := "list") (n := "list") (trp_v 1) (by decide) (by decide +kernel) fr.list fr.isinstance rfl (by decide) (by decide)) (trp_of_f (tr_isi (c := "list") (n := "list") (trp_v 0) (by decide) (by decide +kernel) fr.list fr.isinstance rfl (by decide) (by decide)))) (tw_or1 (tt_not (tt_val (tr_isi2 (c := "list") (c' := "tuple") (n := "list") (n' := "tuple") (trp_v 0) (by decide) (by decide) (by decide +kernel) (by decide +kernel) fr.list fr.tuple fr.isinstance rfl (by decide) (by decide) rfl (by decide) (by decide))))))) ?_ ?_
        · refine ts_one ?_
          exact ts_ret (trv_of_f tr_bl)
        · exact ts_nil
      refine ts_cons ?_ ?_
      · refine ts_if (tt_ne hr (tr_len (trp_v 0) fr.len) (trp_of_f (tr_len (trp_v 1) fr.len))) ?_ ?_
        · refine ts_one ?_
          exact ts_ret (trv_of_f tr_bl)
        · exact ts_nil
      refine ts_one ?_
      exact ts_ret (trv_of_f (tr_eq hr (tr_len (trp_of_f (tr_frz (tv_lc (own := [("k", 2)]) rfl sc.nd (ti_rng1 (tr_len (trp_v 1) fr.len) fr.range) (blkOk_by (by kernel_rfl)) (by decide) (fun s0 H0 C cl fp => (tg_name 2 sc.nd)) (fun s0 H0 C cl fp => (tts_one (tt_not (tt_val (tr_frz (tv_callD ih (hr.mono (by omega)) (ta_cons (tr_ixv 0 hr (tr_v 2)) (ta_cons (tr_ixv 1 hr (tr_v 2)) ta_nil)))))))) (fun s0 H0 C cl fp => (tr_v 2))))) fr.len) (trp_of_f tr_int)))) (fun fd F => F.bindsN fun _ _ _ _ _ _ us hl => match us, hl with | [_, _], _ => rfl)
def m__law_due : M Fl := (seqM (setM 2 (lstM (ret []))) (seqM (bd (itM (gv 1)) (forM (fun d => stS 3 d false) (seqM (setM 4 (ret (.dic [] [], true))) (seqM (bd (itM (gv 3)) (forM (fun d => stS 5 d false) (setIxM 4 (op1 tupD (frz (compM [6] (rng1 (op2 ixD (op2 ixD (op2v ixD 0 (ret (.int 2))) (gv 5)) (ret (.int 1)))) (fun d => stS 6 d false) (ret true) (ret (.int 0))))) (tupM (cnsM (ret (.int 0)) (cnsM (gv 5) (ret []))))))) (exprM (tyM "list" 2 (ownM 2 appD (cnsM (gv 4) (ret []))))))))) (rtv 2)))
def F__law_due (ds : List D) : Option Out := fnM 7 2 m__law_due ds
abbrev Hd__law_due (P : Program) (w : World) (K : PySem.W.Frag) (mg : Str → Option Value) (base : Heap) : Prop := True

theorem sc__law_due : FnScope ["model", "rows", "found", "row", "rules", "name", "k"] ["model", "rows"] (defScope (tp 51)) := ⟨rfl, rfl, rfl, by decide +kernel, rfl, by decide +kernel, by decide +kernel⟩
theorem ok__law_due (fr : Fr K mg) (hd : Hd__law_due P w K mg base) (F : ∃ fd, FunD K "_law_due" "_law_due" (defArgs (tp 51)) (defBody (tp 51)) (defScope (tp 51)) [] [] f fd) (hg : mg "_law_due" = some (.ref f)) : DefOk P w K mg base 1 "_law_due" (spF K 2 F__law_due) :=
  have sc := sc__law_due
  def_F F hg sc rfl (by decide) (fun π cdv A outer s H E hr => by
    refine ts_cons ?_ ?_
    · exact ts_set 2 (tv_lst ta_nil) sc.nd
    refine ts_cons ?_ ?_
    · refine ts_for (passes_of rfl) rfl (ti_seq (tr_v 1)) (tg_name 3 sc.nd) ?_
      refine ts_cons ?_ ?_
      · exact ts_set 4 tv_dict0 sc.nd
      refine ts_cons ?_ ?_
      · refine ts_for (passes_of rfl) rfl (ti_seq (tr_v 3)) (tg_name 5 sc.nd) ?_
        refine ts_one ?_
        exact ts_setix 4 hr (tr_tupc (tr_frz (tv_lc (own := [("k", 6)]) rfl sc.nd (ti_rng1 (tr_ix hr (tr_ix hr (tr_ixv 0 hr tr_int) (tr_v 5)) tr_int) fr.range) (blkOk_by (by kernel_rfl)) (by decide) (fun s0 H0 C cl fp => (tg_name 6 sc.nd)) (fun s0 H0 C cl fp => tts_nil) (fun s0 H0 C cl fp => tr_int))) fr.tuple) (tr_tup (ta_cons tr_int (ta_cons (tr_v 5) ta_nil)))
      refine ts_one ?_
      exact ts_expr (tv_append 2 (ta_cons (tr_v 4) ta_nil))
    refine ts_one ?_
    exact ts_rtv 2) (fun fd F => F.bindsN fun _ _ _ _ _ _ us hl => match us, hl with | [_, _], _ => rfl)
def m_Contract___eq__ : M Fl := (retM (asV (andV (op1 (isO "Contract") (pk 1)) (andV (eqOwnM "Kind" F_Kind___eq__ (op1 (fldD "Contract" "kind") (pk 0)) (op1 (fldD "Contract" "kind") (pk 1))) (op2 eqS (op1 (fldD "Contract" "_rules") (pk 0)) (op1 (fldD "Contract" "_rules") (pk 1)))))))
def F_Contract___eq__ (ds : List D) : Option Out := fnM 2 2 m_Contract___eq__ ds
structure Hd_Contract___eq__ (P : Program) (w : World) (K : PySem.W.Frag) (mg : Str → Option Value) (base : Heap) : Prop where
  m_Kind___eq__ : MethOk P w K mg base 1 "Kind" "__eq__" (spF K 2 F_Kind___eq__)

theorem sc_Contract___eq__ : FnScope ["self", "other"] ["self", "other"] (defScope (inClass (tp 23) 1)) := ⟨rfl, rfl, rfl, by decide +kernel, rfl, by decide +kernel, by decide +kernel⟩
theorem ok_Contract___eq__ (fr : Fr K mg) (hd : Hd_Contract___eq__ P w K mg base) (F : ∃ fd, FunD K "__eq__" "Contract.__eq__" (defArgs (inClass (tp 23) 1)) (defBody (inClass (tp 23) 1)) (defScope (inClass (tp 23) 1)) [] [] f fd) : ∃ fd, FnOk P w K mg base (L2.CX P w) 2 f fd ["self", "other"] (spF K 2 F_Contract___eq__) ∧ Binds K fd ["self", "other"] [] := by
  have sc := sc_Contract___eq__
  obtain ⟨fd, F⟩ := F
  exact ⟨fd, fn_F F sc rfl (by decide) (fun π cdv A outer s H E hr => by
    refine ts_one ?_
    exact ts_ret (trv_of_f (tr_and (tr_isO fr.i_Contract (trp_v 1) fr.ki_Contract fr.g_Contract rfl (by decide) fr.isinstance) (tr_and (tr_eqOwn hd.m_Kind___eq__ (hr.mono (by omega)) (tr_fld "Contract" fr.c_Contract fr.n_Contract_kind (trp_v 0)) (tr_fld "Contract" fr.c_Contract fr.n_Contract_kind (trp_v 1))) (tr_one (tr_eqS hr (tr_fld "Contract" fr.c_Contract fr.n_Contract__rules (trp_v 0)) (tr_fld "Contract" fr.c_Contract fr.n_Contract__rules (trp_v 1)))))))), F.bindsN (ps := ["self", "other"]) fun _ _ _ _ _ _ us hl => match us, hl with | [_, _], _ => rfl⟩
def m_Contract_methods : M Fl := (seqM (exprM (onM "Contract" "_check" 2 F_Contract__check (gv 0) (cnsM (gv 1) (cnsM (gv 2) (ret []))))) (retM (compM [3] (itM (frz (onM "Kind" "names" 0 F_Kind_names (op1 (fldD "Contract" "kind") (pk 0)) (ret [])))) (fun d => stS 3 d false) (tv (op2 inKD (tupM (cnsM (gv 2) (cnsM (gv 3) (ret [])))) (op2 ixD (op1 (fldD "Contract" "_rules") (pk 0)) (gv 1)))) (gv 3))))
def F_Contract_methods (ds : List D) : Option Out := fnM 4 3 m_Contract_methods ds
structure Hd_Contract_methods (P : Program) (w : World) (K : PySem.W.Frag) (mg : Str → Option Value) (base : Heap) : Prop where
  m_Contract__check : MethOk P w K mg base 4 "Contract" "_check" (spF K 3 F_Contract__check)
  m_Kind_names : MethOk P w K mg base 1 "Kind" "names" (spF K 1 F_Kind_names)

theorem sc_Contract_methods : FnScope ["self", "side", "mode", "name"] ["self", "side", "mode"] (defScope (inClass (tp 23) 2)) := ⟨rfl, rfl, rfl, by decide +kernel, rfl, by decide +kernel, by decide +kernel⟩
theorem ok_Contract_methods (fr : Fr K mg) (hd : Hd_Contract_methods P w K mg base) (F : ∃ fd, FunD K "methods" "Contract.methods" (defArgs (inClass (tp 23) 2)) (defBody (inClass (tp 23) 2)) (defScope (inClass (tp 23) 2)) [] [] f fd) : ∃ fd, FnOk P w K mg base (L2.CX P w) 5 f fd ["self", "side", "mode"] (spF K 3 F_Contract_methods) ∧ Binds K fd ["self", "side", "mode"] [] := by
  have sc := sc_Contract_methods
  obtain ⟨fd, F⟩ := F
  exact ⟨fd, fn_F F sc rfl (by decide) (fun π cdv A outer s H E hr => by
    refine ts_cons ?_ ?_
    · exact ts_expr (tv_on hd.m_Contract__check (hr.mono (by omega)) (tr_v 0) (ta_cons (tr_v 1) (ta_cons (tr_v 2) ta_nil)))
    refine ts_one ?_
    exact ts_ret (tv_lc (own := [("name", 3)]) rfl sc.nd (ti_seq (tr_frz (tv_on0 hd.m_Kind_names (hr.mono (by omega)) (tr_fld "Contract" fr.c_Contract fr.n_Contract_kind (trp_v 0))))) (blkOk_by (by kernel_rfl)) (by decide) (fun s0 H0 C cl fp => (tg_name 3 sc.nd)) (fun s0 H0 C cl fp => (tts_one (tt_inDic hr (tr_tup (ta_cons (tr_v 2) (ta_cons (tr_v 3) ta_nil))) (trp_of_f (tr_ix hr (tr_fld "Contract" fr.c_Contract fr.n_Contract__rules (trp_v 0)) (tr_v 1)))))) (fun s0 H0 C cl fp => (tr_v 3)))), F.bindsN (ps := ["self", "side", "mode"]) fun _ _ _ _ _ _ us hl => match us, hl with | [_, _, _], _ => rfl⟩
def m_Kind_arguments : M Fl := (retM (asV (op2 ixD (frz (onM "Kind" "_row" 1 F_Kind__row (gv 0) (cnsM (gv 1) (ret [])))) (ret (.int 0)))))
def F_Kind_arguments (ds : List D) : Option Out := fnM 2 2 m_Kind_arguments ds
structure Hd_Kind_arguments (P : Program) (w : World) (K : PySem.W.Frag) (mg : Str → Option Value) (base : Heap) : Prop where
  m_Kind__row : MethOk P w K mg base 3 "Kind" "_row" (spF K 2 F_Kind__row)

theorem sc_Kind_arguments : FnScope ["self", "method"] ["self", "method"] (defScope (inClass (tp 33) 4)) := ⟨rfl, rfl, rfl, by decide +kernel, rfl, by decide +kernel, by decide +kernel⟩
theorem ok_Kind_arguments (fr : Fr K mg) (hd : Hd_Kind_arguments P w K mg base) (F : ∃ fd, FunD K "arguments" "Kind.arguments" (defArgs (inClass (tp 33) 4)) (defBody (inClass (tp 33) 4)) (defScope (inClass (tp 33) 4)) [] [] f fd) : ∃ fd, FnOk P w K mg base (L2.CX P w) 4 f fd ["self", "method"] (spF K 2 F_Kind_arguments) ∧ Binds K fd ["self", "method"] [] := by
  have sc := sc_Kind_arguments
  obtain ⟨fd, F⟩ := F
  exact ⟨fd, fn_F F sc rfl (by decide) (fun π cdv A outer s H E hr => by
    refine ts_one ?_
    exact ts_ret (trv_of_f (tr_ix hr (tr_frz (tv_on hd.m_Kind__row (hr.mono (by omega)) (tr_v 0) (ta_cons (tr_v 1) ta_nil))) tr_int))), F.bindsN (ps := ["self", "method"]) fun _ _ _ _ _ _ us hl => match us, hl with | [_, _], _ => rfl⟩
def m_Kind_results : M Fl := (retM (asV (op2 ixD (frz (onM "Kind" "_row" 1 F_Kind__row (gv 0) (cnsM (gv 1) (ret [])))) (ret (.int 1)))))
def F_Kind_results (ds : List D) : Option Out := fnM 2 2 m_Kind_results ds
structure Hd_Kind_results (P : Program) (w : World) (K : PySem.W.Frag) (mg : Str → Option Value) (base : Heap) : Prop where
  m_Kind__row : MethOk P w K mg base 3 "Kind" "_row" (spF K 2 F_Kind__row)

theorem sc_Kind_results : FnScope ["self", "method"] ["self", "method"] (defScope (inClass (tp 33) 5)) := ⟨rfl, rfl, rfl, by decide +kernel, rfl, by decide +kernel, by decide +kernel⟩
theorem ok_Kind_results (fr : Fr K mg) (hd : Hd_Kind_results P w K mg base) (F : ∃ fd, FunD K "results" "Kind.results" (defArgs (inClass (tp 33) 5)) (defBody (inClass (tp 33) 5)) (defScope (inClass (tp 33) 5)) [] [] f fd) : ∃ fd, FnOk P w K mg base (L2.CX P w) 4 f fd ["self", "method"] (spF K 2 F_Kind_results) ∧ Binds K fd ["self", "method"] [] := by
  have sc := sc_Kind_results
  obtain ⟨fd, F⟩ := F
  exact ⟨fd, fn_F F sc rfl (by decide) (fun π cdv A outer s H E hr => by
    refine ts_one ?_
    exact ts_ret (trv_of_f (tr_ix hr (tr_frz (tv_on hd.m_Kind__row (hr.mono (by omega)) (tr_v 0) (ta_cons (tr_v 1) ta_nil))) tr_int))), F.bindsN (ps := ["self", "method"]) fun _ _ _ _ _ _ us hl => match us, hl with | [_, _], _ => rfl⟩
def m_Kind_answers : M Fl := (seqM (ifM (notM (tv (frz (callM 2 F_is_below (cnsM (gv 1) (cnsM (op1 (fldD "Kind" "states") (pk 0)) (ret []))))))) (raiseM "NoState" "state" (gv 1)) (ret .nx)) (seqM (asgM (frz (onM "Kind" "_row" 1 F_Kind__row (gv 0) (cnsM (gv 2) (ret [])))) (gtup 3 (gcons (fun d => stS 4 d false) (gcons (fun d => stS 5 d false) (gcons (fun d => stS 6 d false) gnil))))) (seqM (ifM (notM (tv (frz (callM 2 F_is_below (cnsM (gv 3) (cnsM (gv 4) (ret []))))))) (raiseM "NoArgument" "argument" (gv 3)) (ret .nx)) (retM (asV (op2 ixD (op2v ixD 6 (gv 1)) (gv 3)))))))
def F_Kind_answers (ds : List D) : Option Out := fnM 7 4 m_Kind_answers ds
structure Hd_Kind_answers (P : Program) (w : World) (K : PySem.W.Frag) (mg : Str → Option Value) (base : Heap) : Prop where
  is_below : DefOk P w K mg base 3 "is_below" (spF K 2 F_is_below)
  m_Kind__row : MethOk P w K mg base 3 "Kind" "_row" (spF K 2 F_Kind__row)
  x_NoArgument : ExcOk P w K mg base 1 "NoArgument" "argument"
  x_NoState : ExcOk P w K mg base 1 "NoState" "state"

theorem sc_Kind_answers : FnScope ["self", "state", "method", "argument", "arguments", "_", "rows"] ["self", "state", "method", "argument"] (defScope (inClass (tp 33) 6)) := ⟨rfl, rfl, rfl, by decide +kernel, rfl, by decide +kernel, by decide +kernel⟩
theorem ok_Kind_answers (fr : Fr K mg) (hd : Hd_Kind_answers P w K mg base) (F : ∃ fd, FunD K "answers" "Kind.answers" (defArgs (inClass (tp 33) 6)) (defBody (inClass (tp 33) 6)) (defScope (inClass (tp 33) 6)) [] [] f fd) : ∃ fd, FnOk P w K mg base (L2.CX P w) 4 f fd ["self", "state", "method", "argument"] (spF K 4 F_Kind_answers) ∧ Binds K fd ["self", "state", "method", "argument"] [] := by
  have sc := sc_Kind_answers
  obtain ⟨fd, F⟩ := F
  exact ⟨fd, fn_F F sc rfl (by decide) (fun π cdv A outer s H E hr => by
    refine ts_cons ?_ ?_
    · refine ts_if (tt_not (tt_val (tr_frz (tv_callD (hd.is_below) (hr.mono (by omega)) (ta_cons (tr_v 1) (ta_cons (tr_fld "Kind" fr.c_Kind fr.n_Kind_states (trp_v 0)) ta_nil)))))) ?_ ?_
      · refine ts_one ?_
        exact ts_raise hd.x_NoState rfl (hr.mono (by omega)) (tr_v 1)
      · exact ts_nil
    refine ts_cons ?_ ?_
    · exact ts_asg (tr_frz (tv_on hd.m_Kind__row (hr.mono (by omega)) (tr_v 0) (ta_cons (tr_v 2) ta_nil))) (tg_tup rfl (tgs_cons (tg_name 4 sc.nd) (tgs_cons (tg_name 5 sc.nd) (tgs_cons (tg_name 6 sc.nd) tgs_nil)))) (ge_tup (ge_cons ge_name (ge_cons ge_name (ge_cons ge_name ge_nil))))
    refine ts_cons ?_ ?_
    · refine ts_if (tt_not (tt_val (tr_frz (tv_callD (hd.is_below) (hr.mono (by omega)) (ta_cons (tr_v 3) (ta_cons (tr_v 4) ta_nil)))))) ?_ ?_
      · refine ts_one ?_
        exact ts_raise hd.x_NoArgument rfl (hr.mono (by omega)) (tr_v 3)
      · exact ts_nil
    refine ts_one ?_
    exact ts_ret (trv_of_f (tr_ix hr (tr_ixv 6 hr (tr_v 1)) (tr_v 3)))), F.bindsN (ps := ["self", "state", "method", "argument"]) fun _ _ _ _ _ _ us hl => match us, hl with | [_, _, _, _], _ => rfl⟩
def m__are_answers : M Fl := (seqM (ifM (notM (tv (frz (callM 3 F_is_row (cnsM (gv 2) (cnsM (ret (.int 0)) (cnsM (ret (.int 8)) (ret [])))))))) (retM (asV (ret (.bl false)))) (ret .nx)) (seqM (ifM (notM (tv (op1 allD (frz (compM [3] (itM (gv 2)) (fun d => stS 3 d false) (ret true) (frz (callM 3 F__is_answer (cnsM (gv 0) (cnsM (gv 1) (cnsM (gv 3) (ret []))))))))))) (retM (asV (ret (.bl false)))) (ret .nx)) (retM (asV (op2 eqD (lenSetM [3] (itM (gv 2)) (fun d => stS 3 d false) (op1 tupD (gv 3))) (op1 lenD (pk 2)))))))
def F__are_answers (ds : List D) : Option Out := fnM 4 3 m__are_answers ds
structure Hd__are_answers (P : Program) (w : World) (K : PySem.W.Frag) (mg : Str → Option Value) (base : Heap) : Prop where
  _is_answer : DefOk P w K mg base 4 "_is_answer" (spF K 3 F__is_answer)
  is_row : DefOk P w K mg base 1 "is_row" (spF K 3 F_is_row)

theorem sc__are_answers : FnScope ["states", "results", "answers", "answer"] ["states", "results", "answers"] (defScope (tp 37)) := ⟨rfl, rfl, rfl, by decide +kernel, rfl, by decide +kernel, by decide +kernel⟩
theorem ok__are_answers (fr : Fr K mg) (hd : Hd__are_answers P w K mg base) (F : ∃ fd, FunD K "_are_answers" "_are_answers" (defArgs (tp 37)) (defBody (tp 37)) (defScope (tp 37)) [] [] f fd) (hg : mg "_are_answers" = some (.ref f)) : DefOk P w K mg base 5 "_are_answers" (spF K 3 F__are_answers) :=
  have sc := sc__are_answers
  def_F F hg sc rfl (by decide) (fun π cdv A outer s H E hr => by
    refine ts_cons ?_ ?_
    · refine ts_if (tt_not (tt_val (tr_frz (tv_callD (hd.is_row) (hr.mono (by omega)) (ta_cons (tr_v 2) (ta_cons tr_int (ta_cons (tr_gx fr.c_MOST_ANSWERS) ta_nil))))))) ?_ ?_
      · refine ts_one ?_
        exact ts_ret (trv_of_f tr_bl)
      · exact ts_nil
    refine ts_cons ?_ ?_
    · refine ts_if (tt_not (tt_val (tr_all rfl (trp_of_f (tr_frz (tv_lc (own := [("answer", 3)]) rfl sc.nd (ti_seq (tr_v 2)) (blkOk_by (by kernel_rfl)) (by decide) (fun s0 H0 C cl fp => (tg_name 3 sc.nd)) (fun s0 H0 C cl fp => tts_nil) (fun s0 H0 C cl fp => (tr_frz (tv_callD (hd._is_answer) (hr.mono (by omega)) (ta_cons (tr_v 0) (ta_cons (tr_v 1) (ta_cons (tr_v 3) ta_nil))))))))) fr.all))) ?_ ?_
      · refine ts_one ?_
        exact ts_ret (trv_of_f tr_bl)
      · exact ts_nil
    refine ts_one ?_
    exact ts_ret (trv_of_f (tr_eq hr (tr_lenset (own := [("answer", 3)]) rfl hr sc.nd (ti_seq (tr_v 2)) (blkOk_by (by kernel_rfl)) (by decide) (fun s0 H0 C cl fp => (tg_name 3 sc.nd)) (fun s0 H0 C cl fp => (tr_tupc (tr_v 3) fr.tuple)) fr.len) (trp_of_f (tr_len (trp_v 2) fr.len))))) (fun fd F => F.bindsN fun _ _ _ _ _ _ us hl => match us, hl with | [_, _, _], _ => rfl)
def m__kept_method : M Fl := (seqM (asgM (gv 0) (gtup 3 (gcons (fun d => stS 2 d false) (gcons (fun d => stS 3 d false) (gcons (fun d => stS 4 d false) gnil))))) (seqM (setM 1 (compM [5] (itM (gv 4)) (fun d => stS 5 d false) (ret true) (op1 tupD (frz (compM [6] (itM (gv 5)) (fun d => stS 6 d false) (ret true) (frz (callM 1 F__kept_answers (cnsM (gv 6) (ret []))))))))) (retM (asV (tupM (cnsM (gv 2) (cnsM (gv 3) (cnsM (op1 tupD (gv 1)) (ret [])))))))))
def F__kept_method (ds : List D) : Option Out := fnM 7 1 m__kept_method ds
structure Hd__kept_method (P : Program) (w : World) (K : PySem.W.Frag) (mg : Str → Option Value) (base : Heap) : Prop where
  _kept_answers : DefOk P w K mg base 1 "_kept_answers" (spF K 1 F__kept_answers)

theorem sc__kept_method : FnScope ["row", "kept", "arguments", "results", "rows", "state_row", "answers"] ["row"] (defScope (tp 39)) := ⟨rfl, rfl, rfl, by decide +kernel, rfl, by decide +kernel, by decide +kernel⟩
theorem ok__kept_method (fr : Fr K mg) (hd : Hd__kept_method P w K mg base) (F : ∃ fd, FunD K "_kept_method" "_kept_method" (defArgs (tp 39)) (defBody (tp 39)) (defScope (tp 39)) [] [] f fd) (hg : mg "_kept_method" = some (.ref f)) : DefOk P w K mg base 2 "_kept_method" (spF K 1 F__kept_method) :=
  have sc := sc__kept_method
  def_F F hg sc rfl (by decide) (fun π cdv A outer s H E hr => by
    refine ts_cons ?_ ?_
    · exact ts_asg (tr_v 0) (tg_tup rfl (tgs_cons (tg_name 2 sc.nd) (tgs_cons (tg_name 3 sc.nd) (tgs_cons (tg_name 4 sc.nd) tgs_nil)))) (ge_tup (ge_cons ge_name (ge_cons ge_name (ge_cons ge_name ge_nil))))
    refine ts_cons ?_ ?_
    · exact ts_setlc 1 (own := [("state_row", 5)]) rfl sc.nd (ti_seq (tr_v 4)) (blkOk_by (by kernel_rfl)) (by decide) (fun s0 H0 C cl fp => (tg_name 5 sc.nd)) (fun s0 H0 C cl fp => tts_nil) (fun s0 H0 C cl fp => (tr_tupc (tr_frz (tv_lc (own := [("answers", 6)]) rfl sc.nd (ti_seq (tr_v 5)) (blkOk_by (by kernel_rfl)) (by decide) (fun s0 H0 C cl fp => (tg_name 6 sc.nd)) (fun s0 H0 C cl fp => tts_nil) (fun s0 H0 C cl fp => (tr_frz (tv_callD (hd._kept_answers) (hr.mono (by omega)) (ta_cons (tr_v 6) ta_nil)))))) fr.tuple))
    refine ts_one ?_
    exact ts_ret (trv_of_f (tr_tup (ta_cons (tr_v 2) (ta_cons (tr_v 3) (ta_cons (tr_tupc (tr_v 1) fr.tuple) ta_nil)))))) (fun fd F => F.bindsN fun _ _ _ _ _ _ us hl => match us, hl with | [_], _ => rfl)
def m__is_rule : M Fl := (seqM (ifM (orM (notM (tv (op1 (isI "tuple") (pk 1)))) (tv (op2 neD (op1 lenD (pk 1)) (ret (.int 2))))) (retM (asV (ret (.bl false)))) (ret .nx)) (seqM (ifM (orM (notM (tv (frz (callM 2 F_is_below (cnsM (op2v ixD 1 (ret (.int 0))) (cnsM (ret (.int 16)) (ret []))))))) (tv (inOwnM "Kind" not F_Kind___contains__ (op2v ixD 1 (ret (.int 1))) (gv 0)))) (retM (asV (ret (.bl false)))) (ret .nx)) (seqM (setM 3 (onM "Kind" "results" 1 F_Kind_results (gv 0) (cnsM (op2v ixD 1 (ret (.int 1))) (ret [])))) (retM (asV (andV (frz (callM 3 F_is_row (cnsM (gv 2) (cnsM (gv 3) (cnsM (gv 3) (ret [])))))) (op1 allD (frz (compM [4] (itM (gv 2)) (fun d => stS 4 d false) (ret true) (frz (callM 2 F_is_below (cnsM (gv 4) (cnsM (ret (.int 16)) (ret []))))))))))))))
def F__is_rule (ds : List D) : Option Out := fnM 5 3 m__is_rule ds
structure Hd__is_rule (P : Program) (w : World) (K : PySem.W.Frag) (mg : Str → Option Value) (base : Heap) : Prop where
  is_below : DefOk P w K mg base 3 "is_below" (spF K 2 F_is_below)
  is_row : DefOk P w K mg base 1 "is_row" (spF K 3 F_is_row)
  m_Kind___contains__ : MethOk P w K mg base 1 "Kind" "__contains__" (spF K 2 F_Kind___contains__)
  m_Kind_results : MethOk P w K mg base 4 "Kind" "results" (spF K 2 F_Kind_results)

theorem sc__is_rule : FnScope ["kind", "key", "modes", "results", "mode"] ["kind", "key", "modes"] (defScope (tp 26)) := ⟨rfl, rfl, rfl, by decide +kernel, rfl, by decide +kernel, by decide +kernel⟩
theorem ok__is_rule (fr : Fr K mg) (hd : Hd__is_rule P w K mg base) (F : ∃ fd, FunD K "_is_rule" "_is_rule" (defArgs (tp 26)) (defBody (tp 26)) (defScope (tp 26)) [] [] f fd) (hg : mg "_is_rule" = some (.ref f)) : DefOk P w K mg base 5 "_is_rule" (spF K 3 F__is_rule) :=
  have sc := sc__is_rule
  def_F F hg sc rfl (by decide) (fun π cdv A outer s H E hr => by
    refine ts_cons ?_ ?_
    · refine ts_if (tt_w (tw_or (tt_not (tt_val (tr_isi (c := "tuple") (n := "tuple") (trp_v 1) (by decide) (by decide +kernel) fr.tuple fr.isinstance rfl (by decide) (by decide)))) (tw_or1 (tt_ne hr (tr_len (trp_v 1) fr.len) (trp_of_f tr_int))))) ?_ ?_
      · refine ts_one ?_
        exact ts_ret (trv_of_f tr_bl)
      · exact ts_nil
    refine ts_cons ?_ ?_
    · refine ts_if (tt_w (tw_or (tt_not (tt_val (tr_frz (tv_callD (hd.is_below) (hr.mono (by omega)) (ta_cons (tr_ixv 1 hr tr_int) (ta_cons (tr_gx fr.c_MOST_MODES) ta_nil)))))) (tw_or1 (tt_notInOwn hd.m_Kind___contains__ (hr.mono (by omega)) (tr_ixv 1 hr tr_int) (tr_v 0))))) ?_ ?_
      · refine ts_one ?_
        exact ts_ret (trv_of_f tr_bl)
      · exact ts_nil
    refine ts_cons ?_ ?_
    · exact ts_set 3 (tv_on hd.m_Kind_results (hr.mono (by omega)) (tr_v 0) (ta_cons (tr_ixv 1 hr tr_int) ta_nil)) sc.nd
    refine ts_one ?_
    exact ts_ret (trv_of_f (tr_and (tr_frz (tv_callD (hd.is_row) (hr.mono (by omega)) (ta_cons (tr_v 2) (ta_cons (tr_v 3) (ta_cons (tr_v 3) ta_nil))))) (tr_one (tr_all rfl (trp_of_f (tr_frz (tv_lc (own := [("mode", 4)]) rfl sc.nd (ti_seq (tr_v 2)) (blkOk_by (by kernel_rfl)) (by decide) (fun s0 H0 C cl fp => (tg_name 4 sc.nd)) (fun s0 H0 C cl fp => tts_nil) (fun s0 H0 C cl fp => (tr_frz (tv_callD (hd.is_below) (hr.mono (by omega)) (ta_cons (tr_v 4) (ta_cons (tr_gx fr.c_MOST_MODES) ta_nil)))))))) fr.all))))) (fun fd F => F.bindsN fun _ _ _ _ _ _ us hl => match us, hl with | [_, _, _], _ => rfl)
def m__is_state_row : M Fl := (seqM (ifM (notM (tv (frz (callM 3 F_is_row (cnsM (gv 3) (cnsM (gv 1) (cnsM (gv 1) (ret [])))))))) (retM (asV (ret (.bl false)))) (ret .nx)) (retM (asV (op1 allD (frz (compM [4] (itM (gv 3)) (fun d => stS 4 d false) (ret true) (frz (callM 3 F__are_answers (cnsM (gv 0) (cnsM (gv 2) (cnsM (gv 4) (ret []))))))))))))
def F__is_state_row (ds : List D) : Option Out := fnM 5 4 m__is_state_row ds
structure Hd__is_state_row (P : Program) (w : World) (K : PySem.W.Frag) (mg : Str → Option Value) (base : Heap) : Prop where
  _are_answers : DefOk P w K mg base 5 "_are_answers" (spF K 3 F__are_answers)
  is_row : DefOk P w K mg base 1 "is_row" (spF K 3 F_is_row)

theorem sc__is_state_row : FnScope ["states", "arguments", "results", "row", "answers"] ["states", "arguments", "results", "row"] (defScope (tp 36)) := ⟨rfl, rfl, rfl, by decide +kernel, rfl, by decide +kernel, by decide +kernel⟩
theorem ok__is_state_row (fr : Fr K mg) (hd : Hd__is_state_row P w K mg base) (F : ∃ fd, FunD K "_is_state_row" "_is_state_row" (defArgs (tp 36)) (defBody (tp 36)) (defScope (tp 36)) [] [] f fd) (hg : mg "_is_state_row" = some (.ref f)) : DefOk P w K mg base 6 "_is_state_row" (spF K 4 F__is_state_row) :=
  have sc := sc__is_state_row
  def_F F hg sc rfl (by decide) (fun π cdv A outer s H E hr => by
    refine ts_cons ?_ ?_
    · refine ts_if (tt_not (tt_val (tr_frz (tv_callD (hd.is_row) (hr.mono (by omega)) (ta_cons (tr_v 3) (ta_cons (tr_v 1) (ta_cons (tr_v 1) ta_nil))))))) ?_ ?_
      · refine ts_one ?_
        exact ts_ret (trv_of_f tr_bl)
      · exact ts_nil
    refine ts_one ?_
    exact ts_ret (trv_of_f (tr_all rfl (trp_of_f (tr_frz (tv_lc (own := [("answers", 4)]) rfl sc.nd (ti_seq (tr_v 3)) (blkOk_by (by kernel_rfl)) (by decide) (fun s0 H0 C cl fp => (tg_name 4 sc.nd)) (fun s0 H0 C cl fp => tts_nil) (fun s0 H0 C cl fp => (tr_frz (tv_callD (hd._are_answers) (hr.mono (by omega)) (ta_cons (tr_v 0) (ta_cons (tr_v 2) (ta_cons (tr_v 4) ta_nil))))))))) fr.all))) (fun fd F => F.bindsN fun _ _ _ _ _ _ us hl => match us, hl with | [_, _, _, _], _ => rfl)
def m_Contract___init__ : M Fl := (seqM (ifM (orM (notM (tv (frz (callM 3 F_is_row (cnsM (gv 2) (cnsM (ret (.int 1)) (cnsM (ret (.int 3)) (ret [])))))))) (notM (tv (op1 allD (frz (compM [4] (itM (gv 2)) (fun d => stS 4 d false) (ret true) (op1 (isI "dict") (pk 4)))))))) (raiseM "BadContract" "side" (op1 negI (ret (.int 1)))) (ret .nx)) (seqM (bd (enumM (gv 2)) (forM (gtup 2 (gcons (fun d => stS 3 d false) (gcons (fun d => stS 4 d false) gnil))) (ifM (notM (tv (op1 allD (frz (compM [5, 6] (itemsM (gv 4)) (gtup 2 (gcons (fun d => stS 5 d false) (gcons (fun d => stS 6 d false) gnil))) (ret true) (frz (callM 3 F__is_rule (cnsM (gv 1) (cnsM (gv 5) (cnsM (gv 6) (ret []))))))))))) (raiseM "BadContract" "side" (gv 3)) (ret .nx)))) (seqM (setFM "Contract" "kind" 0 (gv 1)) (seqM (setFM "Contract" "sides" 0 (op1 lenD (pk 2))) (setFM "Contract" "_rules" 0 (frz (compM [4] (itM (gv 2)) (fun d => stS 4 d false) (ret true) (frz (dcM [5] (itM (gv 4)) (fun d => stS 5 d false) (ret true) (gv 5) (op1 tupD (op2v ixD 4 (gv 5))))))))))))
def F_Contract___init__ (d : D) (ds : List D) : Option (D × Out) := fnP 7 2 m_Contract___init__ d ds
structure Hd_Contract___init__ (P : Program) (w : World) (K : PySem.W.Frag) (mg : Str → Option Value) (base : Heap) : Prop where
  _is_rule : DefOk P w K mg base 5 "_is_rule" (spF K 3 F__is_rule)
  is_row : DefOk P w K mg base 1 "is_row" (spF K 3 F_is_row)
  x_BadContract : ExcOk P w K mg base 1 "BadContract" "side"

theorem sc_Contract___init__ : FnScope ["self", "kind", "rules", "side", "rows", "key", "modes"] ["self", "kind", "rules"] (defScope (inClass (tp 23) 0)) := ⟨rfl, rfl, rfl, by decide +kernel, rfl, by decide +kernel, by decide +kernel⟩
theorem ok_Contract___init__ (fr : Fr K mg) (hd : Hd_Contract___init__ P w K mg base) (F : ∃ fd, FunD K "__init__" "Contract.__init__" (defArgs (inClass (tp 23) 0)) (defBody (inClass (tp 23) 0)) (defScope (inClass (tp 23) 0)) [] [] f fd) (hg : mg "Contract" = some (.ref (He.ga K "Contract"))) (mk : Mk K (He.ga K "Contract") f) : ClsOk P w K mg base 6 "Contract" (spP K 2 F_Contract___init__) := by
  have sc := sc_Contract___init__
  obtain ⟨fd, F⟩ := F
  exact ⟨f, fd, ["self", "kind", "rules"], fn_P F sc rfl (by decide) (fun π cdv A outer s H E hr => by
    refine ts_cons ?_ ?_
    · refine ts_if (tt_w (tw_or (tt_not (tt_val (tr_frz (tv_callD (hd.is_row) (hr.mono (by omega)) (ta_cons (tr_v 2) (ta_cons tr_int (ta_cons (tr_gx fr.c_MOST_SIDES) ta_nil))))))) (tw_or1 (tt_not (tt_val (tr_all rfl (trp_of_f (tr_frz (tv_lc (own := [("rows", 4)]) rfl sc.nd (ti_seq (tr_v 2)) (blkOk_by (by kernel_rfl)) (by decide) (fun s0 H0 C cl fp => (tg_name 4 sc.nd)) (fun s0 H0 C cl fp => tts_nil) (fun s0 H0 C cl fp => (tr_isi (c := "dict") (n := "dict") (trp_v 4) (by decide) (by decide +kernel) fr.dict fr.isinstance rfl (by decide) (by decide)))))) fr.all)))))) ?_ ?_
      · refine ts_one ?_
        exact ts_raise hd.x_BadContract rfl (hr.mono (by omega)) (tr_neg tr_int)
      · exact ts_nil
    refine ts_cons ?_ ?_
    · refine ts_for (passes_of rfl) rfl (ti_enum (tr_v 2) fr.enumerate) (tg_tup rfl (tgs_cons (tg_name 3 sc.nd) (tgs_cons (tg_name 4 sc.nd) tgs_nil))) ?_
      refine ts_one ?_
      refine ts_if (tt_not (tt_val (tr_all rfl (trp_of_f (tr_frz (tv_lc (own := [("key", 5), ("modes", 6)]) rfl sc.nd (ti_items (tr_v 4)) (blkOk_by (by kernel_rfl)) (by decide) (fun s0 H0 C cl fp => (tg_tup rfl (tgs_cons (tg_name 5 sc.nd) (tgs_cons (tg_name 6 sc.nd) tgs_nil)))) (fun s0 H0 C cl fp => tts_nil) (fun s0 H0 C cl fp => (tr_frz (tv_callD (hd._is_rule) (hr.mono (by omega)) (ta_cons (tr_v 1) (ta_cons (tr_v 5) (ta_cons (tr_v 6) ta_nil))))))))) fr.all))) ?_ ?_
      · refine ts_one ?_
        exact ts_raise hd.x_BadContract rfl (hr.mono (by omega)) (tr_v 3)
      · exact ts_nil
    refine ts_cons ?_ ?_
    · exact ts_fld "Contract" 0 fr.c_Contract fr.n_Contract_kind (tr_v 1)
    refine ts_cons ?_ ?_
    · exact ts_fld "Contract" 0 fr.c_Contract fr.n_Contract_sides (tr_len (trp_v 2) fr.len)
    refine ts_one ?_
    exact ts_fld "Contract" 0 fr.c_Contract fr.n_Contract__rules (tr_frz (tv_lc (own := [("rows", 4)]) rfl sc.nd (ti_seq (tr_v 2)) (blkOk_by (by kernel_rfl)) (by decide) (fun s0 H0 C cl fp => (tg_name 4 sc.nd)) (fun s0 H0 C cl fp => tts_nil) (fun s0 H0 C cl fp => (tr_frz (tv_dc (own := [("key", 5)]) hr rfl sc.nd (ti_seq (tr_v 4)) (blkOk_by (by kernel_rfl)) (by decide) (fun s0 H0 C cl fp => (tg_name 5 sc.nd)) (fun s0 H0 C cl fp => tts_nil) (fun s0 H0 C cl fp => (tr_v 5)) (fun s0 H0 C cl fp => (tr_tupc (tr_ixv 4 hr (tr_v 5)) fr.tuple)))))))), hg, mk, F.bindsN (ps := ["self", "kind", "rules"]) fun _ _ _ _ _ _ us hl => match us, hl with | [_, _, _], _ => rfl⟩
def m_only : M Fl := (seqM (ifM (orM (notM (tv (frz (callM 3 F_is_row (cnsM (gv 1) (cnsM (ret (.int 1)) (cnsM (ret (.int 3)) (ret [])))))))) (notM (tv (op1 allD (frz (compM [3] (itM (gv 1)) (fun d => stS 3 d false) (ret true) (op1 (isI2 "list" "tuple") (pk 3)))))))) (raiseM "BadContract" "side" (op1 negI (ret (.int 1)))) (ret .nx)) (seqM (bd (enumM (gv 1)) (forM (gtup 2 (gcons (fun d => stS 2 d false) (gcons (fun d => stS 3 d false) gnil))) (ifM (notM (tv (op1 allD (frz (compM [4] (itM (gv 3)) (fun d => stS 4 d false) (ret true) (inOwnM "Kind" id F_Kind___contains__ (gv 4) (gv 0))))))) (raiseM "BadContract" "side" (gv 2)) (ret .nx)))) (retM (makeM "Contract" 2 F_Contract___init__ (cnsM (gv 0) (cnsM (frz (compM [3] (itM (gv 1)) (fun d => stS 3 d false) (ret true) (frz (dcM [4] (itM (gv 3)) (fun d => stS 4 d false) (ret true) (tupM (cnsM (ret (.int 0)) (cnsM (gv 4) (ret [])))) (op2 timD (tupM (cnsM (ret (.int 0)) (ret []))) (frz (onM "Kind" "results" 1 F_Kind_results (gv 0) (cnsM (gv 4) (ret []))))))))) (ret [])))))))
def F_only (ds : List D) : Option Out := fnM 5 2 m_only ds
structure Hd_only (P : Program) (w : World) (K : PySem.W.Frag) (mg : Str → Option Value) (base : Heap) : Prop where
  is_row : DefOk P w K mg base 1 "is_row" (spF K 3 F_is_row)
  k_Contract : ClsOk P w K mg base 6 "Contract" (spP K 2 F_Contract___init__)
  m_Kind___contains__ : MethOk P w K mg base 1 "Kind" "__contains__" (spF K 2 F_Kind___contains__)
  m_Kind_results : MethOk P w K mg base 4 "Kind" "results" (spF K 2 F_Kind_results)
  x_BadContract : ExcOk P w K mg base 1 "BadContract" "side"

theorem sc_only : FnScope ["kind", "rows", "side", "row", "method"] ["kind", "rows"] (defScope (tp 25)) := ⟨rfl, rfl, rfl, by decide +kernel, rfl, by decide +kernel, by decide +kernel⟩
theorem ok_only (fr : Fr K mg) (hd : Hd_only P w K mg base) (F : ∃ fd, FunD K "only" "only" (defArgs (tp 25)) (defBody (tp 25)) (defScope (tp 25)) [] [] f fd) (hg : mg "only" = some (.ref f)) : DefOk P w K mg base 8 "only" (spF K 2 F_only) :=
  have sc := sc_only
  def_F F hg sc rfl (by decide) (fun π cdv A outer s H E hr => by
    refine ts_cons ?_ ?_
    · refine ts_if (tt_w (tw_or (tt_not (tt_val (tr_frz (tv_callD (hd.is_row) (hr.mono (by omega)) (ta_cons (tr_v 1) (ta_cons tr_int (ta_cons (tr_gx fr.c_MOST_SIDES) ta_nil))))))) (tw_or1 (tt_not (tt_val (tr_all rfl (trp_of_f (tr_frz (tv_lc (own := [("row", 3)]) rfl sc.nd (ti_seq (tr_v 1)) (blkOk_by (by kernel_rfl)) (by decide) (fun s0 H0 C cl fp => (tg_name 3 sc.nd)) (fun s0 H0 C cl fp => tts_nil) (fun s0 H0 C cl fp => (tr_isi2 (c := "list") (c' := "tuple") (n := "list") (n' := "tuple") (trp_v 3) (by decide) (by decide) (by decide +kernel) (by decide +kernel) fr.list fr.tuple fr.isinstance rfl (by decide) (by decide) rfl (by decide) (by decide)))))) fr.all)))))) ?_ ?_
      · refine ts_one ?_
        exact ts_raise hd.x_BadContract rfl (hr.mono (by omega)) (tr_neg tr_int)
      · exact ts_nil
    refine ts_cons ?_ ?_
    · refine ts_for (passes_of rfl) rfl (ti_enum (tr_v 1) fr.enumerate) (tg_tup rfl (tgs_cons (tg_name 2 sc.nd) (tgs_cons (tg_name 3 sc.nd) tgs_nil))) ?_
      refine ts_one ?_
      refine ts_if (tt_not (tt_val (tr_all rfl (trp_of_f (tr_frz (tv_lc (own := [("method", 4)]) rfl sc.nd (ti_seq (tr_v 3)) (blkOk_by (by kernel_rfl)) (by decide) (fun s0 H0 C cl fp => (tg_name 4 sc.nd)) (fun s0 H0 C cl fp => tts_nil) (fun s0 H0 C cl fp => (tr_inOwn hd.m_Kind___contains__ (hr.mono (by omega)) (tr_v 4) (tr_v 0)))))) fr.all))) ?_ ?_
      · refine ts_one ?_
        exact ts_raise hd.x_BadContract rfl (hr.mono (by omega)) (tr_v 2)
      · exact ts_nil
    refine ts_one ?_
    exact ts_ret (tv_make hd.k_Contract (hr.mono (by omega)) (ta_cons (tr_v 0) (ta_cons (tr_frz (tv_lc (own := [("row", 3)]) rfl sc.nd (ti_seq (tr_v 1)) (blkOk_by (by kernel_rfl)) (by decide) (fun s0 H0 C cl fp => (tg_name 3 sc.nd)) (fun s0 H0 C cl fp => tts_nil) (fun s0 H0 C cl fp => (tr_frz (tv_dc (own := [("method", 4)]) hr rfl sc.nd (ti_seq (tr_v 3)) (blkOk_by (by kernel_rfl)) (by decide) (fun s0 H0 C cl fp => (tg_name 4 sc.nd)) (fun s0 H0 C cl fp => tts_nil) (fun s0 H0 C cl fp => (tr_tup (ta_cons tr_int (ta_cons (tr_v 4) ta_nil)))) (fun s0 H0 C cl fp => (tr_tim (tr_tup (ta_cons tr_int ta_nil)) (tr_frz (tv_on hd.m_Kind_results (hr.mono (by omega)) (tr_v 0) (ta_cons (tr_v 4) ta_nil)))))))))) ta_nil)))) (fun fd F => F.bindsN fun _ _ _ _ _ _ us hl => match us, hl with | [_, _], _ => rfl)
def m__is_method : M Fl := (seqM (ifM (notM (tv (frz (callM 3 F_is_row (cnsM (gv 1) (cnsM (ret (.int 3)) (cnsM (ret (.int 3)) (ret [])))))))) (retM (asV (ret (.bl false)))) (ret .nx)) (seqM (asgM (gv 1) (gtup 3 (gcons (fun d => stS 2 d false) (gcons (fun d => stS 3 d false) (gcons (fun d => stS 4 d false) gnil))))) (seqM (ifM (orM (notM (tv (frz (callM 3 F_is_between (cnsM (gv 2) (cnsM (ret (.int 1)) (cnsM (ret (.int 4)) (ret [])))))))) (notM (tv (frz (callM 3 F_is_between (cnsM (gv 3) (cnsM (ret (.int 1)) (cnsM (ret (.int 4)) (ret []))))))))) (retM (asV (ret (.bl false)))) (ret .nx)) (seqM (ifM (notM (tv (frz (callM 3 F_is_row (cnsM (gv 4) (cnsM (gv 0) (cnsM (gv 0) (ret [])))))))) (retM (asV (ret (.bl false)))) (ret .nx)) (retM (asV (op1 allD (frz (compM [5] (itM (gv 4)) (fun d => stS 5 d false) (ret true) (frz (callM 4 F__is_state_row (cnsM (gv 0) (cnsM (gv 2) (cnsM (gv 3) (cnsM (gv 5) (ret []))))))))))))))))
def F__is_method (ds : List D) : Option Out := fnM 6 2 m__is_method ds
structure Hd__is_method (P : Program) (w : World) (K : PySem.W.Frag) (mg : Str → Option Value) (base : Heap) : Prop where
  _is_state_row : DefOk P w K mg base 6 "_is_state_row" (spF K 4 F__is_state_row)
  is_between : DefOk P w K mg base 2 "is_between" (spF K 3 F_is_between)
  is_row : DefOk P w K mg base 1 "is_row" (spF K 3 F_is_row)

theorem sc__is_method : FnScope ["states", "row", "arguments", "results", "rows", "state_row"] ["states", "row"] (defScope (tp 35)) := ⟨rfl, rfl, rfl, by decide +kernel, rfl, by decide +kernel, by decide +kernel⟩
theorem ok__is_method (fr : Fr K mg) (hd : Hd__is_method P w K mg base) (F : ∃ fd, FunD K "_is_method" "_is_method" (defArgs (tp 35)) (defBody (tp 35)) (defScope (tp 35)) [] [] f fd) (hg : mg "_is_method" = some (.ref f)) : DefOk P w K mg base 7 "_is_method" (spF K 2 F__is_method) :=
  have sc := sc__is_method
  def_F F hg sc rfl (by decide) (fun π cdv A outer s H E hr => by
    refine ts_cons ?_ ?_
    · refine ts_if (tt_not (tt_val (tr_frz (tv_callD (hd.is_row) (hr.mono (by omega)) (ta_cons (tr_v 1) (ta_cons tr_int (ta_cons tr_int ta_nil))))))) ?_ ?_
      · refine ts_one ?_
        exact ts_ret (trv_of_f tr_bl)
      · exact ts_nil
    refine ts_cons ?_ ?_
    · exact ts_asg (tr_v 1) (tg_tup rfl (tgs_cons (tg_name 2 sc.nd) (tgs_cons (tg_name 3 sc.nd) (tgs_cons (tg_name 4 sc.nd) tgs_nil)))) (ge_tup (ge_cons ge_name (ge_cons ge_name (ge_cons ge_name ge_nil))))
    refine ts_cons ?_ ?_
    · refine ts_if (tt_w (tw_or (tt_not (tt_val (tr_frz (tv_callD (hd.is_between) (hr.mono (by omega)) (ta_cons (tr_v 2) (ta_cons tr_int (ta_cons (tr_gx fr.c_MOST_ARGUMENTS) ta_nil))))))) (tw_or1 (tt_not (tt_val (tr_frz (tv_callD (hd.is_between) (hr.mono (by omega)) (ta_cons (tr_v 3) (ta_cons tr_int (ta_cons (tr_gx fr.c_MOST_RESULTS) ta_nil)))))))))) ?_ ?_
      · refine ts_one ?_
        exact ts_ret (trv_of_f tr_bl)
      · exact ts_nil
    refine ts_cons ?_ ?_
    · refine ts_if (tt_not (tt_val (tr_frz (tv_callD (hd.is_row) (hr.mono (by omega)) (ta_cons (tr_v 4) (ta_cons (tr_v 0) (ta_cons (tr_v 0) ta_nil))))))) ?_ ?_
      · refine ts_one ?_
        exact ts_ret (trv_of_f tr_bl)
      · exact ts_nil
    refine ts_one ?_
    exact ts_ret (trv_of_f (tr_all rfl (trp_of_f (tr_frz (tv_lc (own := [("state_row", 5)]) rfl sc.nd (ti_seq (tr_v 4)) (blkOk_by (by kernel_rfl)) (by decide) (fun s0 H0 C cl fp => (tg_name 5 sc.nd)) (fun s0 H0 C cl fp => tts_nil) (fun s0 H0 C cl fp => (tr_frz (tv_callD (hd._is_state_row) (hr.mono (by omega)) (ta_cons (tr_v 0) (ta_cons (tr_v 2) (ta_cons (tr_v 3) (ta_cons (tr_v 5) ta_nil)))))))))) fr.all))) (fun fd F => F.bindsN fun _ _ _ _ _ _ us hl => match us, hl with | [_, _], _ => rfl)
def m__law_right : M Fl := (seqM (ifM (orM (tv (op2 neD (op2v ixD 1 (ret (.int 0))) (ret (.str ("made" : PySem.Str))))) (tv (op2 isNotD (eqOwnM "Contract" F_Contract___eq__ (op2v ixD 1 (ret (.int 1))) (frz (makeM "Contract" 2 F_Contract___init__ (cnsM (gv 0) (cnsM (gv 2) (ret [])))))) (ret (.bl true))))) (retM (asV (ret (.bl false)))) (ret .nx)) (seqM (bd (rng1 (op1 lenD (pk 2))) (forM (fun d => stS 3 d false) (seqM (setM 4 (op1n sortL (frz (compM [5] (itM (op2v ixD 2 (gv 3))) (fun d => stS 5 d false) (ret true) (op2v ixD 5 (ret (.int 1))))))) (ifM (orM (notM (tv (frz (callM 2 (F__law_same 9) (cnsM (frz (onM "Contract" "methods" 2 F_Contract_methods (op2v ixD 1 (ret (.int 1))) (cnsM (gv 3) (cnsM (ret (.int 0)) (ret []))))) (cnsM (gv 4) (ret []))))))) (notM (tv (frz (callM 2 (F__law_same 9) (cnsM (frz (onM "Contract" "methods" 2 F_Contract_methods (op2v ixD 1 (ret (.int 1))) (cnsM (gv 3) (cnsM (ret (.int 1)) (ret []))))) (cnsM (frz (lstM (ret []))) (ret [])))))))) (retM (asV (ret (.bl false)))) (ret .nx))))) (retM (asV (andV (op2 eqD (op1 (fldD "Contract" "sides") (op2v ixD 1 (ret (.int 1)))) (op1 lenD (pk 2))) (op2 isD (eqOwnM "Kind" F_Kind___eq__ (op1 (fldD "Contract" "kind") (op2v ixD 1 (ret (.int 1)))) (gv 0)) (ret (.bl true))))))))
def F__law_right (ds : List D) : Option Out := fnM 6 3 m__law_right ds
structure Hd__law_right (P : Program) (w : World) (K : PySem.W.Frag) (mg : Str → Option Value) (base : Heap) : Prop where
  _law_same : DefOk P w K mg base 9 "_law_same" (spF K 2 (F__law_same 9))
  k_Contract : ClsOk P w K mg base 6 "Contract" (spP K 2 F_Contract___init__)
  m_Contract___eq__ : MethOk P w K mg base 2 "Contract" "__eq__" (spF K 2 F_Contract___eq__)
  m_Contract_methods : MethOk P w K mg base 5 "Contract" "methods" (spF K 3 F_Contract_methods)
  m_Kind___eq__ : MethOk P w K mg base 1 "Kind" "__eq__" (spF K 2 F_Kind___eq__)

theorem sc__law_right : FnScope ["kind", "told", "rules", "side", "may", "key"] ["kind", "told", "rules"] (defScope (tp 53)) := ⟨rfl, rfl, rfl, by decide +kernel, rfl, by decide +kernel, by decide +kernel⟩
theorem ok__law_right (fr : Fr K mg) (hd : Hd__law_right P w K mg base) (F : ∃ fd, FunD K "_law_right" "_law_right" (defArgs (tp 53)) (defBody (tp 53)) (defScope (tp 53)) [] [] f fd) (hg : mg "_law_right" = some (.ref f)) : DefOk P w K mg base 10 "_law_right" (spF K 3 F__law_right) :=
  have sc := sc__law_right
  def_F F hg sc rfl (by decide) (fun π cdv A outer s H E hr => by
    refine ts_cons ?_ ?_
    · refine ts_if (tt_w (tw_or (tt_ne hr (tr_ixv 1 hr tr_int) (trp_of_f tr_str)) (tw_or1 (tt_isNB (tr_eqOwn hd.m_Contract___eq__ (hr.mono (by omega)) (tr_ixv 1 hr tr_int) (tr_frz (tv_make hd.k_Contract (hr.mono (by omega)) (ta_cons (tr_v 0) (ta_cons (tr_v 2) ta_nil))))) tr_bl)))) ?_ ?_
      · refine ts_one ?_
        exact ts_ret (trv_of_f tr_bl)
      · exact ts_nil
    refine ts_cons ?_ ?_
    · refine ts_for (passes_of rfl) rfl (ti_rng1 (tr_len (trp_v 2) fr.len) fr.range) (tg_name 3 sc.nd) ?_
      refine ts_cons ?_ ?_
      · exact ts_set 4 (tv_sorted (trp_of_f (tr_frz (tv_lc (own := [("key", 5)]) rfl sc.nd (ti_seq (tr_ixv 2 hr (tr_v 3))) (blkOk_by (by kernel_rfl)) (by decide) (fun s0 H0 C cl fp => (tg_name 5 sc.nd)) (fun s0 H0 C cl fp => tts_nil) (fun s0 H0 C cl fp => (tr_ixv 5 hr tr_int))))) fr.sorted) sc.nd
      refine ts_one ?_
      refine ts_if (tt_w (tw_or (tt_not (tt_val (tr_frz (tv_callD (hd._law_same) (hr.mono (by omega)) (ta_cons (tr_frz (tv_on hd.m_Contract_methods (hr.mono (by omega)) (tr_ixv 1 hr tr_int) (ta_cons (tr_v 3) (ta_cons tr_int ta_nil)))) (ta_cons (tr_v 4) ta_nil)))))) (tw_or1 (tt_not (tt_val (tr_frz (tv_callD (hd._law_same) (hr.mono (by omega)) (ta_cons (tr_frz (tv_on hd.m_Contract_methods (hr.mono (by omega)) (tr_ixv 1 hr tr_int) (ta_cons (tr_v 3) (ta_cons tr_int ta_nil)))) (ta_cons (tr_frz (tv_lst ta_nil)) ta_nil))))))))) ?_ ?_
      · refine ts_one ?_
        exact ts_ret (trv_of_f tr_bl)
      · exact ts_nil
    refine ts_one ?_
    exact ts_ret (trv_of_f (tr_and (tr_eq hr (tr_fld "Contract" fr.c_Contract fr.n_Contract_sides (trp_of_f (tr_ixv 1 hr tr_int))) (trp_of_f (tr_len (trp_v 2) fr.len))) (tr_one (tr_isB (tr_eqOwn hd.m_Kind___eq__ (hr.mono (by omega)) (tr_fld "Contract" fr.c_Contract fr.n_Contract_kind (trp_of_f (tr_ixv 1 hr tr_int))) (tr_v 0)) tr_bl))))) (fun fd F => F.bindsN fun _ _ _ _ _ _ us hl => match us, hl with | [_, _, _], _ => rfl)
def m_free : M Fl := (seqM (exprM (callM 1 F_check_sides (cnsM (gv 1) (ret [])))) (retM (callM 2 F_only (cnsM (gv 0) (cnsM (frz (repM (frz (lstM (cnsM (frz (onM "Kind" "names" 0 F_Kind_names (gv 0) (ret []))) (ret [])))) (gv 1))) (ret []))))))
def F_free (ds : List D) : Option Out := fnM 2 2 m_free ds
structure Hd_free (P : Program) (w : World) (K : PySem.W.Frag) (mg : Str → Option Value) (base : Heap) : Prop where
  check_sides : DefOk P w K mg base 3 "check_sides" (spF K 1 F_check_sides)
  m_Kind_names : MethOk P w K mg base 1 "Kind" "names" (spF K 1 F_Kind_names)
  only : DefOk P w K mg base 8 "only" (spF K 2 F_only)

theorem sc_free : FnScope ["kind", "sides"] ["kind", "sides"] (defScope (tp 24)) := ⟨rfl, rfl, rfl, by decide +kernel, rfl, by decide +kernel, by decide +kernel⟩
theorem ok_free (fr : Fr K mg) (hd : Hd_free P w K mg base) (F : ∃ fd, FunD K "free" "free" (defArgs (tp 24)) (defBody (tp 24)) (defScope (tp 24)) [] [] f fd) (hg : mg "free" = some (.ref f)) : DefOk P w K mg base 9 "free" (spF K 2 F_free) :=
  have sc := sc_free
  def_F F hg sc rfl (by decide) (fun π cdv A outer s H E hr => by
    refine ts_cons ?_ ?_
    · exact ts_expr (tv_callD (hd.check_sides) (hr.mono (by omega)) (ta_cons (tr_v 1) ta_nil))
    refine ts_one ?_
    exact ts_ret (tv_callD (hd.only) (hr.mono (by omega)) (ta_cons (tr_v 0) (ta_cons (tr_frz (tv_rep (tr_frz (tv_lst (ta_cons (tr_frz (tv_on0 hd.m_Kind_names (hr.mono (by omega)) (tr_v 0))) ta_nil))) (tr_v 1))) ta_nil)))) (fun fd F => F.bindsN fun _ _ _ _ _ _ us hl => match us, hl with | [_, _], _ => rfl)
def m__are_methods : M Fl := (seqM (ifM (orM (notM (tv (op1 (isI "dict") (pk 1)))) (notM (chT leD leD (ret (.int 1)) (op1 lenD (pk 1)) (ret (.int 4))))) (retM (asV (ret (.bl false)))) (ret .nx)) (retM (asV (op1 allD (frz (compM [2, 3] (itemsM (gv 1)) (gtup 2 (gcons (fun d => stS 2 d false) (gcons (fun d => stS 3 d false) gnil))) (ret true) (andV (frz (callM 1 F_is_name (cnsM (gv 2) (ret [])))) (frz (callM 2 F__is_method (cnsM (gv 0) (cnsM (gv 3) (ret []))))))))))))
def F__are_methods (ds : List D) : Option Out := fnM 4 2 m__are_methods ds
structure Hd__are_methods (P : Program) (w : World) (K : PySem.W.Frag) (mg : Str → Option Value) (base : Heap) : Prop where
  _is_method : DefOk P w K mg base 7 "_is_method" (spF K 2 F__is_method)
  is_name : DefOk P w K mg base 1 "is_name" (spF K 1 F_is_name)

theorem sc__are_methods : FnScope ["states", "methods", "name", "row"] ["states", "methods"] (defScope (tp 34)) := ⟨rfl, rfl, rfl, by decide +kernel, rfl, by decide +kernel, by decide +kernel⟩
theorem ok__are_methods (fr : Fr K mg) (hd : Hd__are_methods P w K mg base) (F : ∃ fd, FunD K "_are_methods" "_are_methods" (defArgs (tp 34)) (defBody (tp 34)) (defScope (tp 34)) [] [] f fd) (hg : mg "_are_methods" = some (.ref f)) : DefOk P w K mg base 8 "_are_methods" (spF K 2 F__are_methods) :=
  have sc := sc__are_methods
  def_F F hg sc rfl (by decide) (fun π cdv A outer s H E hr => by
    refine ts_cons ?_ ?_
    · refine ts_if (tt_w (tw_or (tt_not (tt_val (tr_isi (c := "dict") (n := "dict") (trp_v 1) (by decide) (by decide +kernel) fr.dict fr.isinstance rfl (by decide) (by decide)))) (tw_or1 (tt_not (tt_lele tr_int (tr_len (trp_v 1) fr.len) (tr_gx fr.c_MOST_METHODS)))))) ?_ ?_
      · refine ts_one ?_
        exact ts_ret (trv_of_f tr_bl)
      · exact ts_nil
    refine ts_one ?_
    exact ts_ret (trv_of_f (tr_all rfl (trp_of_f (tr_frz (tv_lc (own := [("name", 2), ("row", 3)]) rfl sc.nd (ti_items (tr_v 1)) (blkOk_by (by kernel_rfl)) (by decide) (fun s0 H0 C cl fp => (tg_tup rfl (tgs_cons (tg_name 2 sc.nd) (tgs_cons (tg_name 3 sc.nd) tgs_nil)))) (fun s0 H0 C cl fp => tts_nil) (fun s0 H0 C cl fp => (tr_and (tr_frz (tv_callD (hd.is_name) (hr.mono (by omega)) (ta_cons (tr_v 2) ta_nil))) (tr_one (tr_frz (tv_callD (hd._is_method) (hr.mono (by omega)) (ta_cons (tr_v 0) (ta_cons (tr_v 3) ta_nil)))))))))) fr.all))) (fun fd F => F.bindsN fun _ _ _ _ _ _ us hl => match us, hl with | [_, _], _ => rfl)
def m__law_asked : M Fl := (seqM (tryM exm (ifM (tv (op2 eqD (gv 1) (ret (.int 0)))) (setM 4 (lstM (cnsM (ret (.str ("made" : PySem.Str))) (cnsM (frz (callM 2 F_free (cnsM (gv 0) (cnsM (gv 2) (ret []))))) (ret []))))) (setM 4 (lstM (cnsM (ret (.str ("made" : PySem.Str))) (cnsM (frz (callM 2 F_only (cnsM (gv 0) (cnsM (gv 2) (ret []))))) (ret [])))))) (⟨"BadSides", none, (setM 4 (lstM (cnsM (ret (.str ("sides" : PySem.Str))) (cnsM (ret .non) (ret [])))))⟩ :: (⟨"BadContract", some 3, (setM 4 (lstM (cnsM (ret (.str ("contract" : PySem.Str))) (cnsM (xfM xok 3 "side") (ret [])))))⟩ :: (⟨"TowerError", none, (setM 4 (lstM (cnsM (ret (.str ("other" : PySem.Str))) (cnsM (ret .non) (ret [])))))⟩ :: [])))) (rtv 4))
def F__law_asked (ds : List D) : Option Out := fnM 5 3 m__law_asked ds
structure Hd__law_asked (P : Program) (w : World) (K : PySem.W.Frag) (mg : Str → Option Value) (base : Heap) : Prop where
  free : DefOk P w K mg base 9 "free" (spF K 2 F_free)
  only : DefOk P w K mg base 8 "only" (spF K 2 F_only)

theorem sc__law_asked : FnScope ["kind", "which", "thing", "e", "told"] ["kind", "which", "thing"] (defScope (tp 52)) := ⟨rfl, rfl, rfl, by decide +kernel, rfl, by decide +kernel, by decide +kernel⟩
theorem ok__law_asked (fr : Fr K mg) (hd : Hd__law_asked P w K mg base) (F : ∃ fd, FunD K "_law_asked" "_law_asked" (defArgs (tp 52)) (defBody (tp 52)) (defScope (tp 52)) [] [] f fd) (hg : mg "_law_asked" = some (.ref f)) : DefOk P w K mg base 10 "_law_asked" (spF K 3 F__law_asked) :=
  have sc := sc__law_asked
  def_F F hg sc rfl (by decide) (fun π cdv A outer s H E hr => by
    refine ts_cons ?_ ?_
    · refine ts_try sc.nd fr.exm (fun pn xe po => ?_) (ClT.bare rfl (by decide) fr.g_BadSides (fun a pn => by
        refine ts_one ?_
        exact ts_set 4 (tv_lst (ta_cons tr_str (ta_cons tr_non ta_nil))) sc.nd) (ClT.named (i := 3) rfl (by decide) fr.g_BadContract rfl rfl (fun a oe dd c pn hz hf => by
        refine ts_one ?_
        exact ts_set 4 (tv_lst (ta_cons tr_str (ta_cons (tr_xf 3 fr.xf hz hf) ta_nil))) sc.nd) (ClT.bare rfl (by decide) fr.g_TowerError (fun a pn => by
        refine ts_one ?_
        exact ts_set 4 (tv_lst (ta_cons tr_str (ta_cons tr_non ta_nil))) sc.nd) ClT.nil)))
      refine ts_one ?_
      refine ts_if (tt_eq hr (tr_v 1) (trp_of_f tr_int)) ?_ ?_
      · refine ts_one ?_
        exact ts_set 4 (tv_lst (ta_cons tr_str (ta_cons (tr_frz (tv_callD (hd.free) (hr.mono (by omega)) (ta_cons (tr_v 0) (ta_cons (tr_v 2) ta_nil)))) ta_nil))) sc.nd
      · refine ts_one ?_
        exact ts_set 4 (tv_lst (ta_cons tr_str (ta_cons (tr_frz (tv_callD (hd.only) (hr.mono (by omega)) (ta_cons (tr_v 0) (ta_cons (tr_v 2) ta_nil)))) ta_nil))) sc.nd
    refine ts_one ?_
    exact ts_rtv 4) (fun fd F => F.bindsN fun _ _ _ _ _ _ us hl => match us, hl with | [_, _, _], _ => rfl)
def m_Kind___init__ : M Fl := (seqM (ifM (notM (tv (frz (callM 3 F_is_between (cnsM (gv 1) (cnsM (ret (.int 1)) (cnsM (ret (.int 8)) (ret [])))))))) (raiseM "BadKind" "part" (ret (.str ("states" : PySem.Str)))) (ret .nx)) (seqM (ifM (notM (tv (frz (callM 2 F_is_below (cnsM (gv 2) (cnsM (gv 1) (ret []))))))) (raiseM "BadKind" "part" (ret (.str ("start" : PySem.Str)))) (ret .nx)) (seqM (ifM (notM (tv (frz (callM 2 F__are_methods (cnsM (gv 1) (cnsM (gv 3) (ret []))))))) (raiseM "BadKind" "part" (ret (.str ("methods" : PySem.Str)))) (ret .nx)) (seqM (setFM "Kind" "states" 0 (gv 1)) (seqM (setFM "Kind" "start" 0 (gv 2)) (setFM "Kind" "_table" 0 (frz (dcM [4, 5] (itemsM (gv 3)) (gtup 2 (gcons (fun d => stS 4 d false) (gcons (fun d => stS 5 d false) gnil))) (ret true) (gv 4) (frz (callM 1 F__kept_method (cnsM (gv 5) (ret []))))))))))))
def F_Kind___init__ (d : D) (ds : List D) : Option (D × Out) := fnP 6 3 m_Kind___init__ d ds
structure Hd_Kind___init__ (P : Program) (w : World) (K : PySem.W.Frag) (mg : Str → Option Value) (base : Heap) : Prop where
  _are_methods : DefOk P w K mg base 8 "_are_methods" (spF K 2 F__are_methods)
  _kept_method : DefOk P w K mg base 2 "_kept_method" (spF K 1 F__kept_method)
  is_below : DefOk P w K mg base 3 "is_below" (spF K 2 F_is_below)
  is_between : DefOk P w K mg base 2 "is_between" (spF K 3 F_is_between)
  x_BadKind : ExcOk P w K mg base 1 "BadKind" "part"

theorem sc_Kind___init__ : FnScope ["self", "states", "start", "methods", "name", "row"] ["self", "states", "start", "methods"] (defScope (inClass (tp 33) 0)) := ⟨rfl, rfl, rfl, by decide +kernel, rfl, by decide +kernel, by decide +kernel⟩
theorem ok_Kind___init__ (fr : Fr K mg) (hd : Hd_Kind___init__ P w K mg base) (F : ∃ fd, FunD K "__init__" "Kind.__init__" (defArgs (inClass (tp 33) 0)) (defBody (inClass (tp 33) 0)) (defScope (inClass (tp 33) 0)) [] [] f fd) (hg : mg "Kind" = some (.ref (He.ga K "Kind"))) (mk : Mk K (He.ga K "Kind") f) : ClsOk P w K mg base 9 "Kind" (spP K 3 F_Kind___init__) := by
  have sc := sc_Kind___init__
  obtain ⟨fd, F⟩ := F
  exact ⟨f, fd, ["self", "states", "start", "methods"], fn_P F sc rfl (by decide) (fun π cdv A outer s H E hr => by
    refine ts_cons ?_ ?_
    · refine ts_if (tt_not (tt_val (tr_frz (tv_callD (hd.is_between) (hr.mono (by omega)) (ta_cons (tr_v 1) (ta_cons tr_int (ta_cons (tr_gx fr.c_MOST_STATES) ta_nil))))))) ?_ ?_
      · refine ts_one ?_
        exact ts_raise hd.x_BadKind rfl (hr.mono (by omega)) tr_str
      · exact ts_nil
    refine ts_cons ?_ ?_
    · refine ts_if (tt_not (tt_val (tr_frz (tv_callD (hd.is_below) (hr.mono (by omega)) (ta_cons (tr_v 2) (ta_cons (tr_v 1) ta_nil)))))) ?_ ?_
      · refine ts_one ?_
        exact ts_raise hd.x_BadKind rfl (hr.mono (by omega)) tr_str
      · exact ts_nil
    refine ts_cons ?_ ?_
    · refine ts_if (tt_not (tt_val (tr_frz (tv_callD (hd._are_methods) (hr.mono (by omega)) (ta_cons (tr_v 1) (ta_cons (tr_v 3) ta_nil)))))) ?_ ?_
      · refine ts_one ?_
        exact ts_raise hd.x_BadKind rfl (hr.mono (by omega)) tr_str
      · exact ts_nil
    refine ts_cons ?_ ?_
    · exact ts_fld "Kind" 0 fr.c_Kind fr.n_Kind_states (tr_v 1)
    refine ts_cons ?_ ?_
    · exact ts_fld "Kind" 0 fr.c_Kind fr.n_Kind_start (tr_v 2)
    refine ts_one ?_
    exact ts_fld "Kind" 0 fr.c_Kind fr.n_Kind__table (tr_frz (tv_dc (own := [("name", 4), ("row", 5)]) hr rfl sc.nd (ti_items (tr_v 3)) (blkOk_by (by kernel_rfl)) (by decide) (fun s0 H0 C cl fp => (tg_tup rfl (tgs_cons (tg_name 4 sc.nd) (tgs_cons (tg_name 5 sc.nd) tgs_nil)))) (fun s0 H0 C cl fp => tts_nil) (fun s0 H0 C cl fp => (tr_v 4)) (fun s0 H0 C cl fp => (tr_frz (tv_callD (hd._kept_method) (hr.mono (by omega)) (ta_cons (tr_v 5) ta_nil))))))), hg, mk, F.bindsN (ps := ["self", "states", "start", "methods"]) fun _ _ _ _ _ _ us hl => match us, hl with | [_, _, _, _], _ => rfl⟩
def m__law_kind : M Fl := (retM (makeM "Kind" 3 F_Kind___init__ (cnsM (op2v ixD 0 (ret (.int 0))) (cnsM (op2v ixD 0 (ret (.int 1))) (cnsM (frz (callM 1 (F__law_copied 9) (cnsM (op2v ixD 0 (ret (.int 2))) (ret [])))) (ret []))))))
def F__law_kind (ds : List D) : Option Out := fnM 1 1 m__law_kind ds
structure Hd__law_kind (P : Program) (w : World) (K : PySem.W.Frag) (mg : Str → Option Value) (base : Heap) : Prop where
  _law_copied : DefOk P w K mg base 9 "_law_copied" (spF K 1 (F__law_copied 9))
  k_Kind : ClsOk P w K mg base 9 "Kind" (spP K 3 F_Kind___init__)

theorem sc__law_kind : FnScope ["model"] ["model"] (defScope (tp 49)) := ⟨rfl, rfl, rfl, by decide +kernel, rfl, by decide +kernel, by decide +kernel⟩
theorem ok__law_kind (fr : Fr K mg) (hd : Hd__law_kind P w K mg base) (F : ∃ fd, FunD K "_law_kind" "_law_kind" (defArgs (tp 49)) (defBody (tp 49)) (defScope (tp 49)) [] [] f fd) (hg : mg "_law_kind" = some (.ref f)) : DefOk P w K mg base 11 "_law_kind" (spF K 1 F__law_kind) :=
  have sc := sc__law_kind
  def_F F hg sc rfl (by decide) (fun π cdv A outer s H E hr => by
    refine ts_one ?_
    exact ts_ret (tv_make hd.k_Kind (hr.mono (by omega)) (ta_cons (tr_ixv 0 hr tr_int) (ta_cons (tr_ixv 0 hr tr_int) (ta_cons (tr_frz (tv_callD (hd._law_copied) (hr.mono (by omega)) (ta_cons (tr_ixv 0 hr tr_int) ta_nil))) ta_nil))))) (fun fd F => F.bindsN fun _ _ _ _ _ _ us hl => match us, hl with | [_], _ => rfl)
def m_law : M Fl := (seqM (setM 1 (callM 1 F__law_pool (cnsM (gv 0) (ret [])))) (seqM (setM 2 (callPM 1 2 F__law_model (cnsM (ret (.bl false)) (cnsM (ret (.int 4)) (ret []))))) (seqM (setM 3 (callM 1 F__law_kind (cnsM (gv 2) (ret [])))) (seqM (setM 4 (op1n sortL (frz (op1n listD (op2v ixD 2 (ret (.int 2))))))) (seqM (setM 5 (asV (op2 addD (ret (.int 1)) (frz (callPM 1 1 F__law_draw (cnsM (ret (.int 3)) (ret []))))))) (seqM (ifM (notM (tv (frz (callM 3 F__law_right (cnsM (gv 3) (cnsM (frz (callM 3 F__law_asked (cnsM (gv 3) (cnsM (ret (.int 0)) (cnsM (gv 5) (ret [])))))) (cnsM (frz (callM 2 F__law_due (cnsM (gv 2) (cnsM (frz (compM [7] (rng1 (gv 5)) (fun d => stS 7 d false) (ret true) (gv 4))) (ret []))))) (ret [])))))))) (retM (asV (ret (.bl false)))) (ret .nx)) (seqM (setM 6 (lstM (ret []))) (seqM (bd (rng1 (gv 5)) (forM (fun d => stS 7 d false) (seqM (setM 12 (compM [13] (rng1 (frz (callPM 1 1 F__law_draw (cnsM (ret (.int 6)) (ret []))))) (fun d => stS 13 d false) (ret true) (op2v ixD 4 (frz (callPM 1 1 F__law_draw (cnsM (op1 lenD (pk 4)) (ret []))))))) (exprM (tyM "list" 6 (ownM 6 appD (cnsM (frz (pickM (cnsV (asV (gv 12)) (cnsV (asV (op1 tupD (gv 12))) (ret []))) (frz (callPM 1 1 F__law_draw (cnsM (ret (.int 2)) (ret [])))))) (ret [])))))))) (seqM (setM 8 (callM 1 (F__law_copied 9) (cnsM (gv 6) (ret [])))) (seqM (ifM (orM (notM (tv (frz (callM 3 F__law_right (cnsM (gv 3) (cnsM (frz (callM 3 F__law_asked (cnsM (gv 3) (cnsM (ret (.int 1)) (cnsM (gv 8) (ret [])))))) (cnsM (frz (callM 2 F__law_due (cnsM (gv 2) (cnsM (gv 6) (ret []))))) (ret [])))))))) (notM (tv (frz (callM 2 (F__law_same 9) (cnsM (gv 8) (cnsM (gv 6) (ret [])))))))) (retM (asV (ret (.bl false)))) (ret .nx)) (seqM (ifM (notM (tv (frz (callM 3 F__law_right (cnsM (gv 3) (cnsM (frz (callM 3 F__law_asked (cnsM (gv 3) (cnsM (ret (.int 1)) (cnsM (op1 tupD (gv 8)) (ret [])))))) (cnsM (frz (callM 2 F__law_due (cnsM (gv 2) (cnsM (gv 6) (ret []))))) (ret [])))))))) (retM (asV (ret (.bl false)))) (ret .nx)) (seqM (setM 9 (pickM (cnsV (asV (ret (.int 0))) (cnsV (asV (ret (.int 4))) (cnsV (asV (op1 negI (ret (.int 1)))) (cnsV (asV (ret .non)) (cnsV (asV (ret (.bl true))) (cnsV (asV (ret (.str ("2" : PySem.Str)))) (cnsV (lstM (cnsM (ret (.int 1)) (ret []))) (cnsV (ret (.dic [] [], true)) (ret []))))))))) (frz (callPM 1 1 F__law_draw (cnsM (ret (.int 8)) (ret [])))))) (seqM (ifM (tv (op2 neD (frz (callM 3 F__law_asked (cnsM (gv 3) (cnsM (ret (.int 0)) (cnsM (gv 9) (ret [])))))) (frz (lstM (cnsM (ret (.str ("sides" : PySem.Str))) (cnsM (ret .non) (ret []))))))) (retM (asV (ret (.bl false)))) (ret .nx)) (seqM (setM 7 (callPM 1 1 F__law_draw (cnsM (gv 5) (ret [])))) (seqM (setM 10 (op1n listD (pk 6))) (seqM (setIxM 10 (frz (catM (frz (op1n listD (op2v ixD 6 (gv 7)))) (frz (lstM (cnsM (frz (pickM (cnsV (asV (ret (.str ("A" : PySem.Str)))) (cnsV (asV (ret (.str ("" : PySem.Str)))) (cnsV (asV (ret .non)) (cnsV (asV (ret (.int 0))) (cnsV (lstM (ret [])) (cnsV (ret (.dic [] [], true)) (cnsV (asV (tupM (cnsM (op2v ixD 4 (ret (.int 0))) (ret [])))) (ret [])))))))) (frz (callPM 1 1 F__law_draw (cnsM (ret (.int 7)) (ret [])))))) (ret [])))))) (gv 7)) (seqM (ifM (tv (op2 ltD (op2 addD (gv 7) (ret (.int 1))) (gv 5))) (setIxM 10 (frz (lstM (cnsM (ret .non) (ret [])))) (op2 subI (gv 5) (ret (.int 1)))) (ret .nx)) (seqM (ifM (tv (op2 neD (frz (callCM 3 F__law_asked [.inl 3, .inr 1, .inl 10])) (frz (lstM (cnsM (ret (.str ("contract" : PySem.Str))) (cnsM (gv 7) (ret []))))))) (retM (asV (ret (.bl false)))) (ret .nx)) (seqM (setIxM 10 (frz (pickM (cnsV (asV (ret .non)) (cnsV (asV (ret (.int 0))) (cnsV (ret (.dic [] [], true)) (cnsV (asV (ret (.str ("" : PySem.Str)))) (cnsV (asV (ret (.bl true))) (ret [])))))) (frz (callPM 1 1 F__law_draw (cnsM (ret (.int 5)) (ret [])))))) (frz (callPM 1 1 F__law_draw (cnsM (gv 5) (ret []))))) (seqM (setM 11 (pickM (cnsV (asV (ret .non)) (cnsV (lstM (ret [])) (cnsV (ret (.dic [] [], true)) (cnsV (catM (frz (catM (frz (catM (gv 6) (gv 6))) (gv 6))) (gv 6)) (cnsV (asV (ret (.str ("a" : PySem.Str)))) (cnsV (asV (ret (.int 0))) (cnsV (asV (gv 10)) (ret [])))))))) (frz (callPM 1 1 F__law_draw (cnsM (ret (.int 7)) (ret [])))))) (retM (asV (op2 eqD (frz (callM 3 F__law_asked (cnsM (gv 3) (cnsM (ret (.int 1)) (cnsM (gv 11) (ret [])))))) (frz (lstM (cnsM (ret (.str ("contract" : PySem.Str))) (cnsM (op1 negI (ret (.int 1))) (ret []))))))))))))))))))))))))))))
def F_law (ds : List D) : Option Out := fnM 14 1 m_law ds
structure Hd_law (P : Program) (w : World) (K : PySem.W.Frag) (mg : Str → Option Value) (base : Heap) : Prop where
  _law_asked : DefOk P w K mg base 10 "_law_asked" (spF K 3 F__law_asked)
  _law_copied : DefOk P w K mg base 9 "_law_copied" (spF K 1 (F__law_copied 9))
  _law_draw : DefOk P w K mg base 1 "_law_draw" (spP K 1 F__law_draw)
  _law_due : DefOk P w K mg base 1 "_law_due" (spF K 2 F__law_due)
  _law_kind : DefOk P w K mg base 11 "_law_kind" (spF K 1 F__law_kind)
  _law_model : DefOk P w K mg base 4 "_law_model" (spP K 2 F__law_model)
  _law_pool : DefOk P w K mg base 1 "_law_pool" (spF K 1 F__law_pool)
  _law_right : DefOk P w K mg base 10 "_law_right" (spF K 3 F__law_right)
  _law_same : DefOk P w K mg base 9 "_law_same" (spF K 2 (F__law_same 9))

theorem sc_law : FnScope ["script", "pool", "model", "kind", "names", "sides", "rows", "side", "passed", "odd", "worse", "thing", "row", "k"] ["script"] (defScope (tp 54)) := ⟨rfl, rfl, rfl, by decide +kernel, rfl, by decide +kernel, by decide +kernel⟩
theorem ok_law {fd : FuncData} (fr : Fr K mg) (hd : Hd_law P w K mg base) (F : FunD K "law" "law" (defArgs (tp 54)) (defBody (tp 54)) (defScope (tp 54)) [] [] f fd) : FnOk P w K mg base (L2.CX P w) 12 f fd ["script"] (spF K 1 F_law) :=
  have sc := sc_law
  fn_F F sc rfl (by decide) (fun π cdv A outer s H E hr => by
    refine ts_cons ?_ ?_
    · exact ts_set 1 (tv_callD (hd._law_pool) (hr.mono (by omega)) (ta_cons (tr_v 0) ta_nil)) sc.nd
    refine ts_cons ?_ ?_
    · exact ts_set 2 (tv_callPD 1 (hd._law_model) (hr.mono (by omega)) (ta_cons tr_bl (ta_cons tr_int ta_nil))) sc.nd
    refine ts_cons ?_ ?_
    · exact ts_set 3 (tv_callD (hd._law_kind) (hr.mono (by omega)) (ta_cons (tr_v 2) ta_nil)) sc.nd
    refine ts_cons ?_ ?_
    · exact ts_set 4 (tv_sorted (trp_of_f (tr_frz (tv_list rfl (trp_of_f (tr_ixv 2 hr tr_int)) fr.list))) fr.sorted) sc.nd
    refine ts_cons ?_ ?_
    · exact ts_set 5 (trv_of_f (tr_addA tr_int (tr_frz (tv_callPD 1 (hd._law_draw) (hr.mono (by omega)) (ta_cons tr_int ta_nil))))) sc.nd
    refine ts_cons ?_ ?_
    · refine ts_if (tt_not (tt_val (tr_frz (tv_callD (hd._law_right) (hr.mono (by omega)) (ta_cons (tr_v 3) (ta_cons (tr_frz (tv_callD (hd._law_asked) (hr.mono (by omega)) (ta_cons (tr_v 3) (ta_cons tr_int (ta_cons (tr_v 5) ta_nil))))) (ta_cons (tr_frz (tv_callD (hd._law_due) (hr.mono (by omega)) (ta_cons (tr_v 2) (ta_cons (tr_frz (tv_lc (own := [("side", 7)]) rfl sc.nd (ti_rng1 (tr_v 5) fr.range) (blkOk_by (by kernel_rfl)) (by decide) (fun s0 H0 C cl fp => (tg_name 7 sc.nd)) (fun s0 H0 C cl fp => tts_nil) (fun s0 H0 C cl fp => (tr_v 4)))) ta_nil)))) ta_nil))))))) ?_ ?_
      · refine ts_one ?_
        exact ts_ret (trv_of_f tr_bl)
      · exact ts_nil
    refine ts_cons ?_ ?_
    · exact ts_set 6 (tv_lst ta_nil) sc.nd
    refine ts_cons ?_ ?_
    · refine ts_for (passes_of rfl) rfl (ti_rng1 (tr_v 5) fr.range) (tg_name 7 sc.nd) ?_
      refine ts_cons ?_ ?_
      · exact ts_setlc 12 (own := [("k", 13)]) rfl sc.nd (ti_rng1 (tr_frz (tv_callPD 1 (hd._law_draw) (hr.mono (by omega)) (ta_cons tr_int ta_nil))) fr.range) (blkOk_by (by kernel_rfl)) (by decide) (fun s0 H0 C cl fp => (tg_name 13 sc.nd)) (fun s0 H0 C cl fp => tts_nil) (fun s0 H0 C cl fp => (tr_ixv 4 hr (tr_frz (tv_callPD 1 (hd._law_draw) (hr.mono (by omega)) (ta_cons (tr_len (trp_v 4) fr.len) ta_nil)))))
      refine ts_one ?_
      exact ts_expr (tv_append 6 (ta_cons (tr_frz (tv_pick (tav_cons (trv_of_f (tr_v 12)) (tav_cons (trv_of_f (tr_tupc (tr_v 12) fr.tuple)) tav_nil)) (tr_frz (tv_callPD 1 (hd._law_draw) (hr.mono (by omega)) (ta_cons tr_int ta_nil))))) ta_nil))
    refine ts_cons ?_ ?_
    · exact ts_set 8 (tv_callD (hd._law_copied) (hr.mono (by omega)) (ta_cons (tr_v 6) ta_nil)) sc.nd
    refine ts_cons ?_ ?_
    · refine ts_if (tt_w (tw_or (tt_not (tt_val (tr_frz (tv_callD (hd._law_right) (hr.mono (by omega)) (ta_cons (tr_v 3) (ta_cons (tr_frz (tv_callD (hd._law_asked) (hr.mono (by omega)) (ta_cons (tr_v 3) (ta_cons tr_int (ta_cons (tr_v 8) ta_nil))))) (ta_cons (tr_frz (tv_callD (hd._law_due) (hr.mono (by omega)) (ta_cons (tr_v 2) (ta_cons (tr_v 6) ta_nil)))) ta_nil))))))) (tw_or1 (tt_not (tt_val (tr_frz (tv_callD (hd._law_same) (hr.mono (by omega)) (ta_cons (tr_v 8) (ta_cons (tr_v 6) ta_nil))))))))) ?_ ?_
      · refine ts_one ?_
        exact ts_ret (trv_of_f tr_bl)
      · exact ts_nil
    refine ts_cons ?_ ?_
    · refine ts_if (tt_not (tt_val (tr_frz (tv_callD (hd._law_right) (hr.mono (by omega)) (ta_cons (tr_v 3) (ta_cons (tr_frz (tv_callD (hd._law_asked) (hr.mono (by omega)) (ta_cons (tr_v 3) (ta_cons tr_int (ta_cons (tr_tupc (tr_v 8) fr.tuple) ta_nil))))) (ta_cons (tr_frz (tv_callD (hd._law_due) (hr.mono (by omega)) (ta_cons (tr_v 2) (ta_cons (tr_v 6) ta_nil)))) ta_nil))))))) ?_ ?_
      · refine ts_one ?_
        exact ts_ret (trv_of_f tr_bl)
      · exact ts_nil
    refine ts_cons ?_ ?_
    · exact ts_set 9 (tv_pick (tav_cons (trv_of_f tr_int) (tav_cons (trv_of_f tr_int) (tav_cons (trv_of_f (tr_neg tr_int)) (tav_cons (trv_of_f tr_non) (tav_cons (trv_of_f tr_bl) (tav_cons (trv_of_f tr_str) (tav_cons (tv_lst (ta_cons tr_int ta_nil)) (tav_cons tv_dict0 tav_nil)))))))) (tr_frz (tv_callPD 1 (hd._law_draw) (hr.mono (by omega)) (ta_cons tr_int ta_nil)))) sc.nd
    refine ts_cons ?_ ?_
    · refine ts_if (tt_ne hr (tr_frz (tv_callD (hd._law_asked) (hr.mono (by omega)) (ta_cons (tr_v 3) (ta_cons tr_int (ta_cons (tr_v 9) ta_nil))))) (trp_of_f (tr_frz (tv_lst (ta_cons tr_str (ta_cons tr_non ta_nil)))))) ?_ ?_
      · refine ts_one ?_
        exact ts_ret (trv_of_f tr_bl)
      · exact ts_nil
    refine ts_cons ?_ ?_
    · exact ts_set 7 (tv_callPD 1 (hd._law_draw) (hr.mono (by omega)) (ta_cons (tr_v 5) ta_nil)) sc.nd
    refine ts_cons ?_ ?_
    · exact ts_set 10 (tv_list rfl (trp_v 6) fr.list) sc.nd
    refine ts_cons ?_ ?_
    · exact ts_setix 10 hr (tr_frz (tv_cat (tr_frz (tv_list rfl (trp_of_f (tr_ixv 6 hr (tr_v 7))) fr.list)) (tr_frz (tv_lst (ta_cons (tr_frz (tv_pick (tav_cons (trv_of_f tr_str) (tav_cons (trv_of_f tr_str) (tav_cons (trv_of_f tr_non) (tav_cons (trv_of_f tr_int) (tav_cons (tv_lst ta_nil) (tav_cons tv_dict0 (tav_cons (trv_of_f (tr_tup (ta_cons (tr_ixv 4 hr tr_int) ta_nil))) tav_nil))))))) (tr_frz (tv_callPD 1 (hd._law_draw) (hr.mono (by omega)) (ta_cons tr_int ta_nil))))) ta_nil))))) (tr_v 7)
    refine ts_cons ?_ ?_
    · refine ts_if (tt_lt (tr_addA (tr_v 7) tr_int) (tr_v 5)) ?_ ?_
      · refine ts_one ?_
        exact ts_setix 10 hr (tr_frz (tv_lst (ta_cons tr_non ta_nil))) (tr_sub (tr_v 5) tr_int)
      · exact ts_nil
    refine ts_cons ?_ ?_
    · refine ts_if (tt_ne hr (tr_frz (tv_callC (hd._law_asked) (hr.mono (by omega)) (nc_cons 3 (nc_con (nc_cons 10 NamesC.nil))))) (trp_of_f (tr_frz (tv_lst (ta_cons tr_str (ta_cons (tr_v 7) ta_nil)))))) ?_ ?_
      · refine ts_one ?_
        exact ts_ret (trv_of_f tr_bl)
      · exact ts_nil
    refine ts_cons ?_ ?_
    · exact ts_setix 10 hr (tr_frz (tv_pick (tav_cons (trv_of_f tr_non) (tav_cons (trv_of_f tr_int) (tav_cons tv_dict0 (tav_cons (trv_of_f tr_str) (tav_cons (trv_of_f tr_bl) tav_nil))))) (tr_frz (tv_callPD 1 (hd._law_draw) (hr.mono (by omega)) (ta_cons tr_int ta_nil))))) (tr_frz (tv_callPD 1 (hd._law_draw) (hr.mono (by omega)) (ta_cons (tr_v 5) ta_nil)))
    refine ts_cons ?_ ?_
    · exact ts_set 11 (tv_pick (tav_cons (trv_of_f tr_non) (tav_cons (tv_lst ta_nil) (tav_cons tv_dict0 (tav_cons (tv_cat (tr_frz (tv_cat (tr_frz (tv_cat (tr_v 6) (tr_v 6))) (tr_v 6))) (tr_v 6)) (tav_cons (trv_of_f tr_str) (tav_cons (trv_of_f tr_int) (tav_cons (trv_of_f (tr_v 10)) tav_nil))))))) (tr_frz (tv_callPD 1 (hd._law_draw) (hr.mono (by omega)) (ta_cons tr_int ta_nil)))) sc.nd
    refine ts_one ?_
    exact ts_ret (trv_of_f (tr_eq hr (tr_frz (tv_callD (hd._law_asked) (hr.mono (by omega)) (ta_cons (tr_v 3) (ta_cons tr_int (ta_cons (tr_v 11) ta_nil))))) (trp_of_f (tr_frz (tv_lst (ta_cons tr_str (ta_cons (tr_neg tr_int) ta_nil))))))))
theorem binds_law {fd : FuncData} (F : FunD K "law" "law" (defArgs (tp 54)) (defBody (tp 54)) (defScope (tp 54)) [] [] f fd) (s : Shared) (v : Value) : BindsTo s fd ⟨[v], []⟩ [("script", v)] := FunD.bindsA (ps := ["script"]) F (fun _ _ _ _ _ _ us hl => match us, hl with | [_], _ => rfl) s [v] rfl
end G

set_option Elab.async false
set_option linter.all false
set_option maxRecDepth 100000
set_option maxHeartbeats 0
namespace A
open PySem PyProof.Rows PySem.Spec L2 L2.TT G
def fn : List He.DefD := [⟨("is_integer", none), "is_integer", "is_integer", defArgs (G.tp 3), defBody (G.tp 3), defScope (G.tp 3), [], []⟩,
  ⟨("is_between", none), "is_between", "is_between", defArgs (G.tp 4), defBody (G.tp 4), defScope (G.tp 4), [], []⟩,
  ⟨("is_below", none), "is_below", "is_below", defArgs (G.tp 5), defBody (G.tp 5), defScope (G.tp 5), [], []⟩,
  ⟨("is_row", none), "is_row", "is_row", defArgs (G.tp 6), defBody (G.tp 6), defScope (G.tp 6), [], []⟩,
  ⟨("is_name", none), "is_name", "is_name", defArgs (G.tp 7), defBody (G.tp 7), defScope (G.tp 7), [], []⟩,
  ⟨("check_sides", none), "check_sides", "check_sides", defArgs (G.tp 20), defBody (G.tp 20), defScope (G.tp 20), [], []⟩,
  ⟨("free", none), "free", "free", defArgs (G.tp 24), defBody (G.tp 24), defScope (G.tp 24), [], []⟩,
  ⟨("only", none), "only", "only", defArgs (G.tp 25), defBody (G.tp 25), defScope (G.tp 25), [], []⟩,
  ⟨("_is_rule", none), "_is_rule", "_is_rule", defArgs (G.tp 26), defBody (G.tp 26), defScope (G.tp 26), [], []⟩,
  ⟨("_are_methods", none), "_are_methods", "_are_methods", defArgs (G.tp 34), defBody (G.tp 34), defScope (G.tp 34), [], []⟩,
  ⟨("_is_method", none), "_is_method", "_is_method", defArgs (G.tp 35), defBody (G.tp 35), defScope (G.tp 35), [], []⟩,
  ⟨("_is_state_row", none), "_is_state_row", "_is_state_row", defArgs (G.tp 36), defBody (G.tp 36), defScope (G.tp 36), [], []⟩,
  ⟨("_are_answers", none), "_are_answers", "_are_answers", defArgs (G.tp 37), defBody (G.tp 37), defScope (G.tp 37), [], []⟩,
  ⟨("_is_answer", none), "_is_answer", "_is_answer", defArgs (G.tp 38), defBody (G.tp 38), defScope (G.tp 38), [], []⟩,
  ⟨("_kept_method", none), "_kept_method", "_kept_method", defArgs (G.tp 39), defBody (G.tp 39), defScope (G.tp 39), [], []⟩,
  ⟨("_kept_answers", none), "_kept_answers", "_kept_answers", defArgs (G.tp 40), defBody (G.tp 40), defScope (G.tp 40), [], []⟩,
  ⟨("_law_pool", none), "_law_pool", "_law_pool", defArgs (G.tp 42), defBody (G.tp 42), defScope (G.tp 42), [], []⟩,
  ⟨("_law_draw", none), "_law_draw", "_law_draw", defArgs (G.tp 43), defBody (G.tp 43), defScope (G.tp 43), [], []⟩,
  ⟨("_law_names", none), "_law_names", "_law_names", defArgs (G.tp 44), defBody (G.tp 44), defScope (G.tp 44), [], []⟩,
  ⟨("_law_answers", none), "_law_answers", "_law_answers", defArgs (G.tp 45), defBody (G.tp 45), defScope (G.tp 45), [], []⟩,
  ⟨("_law_method", none), "_law_method", "_law_method", defArgs (G.tp 46), defBody (G.tp 46), defScope (G.tp 46), [], []⟩,
  ⟨("_law_model", none), "_law_model", "_law_model", defArgs (G.tp 47), defBody (G.tp 47), defScope (G.tp 47), [], []⟩,
  ⟨("_law_copied", none), "_law_copied", "_law_copied", defArgs (G.tp 48), defBody (G.tp 48), defScope (G.tp 48), [], []⟩,
  ⟨("_law_kind", none), "_law_kind", "_law_kind", defArgs (G.tp 49), defBody (G.tp 49), defScope (G.tp 49), [], []⟩,
  ⟨("_law_same", none), "_law_same", "_law_same", defArgs (G.tp 50), defBody (G.tp 50), defScope (G.tp 50), [], []⟩,
  ⟨("_law_due", none), "_law_due", "_law_due", defArgs (G.tp 51), defBody (G.tp 51), defScope (G.tp 51), [], []⟩,
  ⟨("_law_asked", none), "_law_asked", "_law_asked", defArgs (G.tp 52), defBody (G.tp 52), defScope (G.tp 52), [], []⟩,
  ⟨("_law_right", none), "_law_right", "_law_right", defArgs (G.tp 53), defBody (G.tp 53), defScope (G.tp 53), [], []⟩,
  ⟨("law", none), "law", "law", defArgs (G.tp 54), defBody (G.tp 54), defScope (G.tp 54), [], []⟩,
  ⟨("BadKind", some "__init__"), "__init__", "BadKind.__init__", defArgs (inClass (G.tp 10) 0), defBody (inClass (G.tp 10) 0), defScope (inClass (G.tp 10) 0), [], []⟩,
  ⟨("NoMethod", some "__init__"), "__init__", "NoMethod.__init__", defArgs (inClass (G.tp 11) 0), defBody (inClass (G.tp 11) 0), defScope (inClass (G.tp 11) 0), [], []⟩,
  ⟨("NoState", some "__init__"), "__init__", "NoState.__init__", defArgs (inClass (G.tp 12) 0), defBody (inClass (G.tp 12) 0), defScope (inClass (G.tp 12) 0), [], []⟩,
  ⟨("NoArgument", some "__init__"), "__init__", "NoArgument.__init__", defArgs (inClass (G.tp 13) 0), defBody (inClass (G.tp 13) 0), defScope (inClass (G.tp 13) 0), [], []⟩,
  ⟨("BadContract", some "__init__"), "__init__", "BadContract.__init__", defArgs (inClass (G.tp 15) 0), defBody (inClass (G.tp 15) 0), defScope (inClass (G.tp 15) 0), [], []⟩,
  ⟨("NoSide", some "__init__"), "__init__", "NoSide.__init__", defArgs (inClass (G.tp 16) 0), defBody (inClass (G.tp 16) 0), defScope (inClass (G.tp 16) 0), [], []⟩,
  ⟨("NoMode", some "__init__"), "__init__", "NoMode.__init__", defArgs (inClass (G.tp 17) 0), defBody (inClass (G.tp 17) 0), defScope (inClass (G.tp 17) 0), [], []⟩,
  ⟨("Contract", some "__init__"), "__init__", "Contract.__init__", defArgs (inClass (G.tp 23) 0), defBody (inClass (G.tp 23) 0), defScope (inClass (G.tp 23) 0), [], []⟩,
  ⟨("Contract", some "__eq__"), "__eq__", "Contract.__eq__", defArgs (inClass (G.tp 23) 1), defBody (inClass (G.tp 23) 1), defScope (inClass (G.tp 23) 1), [], []⟩,
  ⟨("Contract", some "methods"), "methods", "Contract.methods", defArgs (inClass (G.tp 23) 2), defBody (inClass (G.tp 23) 2), defScope (inClass (G.tp 23) 2), [], []⟩,
  ⟨("Contract", some "after"), "after", "Contract.after", defArgs (inClass (G.tp 23) 3), defBody (inClass (G.tp 23) 3), defScope (inClass (G.tp 23) 3), [], []⟩,
  ⟨("Contract", some "rules"), "rules", "Contract.rules", defArgs (inClass (G.tp 23) 4), defBody (inClass (G.tp 23) 4), defScope (inClass (G.tp 23) 4), [], []⟩,
  ⟨("Contract", some "_check"), "_check", "Contract._check", defArgs (inClass (G.tp 23) 5), defBody (inClass (G.tp 23) 5), defScope (inClass (G.tp 23) 5), [], []⟩,
  ⟨("Kind", some "__init__"), "__init__", "Kind.__init__", defArgs (inClass (G.tp 33) 0), defBody (inClass (G.tp 33) 0), defScope (inClass (G.tp 33) 0), [], []⟩,
  ⟨("Kind", some "__eq__"), "__eq__", "Kind.__eq__", defArgs (inClass (G.tp 33) 1), defBody (inClass (G.tp 33) 1), defScope (inClass (G.tp 33) 1), [], []⟩,
  ⟨("Kind", some "__contains__"), "__contains__", "Kind.__contains__", defArgs (inClass (G.tp 33) 2), defBody (inClass (G.tp 33) 2), defScope (inClass (G.tp 33) 2), [], []⟩,
  ⟨("Kind", some "names"), "names", "Kind.names", defArgs (inClass (G.tp 33) 3), defBody (inClass (G.tp 33) 3), defScope (inClass (G.tp 33) 3), [], []⟩,
  ⟨("Kind", some "arguments"), "arguments", "Kind.arguments", defArgs (inClass (G.tp 33) 4), defBody (inClass (G.tp 33) 4), defScope (inClass (G.tp 33) 4), [], []⟩,
  ⟨("Kind", some "results"), "results", "Kind.results", defArgs (inClass (G.tp 33) 5), defBody (inClass (G.tp 33) 5), defScope (inClass (G.tp 33) 5), [], []⟩,
  ⟨("Kind", some "answers"), "answers", "Kind.answers", defArgs (inClass (G.tp 33) 6), defBody (inClass (G.tp 33) 6), defScope (inClass (G.tp 33) 6), [], []⟩,
  ⟨("Kind", some "with_start"), "with_start", "Kind.with_start", defArgs (inClass (G.tp 33) 7), defBody (inClass (G.tp 33) 7), defScope (inClass (G.tp 33) 7), [], []⟩,
  ⟨("Kind", some "_row"), "_row", "Kind._row", defArgs (inClass (G.tp 33) 8), defBody (inClass (G.tp 33) 8), defScope (inClass (G.tp 33) 8), [], []⟩]
def fa : List He.Fa := [.glo "is_integer", .glo "is_between", .glo "is_below", .glo "is_row", .glo "is_name", .glo "check_sides", .glo "free", .glo "only", .glo "_is_rule", .glo "_are_methods", .glo "_is_method", .glo "_is_state_row", .glo "_are_answers", .glo "_is_answer", .glo "_kept_method", .glo "_kept_answers", .glo "_law_pool", .glo "_law_draw", .glo "_law_names", .glo "_law_answers", .glo "_law_method", .glo "_law_model", .glo "_law_copied", .glo "_law_kind", .glo "_law_same", .glo "_law_due", .glo "_law_asked", .glo "_law_right", .glo "law", .glo "TowerError", .keep "TowerError", .glo "BadKind", .keep "BadKind", .glo "NoMethod", .keep "NoMethod", .glo "NoState", .keep "NoState", .glo "NoArgument", .keep "NoArgument", .glo "BadSides", .keep "BadSides", .glo "BadContract", .keep "BadContract", .glo "NoSide", .keep "NoSide", .glo "NoMode", .keep "NoMode", .glo "Contract", .glo "Kind", .free "all", .free "bool", .free "dict", .free "enumerate", .free "int", .free "isinstance", .free "len", .free "list", .free "max", .free "range", .free "sorted", .free "str", .free "tuple", .int "LONGEST_NAME" 8, .int "MOST_ANSWERS" 8, .int "MOST_ARGUMENTS" 4, .int "MOST_METHODS" 4, .int "MOST_MODES" 16, .int "MOST_RESULTS" 4, .int "MOST_SIDES" 3, .int "MOST_STATES" 8, .cls "Contract", .cls "Kind", .noat "Contract" "_rules", .noat "Contract" "kind", .noat "Contract" "sides", .noat "Kind" "_table", .noat "Kind" "start", .noat "Kind" "states", .meth "Contract" "_check", .meth "Kind" "__eq__", .meth "Kind" "__contains__", .meth "Kind" "names", .meth "Kind" "_row", .meth "Contract" "__eq__", .meth "Contract" "methods", .meth "Kind" "results", .mkr "Contract", .mkr "Kind"]
def ck : List HX.Ck := [fun K => L2.xfB K (He.ga K "BadContract"),
  fun K => decide (PySem.W.findIn K (.ref (He.ga K "BadContract")) "side" = some none),
  fun K => decide (PySem.W.findIn K (.ref (He.ga K "Contract")) "__class__" = some (some (.builtin "object.__class__"))),
  fun K => decide (PySem.W.specialIn K (.builtin "object.__class__") "__get__" = some (some (.builtin "getset_descriptor.__get__"))),
  fun K => decide (PySem.W.takesIn K (.builtin "object.__class__") = some true),
  fun K => decide (PySem.W.mroIn K (He.ga K "Contract") (.type "object") = some true),
  fun K => (["NoneType", "bool", "int", "str", "list", "tuple", "dict"] : List String).all fun t => decide (PySem.W.kitOne K (.type t) (.ref (He.ga K "Contract")) = some false),
  fun K => decide (PySem.W.findIn K (.ref (He.ga K "Kind")) "__class__" = some (some (.builtin "object.__class__"))),
  fun K => decide (PySem.W.mroIn K (He.ga K "Kind") (.type "object") = some true),
  fun K => (["NoneType", "bool", "int", "str", "list", "tuple", "dict"] : List String).all fun t => decide (PySem.W.kitOne K (.type t) (.ref (He.ga K "Kind")) = some false),
  fun K => decide (PySem.W.exmOne K (.ref (He.ga K "BadContract")) (.ref (He.ga K "BadContract")) = some true),
  fun K => decide (PySem.W.exmOne K (.ref (He.ga K "BadContract")) (.ref (He.ga K "BadSides")) = some false),
  fun K => decide (PySem.W.exmOne K (.ref (He.ga K "BadContract")) (.ref (He.ga K "TowerError")) = some true),
  fun K => decide (PySem.W.exmOne K (.ref (He.ga K "BadKind")) (.ref (He.ga K "BadContract")) = some false),
  fun K => decide (PySem.W.exmOne K (.ref (He.ga K "BadKind")) (.ref (He.ga K "BadSides")) = some false),
  fun K => decide (PySem.W.exmOne K (.ref (He.ga K "BadKind")) (.ref (He.ga K "TowerError")) = some true),
  fun K => decide (PySem.W.exmOne K (.ref (He.ga K "BadSides")) (.ref (He.ga K "BadContract")) = some false),
  fun K => decide (PySem.W.exmOne K (.ref (He.ga K "BadSides")) (.ref (He.ga K "BadSides")) = some true),
  fun K => decide (PySem.W.exmOne K (.ref (He.ga K "BadSides")) (.ref (He.ga K "TowerError")) = some true),
  fun K => decide (PySem.W.exmOne K (.ref (He.ga K "NoArgument")) (.ref (He.ga K "BadContract")) = some false),
  fun K => decide (PySem.W.exmOne K (.ref (He.ga K "NoArgument")) (.ref (He.ga K "BadSides")) = some false),
  fun K => decide (PySem.W.exmOne K (.ref (He.ga K "NoArgument")) (.ref (He.ga K "TowerError")) = some true),
  fun K => decide (PySem.W.exmOne K (.ref (He.ga K "NoMethod")) (.ref (He.ga K "BadContract")) = some false),
  fun K => decide (PySem.W.exmOne K (.ref (He.ga K "NoMethod")) (.ref (He.ga K "BadSides")) = some false),
  fun K => decide (PySem.W.exmOne K (.ref (He.ga K "NoMethod")) (.ref (He.ga K "TowerError")) = some true),
  fun K => decide (PySem.W.exmOne K (.ref (He.ga K "NoMode")) (.ref (He.ga K "BadContract")) = some false),
  fun K => decide (PySem.W.exmOne K (.ref (He.ga K "NoMode")) (.ref (He.ga K "BadSides")) = some false),
  fun K => decide (PySem.W.exmOne K (.ref (He.ga K "NoMode")) (.ref (He.ga K "TowerError")) = some true),
  fun K => decide (PySem.W.exmOne K (.ref (He.ga K "NoSide")) (.ref (He.ga K "BadContract")) = some false),
  fun K => decide (PySem.W.exmOne K (.ref (He.ga K "NoSide")) (.ref (He.ga K "BadSides")) = some false),
  fun K => decide (PySem.W.exmOne K (.ref (He.ga K "NoSide")) (.ref (He.ga K "TowerError")) = some true),
  fun K => decide (PySem.W.exmOne K (.ref (He.ga K "NoState")) (.ref (He.ga K "BadContract")) = some false),
  fun K => decide (PySem.W.exmOne K (.ref (He.ga K "NoState")) (.ref (He.ga K "BadSides")) = some false),
  fun K => decide (PySem.W.exmOne K (.ref (He.ga K "NoState")) (.ref (He.ga K "TowerError")) = some true),
  fun K => decide (PySem.W.exmOne K (.ref (He.ga K "TowerError")) (.ref (He.ga K "BadContract")) = some false),
  fun K => decide (PySem.W.exmOne K (.ref (He.ga K "TowerError")) (.ref (He.ga K "BadSides")) = some false),
  fun K => decide (PySem.W.exmOne K (.ref (He.ga K "TowerError")) (.ref (He.ga K "TowerError")) = some true),
  HX.oexB "BadContract",
  fun K => decide (PySem.W.findIn K (.ref (He.ga K "BadContract")) "__init__" = some (some (.ref (He.fAd K ("BadContract", some "__init__"))))),
  fun K => decide (PySem.W.typeIn K (.ref (He.fAd K ("BadContract", some "__init__"))) = some (.type "function")),
  HX.oexB "BadKind",
  fun K => decide (PySem.W.findIn K (.ref (He.ga K "BadKind")) "part" = some none),
  fun K => decide (PySem.W.findIn K (.ref (He.ga K "BadKind")) "__init__" = some (some (.ref (He.fAd K ("BadKind", some "__init__"))))),
  fun K => decide (PySem.W.typeIn K (.ref (He.fAd K ("BadKind", some "__init__"))) = some (.type "function")),
  HX.oexB "NoArgument",
  fun K => decide (PySem.W.findIn K (.ref (He.ga K "NoArgument")) "argument" = some none),
  fun K => decide (PySem.W.findIn K (.ref (He.ga K "NoArgument")) "__init__" = some (some (.ref (He.fAd K ("NoArgument", some "__init__"))))),
  fun K => decide (PySem.W.typeIn K (.ref (He.fAd K ("NoArgument", some "__init__"))) = some (.type "function")),
  HX.oexB "NoMethod",
  fun K => decide (PySem.W.findIn K (.ref (He.ga K "NoMethod")) "method" = some none),
  fun K => decide (PySem.W.findIn K (.ref (He.ga K "NoMethod")) "__init__" = some (some (.ref (He.fAd K ("NoMethod", some "__init__"))))),
  fun K => decide (PySem.W.typeIn K (.ref (He.fAd K ("NoMethod", some "__init__"))) = some (.type "function")),
  HX.oexB "NoMode",
  fun K => decide (PySem.W.findIn K (.ref (He.ga K "NoMode")) "mode" = some none),
  fun K => decide (PySem.W.findIn K (.ref (He.ga K "NoMode")) "__init__" = some (some (.ref (He.fAd K ("NoMode", some "__init__"))))),
  fun K => decide (PySem.W.typeIn K (.ref (He.fAd K ("NoMode", some "__init__"))) = some (.type "function")),
  HX.oexB "NoSide",
  fun K => decide (PySem.W.findIn K (.ref (He.ga K "NoSide")) "side" = some none),
  fun K => decide (PySem.W.findIn K (.ref (He.ga K "NoSide")) "__init__" = some (some (.ref (He.fAd K ("NoSide", some "__init__"))))),
  fun K => decide (PySem.W.typeIn K (.ref (He.fAd K ("NoSide", some "__init__"))) = some (.type "function")),
  HX.oexB "NoState",
  fun K => decide (PySem.W.findIn K (.ref (He.ga K "NoState")) "state" = some none),
  fun K => decide (PySem.W.findIn K (.ref (He.ga K "NoState")) "__init__" = some (some (.ref (He.fAd K ("NoState", some "__init__"))))),
  fun K => decide (PySem.W.typeIn K (.ref (He.fAd K ("NoState", some "__init__"))) = some (.type "function")),
  fun K => decide (PySem.W.excIn K (He.ga K "BadSides") [.type "ValueError", .type "Exception", .type "BaseException", .type "object"] "ValueError.__new__" = true),
  fun K => decide (PySem.W.keepIn K (.ref (He.ga K "BadSides")) = true),
  fun K => decide (PySem.W.subIn K (.ref (He.ga K "BadSides")) (.type "BaseException") = some true),
  fun K => decide (PySem.W.typeIn K (.ref (He.ga K "BadSides")) = some (.type "type"))]
abbrev R : PySem.W.OpenRow := PySem.W.OpenLaw.row PySem.Challenge.rw_towerup_k27_free_and_only
abbrev hk0 : PySem.W.Hook := HX.hook 5 ck fa fn
def ob (s : PySem.W.SharedT) : He.AlD × Bool := HX.lookG 5 ck fa fn (HandSHeadRun.getT s)
theorem ob_eq (s : PySem.W.SharedT) : ob s = hk0.obs s.abs := HX.look_eq (HandSHeadRun.getT_eq s)
def lo : List PySem.Str := (["_wall", "LONGEST_NAME", "is_integer", "is_between", "is_below", "is_row", "is_name", "TowerError", "BadKind", "NoMethod", "NoState", "NoArgument", "BadSides", "BadContract", "NoSide", "NoMode", "MOST_SIDES", "check_sides", "MOST_MODES", "Contract", "free", "only", "_is_rule", "MOST_STATES", "MOST_METHODS"] : List PySem.Str) ++ (["MOST_ARGUMENTS", "MOST_RESULTS", "MOST_ANSWERS", "Kind", "_are_methods", "_is_method", "_is_state_row", "_are_answers", "_is_answer", "_kept_method", "_kept_answers", "_law_pool", "_law_draw", "_law_names", "_law_answers", "_law_method", "_law_model", "_law_copied", "_law_kind", "_law_same", "_law_due", "_law_asked", "_law_right"] : List PySem.Str)
theorem run (w : World) : HandSHeadRun.RunEq R (PySem.W.view R.prog [54]) hk0 ob 8000 lo w := by
  intro os
  kernel_rfl
theorem exm_ok {K : PySem.W.Frag} (hk : ∀ c ∈ ck, c K = true) (c x : Str) (b : Bool) (h : G.exm c x = some b) : PySem.W.exmOne K (.ref (He.ga K c)) (.ref (He.ga K x)) = some b := by
  unfold G.exm at h
  by_cases e : c = "BadContract" ∧ x = "BadContract"
  · rw [if_pos e] at h; obtain ⟨rfl, rfl⟩ := e; cases h; exact of_decide_eq_true (hk _ (List.mem_of_getElem? (l := ck) (i := 10) rfl))
  rw [if_neg e] at h; clear e
  by_cases e : c = "BadContract" ∧ x = "BadSides"
  · rw [if_pos e] at h; obtain ⟨rfl, rfl⟩ := e; cases h; exact of_decide_eq_true (hk _ (List.mem_of_getElem? (l := ck) (i := 11) rfl))
  rw [if_neg e] at h; clear e
  by_cases e : c = "BadContract" ∧ x = "TowerError"
  · rw [if_pos e] at h; obtain ⟨rfl, rfl⟩ := e; cases h; exact of_decide_eq_true (hk _ (List.mem_of_getElem? (l := ck) (i := 12) rfl))
  rw [if_neg e] at h; clear e
  by_cases e : c = "BadKind" ∧ x = "BadContract"
  · rw [if_pos e] at h; obtain ⟨rfl, rfl⟩ := e; cases h; exact of_decide_eq_true (hk _ (List.mem_of_getElem? (l := ck) (i := 13) rfl))
  rw [if_neg e] at h; clear e
  by_cases e : c = "BadKind" ∧ x = "BadSides"
  · rw [if_pos e] at h; obtain ⟨rfl, rfl⟩ := e; cases h; exact of_decide_eq_true (hk _ (List.mem_of_getElem? (l := ck) (i := 14) rfl))
  rw [if_neg e] at h; clear e
  by_cases e : c = "BadKind" ∧ x = "TowerError"
  · rw [if_pos e] at h; obtain ⟨rfl, rfl⟩ := e; cases h; exact of_decide_eq_true (hk _ (List.mem_of_getElem? (l := ck) (i := 15) rfl))
  rw [if_neg e] at h; clear e
  by_cases e : c = "BadSides" ∧ x = "BadContract"
  · rw [if_pos e] at h; obtain ⟨rfl, rfl⟩ := e; cases h; exact of_decide_eq_true (hk _ (List.mem_of_getElem? (l := ck) (i := 16) rfl))
  rw [if_neg e] at h; clear e
  by_cases e : c = "BadSides" ∧ x = "BadSides"
  · rw [if_pos e] at h; obtain ⟨rfl, rfl⟩ := e; cases h; exact of_decide_eq_true (hk _ (List.mem_of_getElem? (l := ck) (i := 17) rfl))
  rw [if_neg e] at h; clear e
  by_cases e : c = "BadSides" ∧ x = "TowerError"
  · rw [if_pos e] at h; obtain ⟨rfl, rfl⟩ := e; cases h; exact of_decide_eq_true (hk _ (List.mem_of_getElem? (l := ck) (i := 18) rfl))
  rw [if_neg e] at h; clear e
  by_cases e : c = "NoArgument" ∧ x = "BadContract"
  · rw [if_pos e] at h; obtain ⟨rfl, rfl⟩ := e; cases h; exact of_decide_eq_true (hk _ (List.mem_of_getElem? (l := ck) (i := 19) rfl))
  rw [if_neg e] at h; clear e
  by_cases e : c = "NoArgument" ∧ x = "BadSides"
  · rw [if_pos e] at h; obtain ⟨rfl, rfl⟩ := e; cases h; exact of_decide_eq_true (hk _ (List.mem_of_getElem? (l := ck) (i := 20) rfl))
  rw [if_neg e] at h; clear e
  by_cases e : c = "NoArgument" ∧ x = "TowerError"
  · rw [if_pos e] at h; obtain ⟨rfl, rfl⟩ := e; cases h; exact of_decide_eq_true (hk _ (List.mem_of_getElem? (l := ck) (i := 21) rfl))
  rw [if_neg e] at h; clear e
  by_cases e : c = "NoMethod" ∧ x = "BadContract"
  · rw [if_pos e] at h; obtain ⟨rfl, rfl⟩ := e; cases h; exact of_decide_eq_true (hk _ (List.mem_of_getElem? (l := ck) (i := 22) rfl))
  rw [if_neg e] at h; clear e
  by_cases e : c = "NoMethod" ∧ x = "BadSides"
  · rw [if_pos e] at h; obtain ⟨rfl, rfl⟩ := e; cases h; exact of_decide_eq_true (hk _ (List.mem_of_getElem? (l := ck) (i := 23) rfl))
  rw [if_neg e] at h; clear e
  by_cases e : c = "NoMethod" ∧ x = "TowerError"
  · rw [if_pos e] at h; obtain ⟨rfl, rfl⟩ := e; cases h; exact of_decide_eq_true (hk _ (List.mem_of_getElem? (l := ck) (i := 24) rfl))
  rw [if_neg e] at h; clear e
  by_cases e : c = "NoMode" ∧ x = "BadContract"
  · rw [if_pos e] at h; obtain ⟨rfl, rfl⟩ := e; cases h; exact of_decide_eq_true (hk _ (List.mem_of_getElem? (l := ck) (i := 25) rfl))
  rw [if_neg e] at h; clear e
  by_cases e : c = "NoMode" ∧ x = "BadSides"
  · rw [if_pos e] at h; obtain ⟨rfl, rfl⟩ := e; cases h; exact of_decide_eq_true (hk _ (List.mem_of_getElem? (l := ck) (i := 26) rfl))
  rw [if_neg e] at h; clear e
  by_cases e : c = "NoMode" ∧ x = "TowerError"
  · rw [if_pos e] at h; obtain ⟨rfl, rfl⟩ := e; cases h; exact of_decide_eq_true (hk _ (List.mem_of_getElem? (l := ck) (i := 27) rfl))
  rw [if_neg e] at h; clear e
  by_cases e : c = "NoSide" ∧ x = "BadContract"
  · rw [if_pos e] at h; obtain ⟨rfl, rfl⟩ := e; cases h; exact of_decide_eq_true (hk _ (List.mem_of_getElem? (l := ck) (i := 28) rfl))
  rw [if_neg e] at h; clear e
  by_cases e : c = "NoSide" ∧ x = "BadSides"
  · rw [if_pos e] at h; obtain ⟨rfl, rfl⟩ := e; cases h; exact of_decide_eq_true (hk _ (List.mem_of_getElem? (l := ck) (i := 29) rfl))
  rw [if_neg e] at h; clear e
  by_cases e : c = "NoSide" ∧ x = "TowerError"
  · rw [if_pos e] at h; obtain ⟨rfl, rfl⟩ := e; cases h; exact of_decide_eq_true (hk _ (List.mem_of_getElem? (l := ck) (i := 30) rfl))
  rw [if_neg e] at h; clear e
  by_cases e : c = "NoState" ∧ x = "BadContract"
  · rw [if_pos e] at h; obtain ⟨rfl, rfl⟩ := e; cases h; exact of_decide_eq_true (hk _ (List.mem_of_getElem? (l := ck) (i := 31) rfl))
  rw [if_neg e] at h; clear e
  by_cases e : c = "NoState" ∧ x = "BadSides"
  · rw [if_pos e] at h; obtain ⟨rfl, rfl⟩ := e; cases h; exact of_decide_eq_true (hk _ (List.mem_of_getElem? (l := ck) (i := 32) rfl))
  rw [if_neg e] at h; clear e
  by_cases e : c = "NoState" ∧ x = "TowerError"
  · rw [if_pos e] at h; obtain ⟨rfl, rfl⟩ := e; cases h; exact of_decide_eq_true (hk _ (List.mem_of_getElem? (l := ck) (i := 33) rfl))
  rw [if_neg e] at h; clear e
  by_cases e : c = "TowerError" ∧ x = "BadContract"
  · rw [if_pos e] at h; obtain ⟨rfl, rfl⟩ := e; cases h; exact of_decide_eq_true (hk _ (List.mem_of_getElem? (l := ck) (i := 34) rfl))
  rw [if_neg e] at h; clear e
  by_cases e : c = "TowerError" ∧ x = "BadSides"
  · rw [if_pos e] at h; obtain ⟨rfl, rfl⟩ := e; cases h; exact of_decide_eq_true (hk _ (List.mem_of_getElem? (l := ck) (i := 35) rfl))
  rw [if_neg e] at h; clear e
  by_cases e : c = "TowerError" ∧ x = "TowerError"
  · rw [if_pos e] at h; obtain ⟨rfl, rfl⟩ := e; cases h; exact of_decide_eq_true (hk _ (List.mem_of_getElem? (l := ck) (i := 36) rfl))
  rw [if_neg e] at h; clear e
  cases h
theorem xf_ok {K : PySem.W.Frag} (hk : ∀ c ∈ ck, c K = true) (c f : Str) (h : G.xok c f = true) : XfC K (He.ga K c) ∧ PySem.W.findIn K (.ref (He.ga K c)) f = some none := by
  unfold G.xok at h
  simp only [Bool.or_eq_true, Bool.and_eq_true, decide_eq_true_eq] at h
  rcases h with ⟨rfl, rfl⟩
  · exact ⟨L2.xfB_ok (hk _ (List.mem_of_getElem? (l := ck) (i := 0) rfl)), of_decide_eq_true (hk _ (List.mem_of_getElem? (l := ck) (i := 1) rfl))⟩
theorem law_ok {P : Program} {w : World} {K : PySem.W.Frag} {mg : Str → Option Value} {base h : Heap} (hX : K.In h) (hG : h.Ns mainGlobals mg) (c : He.SaysD fa fn K) (hk : ∀ c ∈ ck, c K = true) {fd : FuncData} (F0 : FunD K "law" "law" (defArgs (G.tp 54)) (defBody (G.tp 54)) (defScope (G.tp 54)) [] [] (He.ga K "law") fd) : FnOk P w K mg base (L2.CX P w) 12 (He.ga K "law") fd ["script"] (spF K 1 F_law) := by
  have fr : Fr K mg := ⟨He.free_ok hX hG (c.fact 49 (f := .free "all") rfl),
    He.free_ok hX hG (c.fact 50 (f := .free "bool") rfl),
    He.free_ok hX hG (c.fact 51 (f := .free "dict") rfl),
    He.free_ok hX hG (c.fact 52 (f := .free "enumerate") rfl),
    He.free_ok hX hG (c.fact 53 (f := .free "int") rfl),
    He.free_ok hX hG (c.fact 54 (f := .free "isinstance") rfl),
    He.free_ok hX hG (c.fact 55 (f := .free "len") rfl),
    He.free_ok hX hG (c.fact 56 (f := .free "list") rfl),
    He.free_ok hX hG (c.fact 57 (f := .free "max") rfl),
    He.free_ok hX hG (c.fact 58 (f := .free "range") rfl),
    He.free_ok hX hG (c.fact 59 (f := .free "sorted") rfl),
    He.free_ok hX hG (c.fact 60 (f := .free "str") rfl),
    He.free_ok hX hG (c.fact 61 (f := .free "tuple") rfl),
    He.int_ok hX hG (c.fact 62 (f := .int "LONGEST_NAME" 8) rfl),
    He.int_ok hX hG (c.fact 63 (f := .int "MOST_ANSWERS" 8) rfl),
    He.int_ok hX hG (c.fact 64 (f := .int "MOST_ARGUMENTS" 4) rfl),
    He.int_ok hX hG (c.fact 65 (f := .int "MOST_METHODS" 4) rfl),
    He.int_ok hX hG (c.fact 66 (f := .int "MOST_MODES" 16) rfl),
    He.int_ok hX hG (c.fact 67 (f := .int "MOST_RESULTS" 4) rfl),
    He.int_ok hX hG (c.fact 68 (f := .int "MOST_SIDES" 3) rfl),
    He.int_ok hX hG (c.fact 69 (f := .int "MOST_STATES" 8) rfl),
    He.cls_ok (c.fact 70 (f := .cls "Contract") rfl),
    He.cls_ok (c.fact 71 (f := .cls "Kind") rfl),
    He.noat_ok (c.fact 72 (f := .noat "Contract" "_rules") rfl),
    He.noat_ok (c.fact 73 (f := .noat "Contract" "kind") rfl),
    He.noat_ok (c.fact 74 (f := .noat "Contract" "sides") rfl),
    He.noat_ok (c.fact 75 (f := .noat "Kind" "_table") rfl),
    He.noat_ok (c.fact 76 (f := .noat "Kind" "start") rfl),
    He.noat_ok (c.fact 77 (f := .noat "Kind" "states") rfl),
    fun c f h => xf_ok hk c f h,
    ⟨He.cls_ok (c.fact 70 (f := .cls "Contract") rfl), of_decide_eq_true (hk _ (List.mem_of_getElem? (l := ck) (i := 2) rfl)), of_decide_eq_true (hk _ (List.mem_of_getElem? (l := ck) (i := 3) rfl)), of_decide_eq_true (hk _ (List.mem_of_getElem? (l := ck) (i := 4) rfl)), of_decide_eq_true (hk _ (List.mem_of_getElem? (l := ck) (i := 5) rfl))⟩,
    fun t ht => of_decide_eq_true (List.all_eq_true.mp (hk _ (List.mem_of_getElem? (l := ck) (i := 6) rfl)) t ht),
    ⟨He.cls_ok (c.fact 71 (f := .cls "Kind") rfl), of_decide_eq_true (hk _ (List.mem_of_getElem? (l := ck) (i := 7) rfl)), of_decide_eq_true (hk _ (List.mem_of_getElem? (l := ck) (i := 3) rfl)), of_decide_eq_true (hk _ (List.mem_of_getElem? (l := ck) (i := 4) rfl)), of_decide_eq_true (hk _ (List.mem_of_getElem? (l := ck) (i := 8) rfl))⟩,
    fun t ht => of_decide_eq_true (List.all_eq_true.mp (hk _ (List.mem_of_getElem? (l := ck) (i := 9) rfl)) t ht),
    He.glo_ok hX hG (c.fact 41 (f := .glo "BadContract") rfl),
    He.glo_ok hX hG (c.fact 39 (f := .glo "BadSides") rfl),
    He.glo_ok hX hG (c.fact 47 (f := .glo "Contract") rfl),
    He.glo_ok hX hG (c.fact 48 (f := .glo "Kind") rfl),
    He.glo_ok hX hG (c.fact 29 (f := .glo "TowerError") rfl),
    fun c x b h => exm_ok hk c x b h⟩
  have x_BadContract : ExcOk P w K mg base 1 "BadContract" "side" := by
    obtain ⟨fd, F⟩ := c.def_ 33 rfl
    exact ⟨_, fd, ["self", "side"], HX.oexB_ok (hk _ (List.mem_of_getElem? (l := ck) (i := 37) rfl)), of_decide_eq_true (hk _ (List.mem_of_getElem? (l := ck) (i := 38) rfl)), of_decide_eq_true (hk _ (List.mem_of_getElem? (l := ck) (i := 39) rfl)), init_ok F (S := ⟨rfl, rfl, rfl, by decide +kernel, rfl, by decide +kernel, by decide +kernel⟩) (HX.oexB_ok (hk _ (List.mem_of_getElem? (l := ck) (i := 37) rfl))) (of_decide_eq_true (hk _ (List.mem_of_getElem? (l := ck) (i := 1) rfl))) rfl, He.glo_ok hX hG (c.fact 41 (f := .glo "BadContract") rfl), F.bindsN fun _ _ _ _ _ _ us hl => match us, hl with | [_, _], _ => rfl⟩
  have x_BadKind : ExcOk P w K mg base 1 "BadKind" "part" := by
    obtain ⟨fd, F⟩ := c.def_ 29 rfl
    exact ⟨_, fd, ["self", "part"], HX.oexB_ok (hk _ (List.mem_of_getElem? (l := ck) (i := 40) rfl)), of_decide_eq_true (hk _ (List.mem_of_getElem? (l := ck) (i := 42) rfl)), of_decide_eq_true (hk _ (List.mem_of_getElem? (l := ck) (i := 43) rfl)), init_ok F (S := ⟨rfl, rfl, rfl, by decide +kernel, rfl, by decide +kernel, by decide +kernel⟩) (HX.oexB_ok (hk _ (List.mem_of_getElem? (l := ck) (i := 40) rfl))) (of_decide_eq_true (hk _ (List.mem_of_getElem? (l := ck) (i := 41) rfl))) rfl, He.glo_ok hX hG (c.fact 31 (f := .glo "BadKind") rfl), F.bindsN fun _ _ _ _ _ _ us hl => match us, hl with | [_, _], _ => rfl⟩
  have x_NoArgument : ExcOk P w K mg base 1 "NoArgument" "argument" := by
    obtain ⟨fd, F⟩ := c.def_ 32 rfl
    exact ⟨_, fd, ["self", "argument"], HX.oexB_ok (hk _ (List.mem_of_getElem? (l := ck) (i := 44) rfl)), of_decide_eq_true (hk _ (List.mem_of_getElem? (l := ck) (i := 46) rfl)), of_decide_eq_true (hk _ (List.mem_of_getElem? (l := ck) (i := 47) rfl)), init_ok F (S := ⟨rfl, rfl, rfl, by decide +kernel, rfl, by decide +kernel, by decide +kernel⟩) (HX.oexB_ok (hk _ (List.mem_of_getElem? (l := ck) (i := 44) rfl))) (of_decide_eq_true (hk _ (List.mem_of_getElem? (l := ck) (i := 45) rfl))) rfl, He.glo_ok hX hG (c.fact 37 (f := .glo "NoArgument") rfl), F.bindsN fun _ _ _ _ _ _ us hl => match us, hl with | [_, _], _ => rfl⟩
  have x_NoMethod : ExcOk P w K mg base 1 "NoMethod" "method" := by
    obtain ⟨fd, F⟩ := c.def_ 30 rfl
    exact ⟨_, fd, ["self", "method"], HX.oexB_ok (hk _ (List.mem_of_getElem? (l := ck) (i := 48) rfl)), of_decide_eq_true (hk _ (List.mem_of_getElem? (l := ck) (i := 50) rfl)), of_decide_eq_true (hk _ (List.mem_of_getElem? (l := ck) (i := 51) rfl)), init_ok F (S := ⟨rfl, rfl, rfl, by decide +kernel, rfl, by decide +kernel, by decide +kernel⟩) (HX.oexB_ok (hk _ (List.mem_of_getElem? (l := ck) (i := 48) rfl))) (of_decide_eq_true (hk _ (List.mem_of_getElem? (l := ck) (i := 49) rfl))) rfl, He.glo_ok hX hG (c.fact 33 (f := .glo "NoMethod") rfl), F.bindsN fun _ _ _ _ _ _ us hl => match us, hl with | [_, _], _ => rfl⟩
  have x_NoMode : ExcOk P w K mg base 1 "NoMode" "mode" := by
    obtain ⟨fd, F⟩ := c.def_ 35 rfl
    exact ⟨_, fd, ["self", "mode"], HX.oexB_ok (hk _ (List.mem_of_getElem? (l := ck) (i := 52) rfl)), of_decide_eq_true (hk _ (List.mem_of_getElem? (l := ck) (i := 54) rfl)), of_decide_eq_true (hk _ (List.mem_of_getElem? (l := ck) (i := 55) rfl)), init_ok F (S := ⟨rfl, rfl, rfl, by decide +kernel, rfl, by decide +kernel, by decide +kernel⟩) (HX.oexB_ok (hk _ (List.mem_of_getElem? (l := ck) (i := 52) rfl))) (of_decide_eq_true (hk _ (List.mem_of_getElem? (l := ck) (i := 53) rfl))) rfl, He.glo_ok hX hG (c.fact 45 (f := .glo "NoMode") rfl), F.bindsN fun _ _ _ _ _ _ us hl => match us, hl with | [_, _], _ => rfl⟩
  have x_NoSide : ExcOk P w K mg base 1 "NoSide" "side" := by
    obtain ⟨fd, F⟩ := c.def_ 34 rfl
    exact ⟨_, fd, ["self", "side"], HX.oexB_ok (hk _ (List.mem_of_getElem? (l := ck) (i := 56) rfl)), of_decide_eq_true (hk _ (List.mem_of_getElem? (l := ck) (i := 58) rfl)), of_decide_eq_true (hk _ (List.mem_of_getElem? (l := ck) (i := 59) rfl)), init_ok F (S := ⟨rfl, rfl, rfl, by decide +kernel, rfl, by decide +kernel, by decide +kernel⟩) (HX.oexB_ok (hk _ (List.mem_of_getElem? (l := ck) (i := 56) rfl))) (of_decide_eq_true (hk _ (List.mem_of_getElem? (l := ck) (i := 57) rfl))) rfl, He.glo_ok hX hG (c.fact 43 (f := .glo "NoSide") rfl), F.bindsN fun _ _ _ _ _ _ us hl => match us, hl with | [_, _], _ => rfl⟩
  have x_NoState : ExcOk P w K mg base 1 "NoState" "state" := by
    obtain ⟨fd, F⟩ := c.def_ 31 rfl
    exact ⟨_, fd, ["self", "state"], HX.oexB_ok (hk _ (List.mem_of_getElem? (l := ck) (i := 60) rfl)), of_decide_eq_true (hk _ (List.mem_of_getElem? (l := ck) (i := 62) rfl)), of_decide_eq_true (hk _ (List.mem_of_getElem? (l := ck) (i := 63) rfl)), init_ok F (S := ⟨rfl, rfl, rfl, by decide +kernel, rfl, by decide +kernel, by decide +kernel⟩) (HX.oexB_ok (hk _ (List.mem_of_getElem? (l := ck) (i := 60) rfl))) (of_decide_eq_true (hk _ (List.mem_of_getElem? (l := ck) (i := 61) rfl))) rfl, He.glo_ok hX hG (c.fact 35 (f := .glo "NoState") rfl), F.bindsN fun _ _ _ _ _ _ us hl => match us, hl with | [_, _], _ => rfl⟩
  have z_BadSides : Exc0 K mg "BadSides" := ⟨of_decide_eq_true (hk _ (List.mem_of_getElem? (l := ck) (i := 64) rfl)), of_decide_eq_true (hk _ (List.mem_of_getElem? (l := ck) (i := 65) rfl)), of_decide_eq_true (hk _ (List.mem_of_getElem? (l := ck) (i := 66) rfl)), of_decide_eq_true (hk _ (List.mem_of_getElem? (l := ck) (i := 67) rfl)), He.glo_ok hX hG (c.fact 39 (f := .glo "BadSides") rfl)⟩
  have d_is_integer := ok_is_integer (P := P) (w := w) (base := base) fr trivial (c.def_ 0 rfl) (He.glo_ok hX hG (c.fact 0 (f := .glo "is_integer") rfl))
  have d_is_between := ok_is_between (P := P) (w := w) (base := base) fr ⟨d_is_integer⟩ (c.def_ 1 rfl) (He.glo_ok hX hG (c.fact 1 (f := .glo "is_between") rfl))
  have d_is_below := ok_is_below (P := P) (w := w) (base := base) fr ⟨d_is_between⟩ (c.def_ 2 rfl) (He.glo_ok hX hG (c.fact 2 (f := .glo "is_below") rfl))
  have d_is_row := ok_is_row (P := P) (w := w) (base := base) fr trivial (c.def_ 3 rfl) (He.glo_ok hX hG (c.fact 3 (f := .glo "is_row") rfl))
  have d_is_name := ok_is_name (P := P) (w := w) (base := base) fr trivial (c.def_ 4 rfl) (He.glo_ok hX hG (c.fact 4 (f := .glo "is_name") rfl))
  have d_check_sides := ok_check_sides (P := P) (w := w) (base := base) fr ⟨d_is_between, z_BadSides⟩ (c.def_ 5 rfl) (He.glo_ok hX hG (c.fact 5 (f := .glo "check_sides") rfl))
  have d_Contract__check : MethOk P w K mg base 4 "Contract" "_check" (spF K 3 F_Contract__check) := by
    obtain ⟨fd, a, b⟩ := ok_Contract__check (P := P) (w := w) (base := base) fr ⟨d_is_below, x_NoMode, x_NoSide⟩ (c.def_ 41 rfl)
    exact ⟨_, fd, _, a, He.cls_ok (c.fact 70 (f := .cls "Contract") rfl), He.meth_ok (c.fact 78 (f := .meth "Contract" "_check") rfl), b⟩
  have d_Kind___eq__ : MethOk P w K mg base 1 "Kind" "__eq__" (spF K 2 F_Kind___eq__) := by
    obtain ⟨fd, a, b⟩ := ok_Kind___eq__ (P := P) (w := w) (base := base) fr trivial (c.def_ 43 rfl)
    exact ⟨_, fd, _, a, He.cls_ok (c.fact 71 (f := .cls "Kind") rfl), He.meth_ok (c.fact 79 (f := .meth "Kind" "__eq__") rfl), b⟩
  have d_Kind___contains__ : MethOk P w K mg base 1 "Kind" "__contains__" (spF K 2 F_Kind___contains__) := by
    obtain ⟨fd, a, b⟩ := ok_Kind___contains__ (P := P) (w := w) (base := base) fr trivial (c.def_ 44 rfl)
    exact ⟨_, fd, _, a, He.cls_ok (c.fact 71 (f := .cls "Kind") rfl), He.meth_ok (c.fact 80 (f := .meth "Kind" "__contains__") rfl), b⟩
  have d_Kind_names : MethOk P w K mg base 1 "Kind" "names" (spF K 1 F_Kind_names) := by
    obtain ⟨fd, a, b⟩ := ok_Kind_names (P := P) (w := w) (base := base) fr trivial (c.def_ 45 rfl)
    exact ⟨_, fd, _, a, He.cls_ok (c.fact 71 (f := .cls "Kind") rfl), He.meth_ok (c.fact 81 (f := .meth "Kind" "names") rfl), b⟩
  have d_Kind__row : MethOk P w K mg base 3 "Kind" "_row" (spF K 2 F_Kind__row) := by
    obtain ⟨fd, a, b⟩ := ok_Kind__row (P := P) (w := w) (base := base) fr ⟨d_Kind___contains__, x_NoMethod⟩ (c.def_ 50 rfl)
    exact ⟨_, fd, _, a, He.cls_ok (c.fact 71 (f := .cls "Kind") rfl), He.meth_ok (c.fact 82 (f := .meth "Kind" "_row") rfl), b⟩
  have d__is_answer := ok__is_answer (P := P) (w := w) (base := base) fr ⟨d_is_below, d_is_row⟩ (c.def_ 13 rfl) (He.glo_ok hX hG (c.fact 13 (f := .glo "_is_answer") rfl))
  have d__kept_answers := ok__kept_answers (P := P) (w := w) (base := base) fr trivial (c.def_ 15 rfl) (He.glo_ok hX hG (c.fact 15 (f := .glo "_kept_answers") rfl))
  have d__law_pool := ok__law_pool (P := P) (w := w) (base := base) fr trivial (c.def_ 16 rfl) (He.glo_ok hX hG (c.fact 16 (f := .glo "_law_pool") rfl))
  have d__law_draw := ok__law_draw (P := P) (w := w) (base := base) fr trivial (c.def_ 17 rfl) (He.glo_ok hX hG (c.fact 17 (f := .glo "_law_draw") rfl))
  have d__law_names := ok__law_names (P := P) (w := w) (base := base) fr ⟨d__law_draw⟩ (c.def_ 18 rfl) (He.glo_ok hX hG (c.fact 18 (f := .glo "_law_names") rfl))
  have d__law_answers := ok__law_answers (P := P) (w := w) (base := base) fr ⟨d__law_draw⟩ (c.def_ 19 rfl) (He.glo_ok hX hG (c.fact 19 (f := .glo "_law_answers") rfl))
  have d__law_method := ok__law_method (P := P) (w := w) (base := base) fr ⟨d__law_answers, d__law_draw⟩ (c.def_ 20 rfl) (He.glo_ok hX hG (c.fact 20 (f := .glo "_law_method") rfl))
  have d__law_model := ok__law_model (P := P) (w := w) (base := base) fr ⟨d__law_draw, d__law_method, d__law_names⟩ (c.def_ 21 rfl) (He.glo_ok hX hG (c.fact 21 (f := .glo "_law_model") rfl))
  have d__law_copied := ok__law_copied (P := P) (w := w) (base := base) fr trivial (c.def_ 22 rfl) (He.glo_ok hX hG (c.fact 22 (f := .glo "_law_copied") rfl))
  have d__law_same := ok__law_same (P := P) (w := w) (base := base) fr trivial (c.def_ 24 rfl) (He.glo_ok hX hG (c.fact 24 (f := .glo "_law_same") rfl))
  have d__law_due := ok__law_due (P := P) (w := w) (base := base) fr trivial (c.def_ 25 rfl) (He.glo_ok hX hG (c.fact 25 (f := .glo "_law_due") rfl))
  have d_Contract___eq__ : MethOk P w K mg base 2 "Contract" "__eq__" (spF K 2 F_Contract___eq__) := by
    obtain ⟨fd, a, b⟩ := ok_Contract___eq__ (P := P) (w := w) (base := base) fr ⟨d_Kind___eq__⟩ (c.def_ 37 rfl)
    exact ⟨_, fd, _, a, He.cls_ok (c.fact 70 (f := .cls "Contract") rfl), He.meth_ok (c.fact 83 (f := .meth "Contract" "__eq__") rfl), b⟩
  have d_Contract_methods : MethOk P w K mg base 5 "Contract" "methods" (spF K 3 F_Contract_methods) := by
    obtain ⟨fd, a, b⟩ := ok_Contract_methods (P := P) (w := w) (base := base) fr ⟨d_Contract__check, d_Kind_names⟩ (c.def_ 38 rfl)
    exact ⟨_, fd, _, a, He.cls_ok (c.fact 70 (f := .cls "Contract") rfl), He.meth_ok (c.fact 84 (f := .meth "Contract" "methods") rfl), b⟩
  have d_Kind_results : MethOk P w K mg base 4 "Kind" "results" (spF K 2 F_Kind_results) := by
    obtain ⟨fd, a, b⟩ := ok_Kind_results (P := P) (w := w) (base := base) fr ⟨d_Kind__row⟩ (c.def_ 47 rfl)
    exact ⟨_, fd, _, a, He.cls_ok (c.fact 71 (f := .cls "Kind") rfl), He.meth_ok (c.fact 85 (f := .meth "Kind" "results") rfl), b⟩
  have d__are_answers := ok__are_answers (P := P) (w := w) (base := base) fr ⟨d__is_answer, d_is_row⟩ (c.def_ 12 rfl) (He.glo_ok hX hG (c.fact 12 (f := .glo "_are_answers") rfl))
  have d__kept_method := ok__kept_method (P := P) (w := w) (base := base) fr ⟨d__kept_answers⟩ (c.def_ 14 rfl) (He.glo_ok hX hG (c.fact 14 (f := .glo "_kept_method") rfl))
  have d__is_rule := ok__is_rule (P := P) (w := w) (base := base) fr ⟨d_is_below, d_is_row, d_Kind___contains__, d_Kind_results⟩ (c.def_ 8 rfl) (He.glo_ok hX hG (c.fact 8 (f := .glo "_is_rule") rfl))
  have d__is_state_row := ok__is_state_row (P := P) (w := w) (base := base) fr ⟨d__are_answers, d_is_row⟩ (c.def_ 11 rfl) (He.glo_ok hX hG (c.fact 11 (f := .glo "_is_state_row") rfl))
  have d_Contract___init__ := ok_Contract___init__ (P := P) (w := w) (base := base) fr ⟨d__is_rule, d_is_row, x_BadContract⟩ (c.def_ 36 rfl) (He.glo_ok hX hG (c.fact 47 (f := .glo "Contract") rfl)) (He.mkr_ok (c.fact 86 (f := .mkr "Contract") rfl))
  have d_only := ok_only (P := P) (w := w) (base := base) fr ⟨d_is_row, d_Contract___init__, d_Kind___contains__, d_Kind_results, x_BadContract⟩ (c.def_ 7 rfl) (He.glo_ok hX hG (c.fact 7 (f := .glo "only") rfl))
  have d__is_method := ok__is_method (P := P) (w := w) (base := base) fr ⟨d__is_state_row, d_is_between, d_is_row⟩ (c.def_ 10 rfl) (He.glo_ok hX hG (c.fact 10 (f := .glo "_is_method") rfl))
  have d__law_right := ok__law_right (P := P) (w := w) (base := base) fr ⟨(d__law_same 9), d_Contract___init__, d_Contract___eq__, d_Contract_methods, d_Kind___eq__⟩ (c.def_ 27 rfl) (He.glo_ok hX hG (c.fact 27 (f := .glo "_law_right") rfl))
  have d_free := ok_free (P := P) (w := w) (base := base) fr ⟨d_check_sides, d_Kind_names, d_only⟩ (c.def_ 6 rfl) (He.glo_ok hX hG (c.fact 6 (f := .glo "free") rfl))
  have d__are_methods := ok__are_methods (P := P) (w := w) (base := base) fr ⟨d__is_method, d_is_name⟩ (c.def_ 9 rfl) (He.glo_ok hX hG (c.fact 9 (f := .glo "_are_methods") rfl))
  have d__law_asked := ok__law_asked (P := P) (w := w) (base := base) fr ⟨d_free, d_only⟩ (c.def_ 26 rfl) (He.glo_ok hX hG (c.fact 26 (f := .glo "_law_asked") rfl))
  have d_Kind___init__ := ok_Kind___init__ (P := P) (w := w) (base := base) fr ⟨d__are_methods, d__kept_method, d_is_below, d_is_between, x_BadKind⟩ (c.def_ 42 rfl) (He.glo_ok hX hG (c.fact 48 (f := .glo "Kind") rfl)) (He.mkr_ok (c.fact 87 (f := .mkr "Kind") rfl))
  have d__law_kind := ok__law_kind (P := P) (w := w) (base := base) fr ⟨(d__law_copied 9), d_Kind___init__⟩ (c.def_ 23 rfl) (He.glo_ok hX hG (c.fact 23 (f := .glo "_law_kind") rfl))
  exact ok_law (P := P) (w := w) (base := base) fr ⟨d__law_asked, (d__law_copied 9), d__law_draw, d__law_due, d__law_kind, d__law_model, d__law_pool, d__law_right, (d__law_same 9)⟩ F0
theorem closed {P : Program} {w : World} {K : PySem.W.Frag} {mg : Str → Option Value} {base : Heap} {k : Nat} {f : Addr} {fd : FuncData} {ps : List Str} {sp : Sp} (F : FnOk P w K mg base (L2.CX P w) k f fd ps sp) : FnOk P w K mg base CX0 k f fd ps (fun vs H Q _ => sp vs H Q fun _ _ _ => False) :=
  ⟨fun vs H Q E h => F.len vs H Q _ h, fun A outer s H args us vs Q E hr e0 hb rv hs => codeAny_mono (F.run A outer s H args us vs Q _ hr e0 hb rv hs) fun r s' h => by
    cases r with
    | ok fl => cases fl <;> exact h
    | error e =>
      obtain ⟨_, _, _, _, _, _, _, _, _, _, _, _, z⟩ := (h)
      exact z.elim⟩
end A
open PySem PySem.Calls PySem.W PyProof.Rows
theorem holds_of (math : ∀ ns : List Int, ns.length ≤ 63 → G.F_law [.kl (ns.map .int)] = some (.v (.bl true) false)) : PySem.Challenge.rw_towerup_k27_free_and_only.Holds := by
  w_on; o_law
  refine HandSHeadRun.head_any (r := OpenLaw.row PySem.Challenge.rw_towerup_k27_free_and_only) (q := view (OpenLaw.row PySem.Challenge.rw_towerup_k27_free_and_only).prog [54]) (H := A.hk0) (ob := A.ob) (M := 8000) (loose := A.lo) (d := HandSHeadRun.topDef (OpenLaw.row PySem.Challenge.rw_towerup_k27_free_and_only).prog 54) (kwd := []) A.ob_eq
    (by kernel_rfl) (fun s => by kernel_rfl) A.run (by kernel_rfl) (by kernel_rfl) (by kernel_rfl) (by rfl) (by first | assumption | decide +kernel) (by decide +kernel) ⟨rfl, rfl, rfl, rfl, rfl, by decide +kernel⟩ ?hw ?hc
  case hw => w_witness2
  case hc =>
    refine L2.walk_ofE (l := PySem.Challenge.rw_towerup_k27_free_and_only) (n := 63) (k := 12) (x := "script") (CX := L2.CX0) rfl (by decide) (by kernel_rfl) ⟨rfl, by decide, by decide⟩ ?F (fun _ _ _ _ z => z)
    intro w mg fa h Y hG hmg0
    obtain ⟨K, hX, c, hk⟩ := Y
    have hmg : (mg ("law" : PySem.Str)) = some (.ref fa) := by
      have e : (HandSHeadRun.topDef (OpenLaw.row PySem.Challenge.rw_towerup_k27_free_and_only).prog 54).name = ("law" : PySem.Str) := by kernel_rfl
      rw [← e]
      exact hmg0
    have e := hmg.symm.trans (He.glo_ok hX hG (c.fact 28 (f := .glo "law") rfl))
    cases e
    obtain ⟨fd, F0⟩ : ∃ fd, L2.FunD K "law" "law" (L2.defArgs (G.tp 54)) (L2.defBody (G.tp 54)) (L2.defScope (G.tp 54)) [] [] (He.ga K "law") fd := c.def_ 28 rfl
    refine ⟨K, fd, fun vs H Q _ => L2.TT.spF K 1 G.F_law vs H Q fun _ _ _ => False, hX, G.binds_law F0, fun H a ns hl _ hS => ?_, fun base _ _ => A.closed (A.law_ok hX hG c hk F0)⟩
    refine ⟨H, [.kl (ns.map .int)], _, fun _ _ z => z, .one (.kl hS (L2.TT.reps_ints ns)), rfl, math ns hl, fun v B' H' _ r => ?_⟩
    cases r
    rfl


set_option Elab.async false
set_option linter.all false
set_option maxRecDepth 100000
set_option maxHeartbeats 4000001
namespace G
open PySem PySem.Spec PyProof.Rows L2 L2.TT
def c_is_integer_0 : M Fl := (retM (asV (andV (op1 (isI "int") (pk 0)) (notV (op1 (isI "bool") (pk 0))))))
theorem e_is_integer : m_is_integer = c_is_integer_0 := rfl
def c_is_between_0 : M Fl := (retM (asV (andV (frz (callM 1 F_is_integer (cnsM (gv 0) (ret [])))) (chV leD leD (gv 1) (gv 0) (gv 2)))))
theorem e_is_between : m_is_between = c_is_between_0 := rfl
def c_is_below_0 : M Fl := (retM (callM 3 F_is_between (cnsM (gv 0) (cnsM (ret (.int 0)) (cnsM (op2 subI (gv 1) (ret (.int 1))) (ret []))))))
theorem e_is_below : m_is_below = c_is_below_0 := rfl
def c_is_row_0 : M Fl := (retM (asV (andV (op1 (isI2 "list" "tuple") (pk 0)) (chV leD leD (gv 1) (op1 lenD (pk 0)) (gv 2)))))
theorem e_is_row : m_is_row = c_is_row_0 := rfl
def c_is_name_1 : M Fl := (retM (asV (op1 allD (frz (compM [1] (itM (gv 0)) (fun d => stS 1 d false) (ret true) (chV leD leD (ret (.str ("a" : PySem.Str))) (gv 1) (ret (.str ("z" : PySem.Str)))))))))
def c_is_name_0 : M Fl := (seqM (ifM (orM (notM (tv (op1 (isI "str") (pk 0)))) (notM (chT leD leD (ret (.int 1)) (op1 lenD (pk 0)) (ret (.int 8))))) (retM (asV (ret (.bl false)))) (ret .nx)) c_is_name_1)
theorem e_is_name : m_is_name = c_is_name_0 := rfl
def c_check_sides_0 : M Fl := (ifM (notM (tv (frz (callM 3 F_is_between (cnsM (gv 0) (cnsM (ret (.int 1)) (cnsM (ret (.int 3)) (ret [])))))))) (raise0M "BadSides") (ret .nx))
theorem e_check_sides : m_check_sides = c_check_sides_0 := rfl
def c_Contract_rules_0 : M Fl := (retM (compM [1] (itM (op1 (fldD "Contract" "_rules") (pk 0))) (fun d => stS 1 d false) (ret true) (frz (dcM [2] (itM (gv 1)) (fun d => stS 2 d false) (ret true) (gv 2) (op2v ixD 1 (gv 2))))))
theorem e_Contract_rules : m_Contract_rules = c_Contract_rules_0 := rfl
def c_Contract__check_1 : M Fl := (ifM (notM (tv (frz (callM 2 F_is_below (cnsM (gv 2) (cnsM (ret (.int 16)) (ret []))))))) (raiseM "NoMode" "mode" (gv 2)) (ret .nx))
def c_Contract__check_0 : M Fl := (seqM (ifM (notM (tv (frz (callM 2 F_is_below (cnsM (gv 1) (cnsM (op1 (fldD "Contract" "sides") (pk 0)) (ret []))))))) (raiseM "NoSide" "side" (gv 1)) (ret .nx)) c_Contract__check_1)
theorem e_Contract__check : m_Contract__check = c_Contract__check_0 := rfl
def c_Kind___eq___0 : M Fl := (retM (asV (andV (op1 (isO "Kind") (pk 1)) (andV (op2 eqD (op1 (fldD "Kind" "states") (pk 0)) (op1 (fldD "Kind" "states") (pk 1))) (andV (op2 eqD (op1 (fldD "Kind" "start") (pk 0)) (op1 (fldD "Kind" "start") (pk 1))) (op2 eqS (op1 (fldD "Kind" "_table") (pk 0)) (op1 (fldD "Kind" "_table") (pk 1))))))))
theorem e_Kind___eq__ : m_Kind___eq__ = c_Kind___eq___0 := rfl
def c_Kind___contains___0 : M Fl := (retM (asV (andV (op1 (isI "str") (pk 1)) (op2 inKD (gv 1) (op1 (fldD "Kind" "_table") (pk 0))))))
theorem e_Kind___contains__ : m_Kind___contains__ = c_Kind___contains___0 := rfl
def c_Kind_names_0 : M Fl := (retM (op1n sortXL (op1 (fldD "Kind" "_table") (pk 0))))
theorem e_Kind_names : m_Kind_names = c_Kind_names_0 := rfl
def c_Kind__row_1 : M Fl := (retM (asV (op2 ixD (op1 (fldD "Kind" "_table") (pk 0)) (gv 1))))
def c_Kind__row_0 : M Fl := (seqM (ifM (tv (inOwnM "Kind" not F_Kind___contains__ (gv 1) (gv 0))) (raiseM "NoMethod" "method" (gv 1)) (ret .nx)) c_Kind__row_1)
theorem e_Kind__row : m_Kind__row = c_Kind__row_0 := rfl
def c__is_answer_0 : M Fl := (retM (asV (andV (frz (callM 3 F_is_row (cnsM (gv 2) (cnsM (ret (.int 2)) (cnsM (ret (.int 2)) (ret [])))))) (andV (frz (callM 2 F_is_below (cnsM (op2v ixD 2 (ret (.int 0))) (cnsM (gv 1) (ret []))))) (frz (callM 2 F_is_below (cnsM (op2v ixD 2 (ret (.int 1))) (cnsM (gv 0) (ret [])))))))))
theorem e__is_answer : m__is_answer = c__is_answer_0 := rfl
def c__kept_answers_0 : M Fl := (retM (asV (op1 tupD (frz (op1n sortL (frz (compM [1] (itM (gv 0)) (fun d => stS 1 d false) (ret true) (op1 tupD (gv 1)))))))))
theorem e__kept_answers : m__kept_answers = c__kept_answers_0 := rfl
def c__law_pool_2 : M Fl := (setM 1 (asV (op2 modI (op1 intXD (op2 addD (op2 addD (op2 timD (gv 1) (ret (.int 47))) (gv 2)) (ret (.int 11)))) (ret (.int 2147483629)))))
def c__law_pool_3 : M Fl := (retM (lstM (cnsM (frz (op1n listD (frz (slcXM (gv 0) (ret none) (partM (ret (.int 63))))))) (cnsM (ret (.int 0)) (cnsM (ret (.int 0)) (cnsM (ret (.int 0)) (cnsM (gv 1) (ret []))))))))
def c__law_pool_1 : M Fl := (seqM (bd (itM (frz (slcXM (gv 0) (ret none) (partM (ret (.int 63)))))) (forM (fun d => stS 2 d false) c__law_pool_2)) c__law_pool_3)
def c__law_pool_0 : M Fl := (seqM (setM 1 (asV (ret (.int 29)))) c__law_pool_1)
theorem e__law_pool : m__law_pool = c__law_pool_0 := rfl
def c__law_draw_4 : M Fl := (ifM (tv (op2 geD (gv 3) (op2 powI (ret (.int 10)) (ret (.int 18))))) (setIxM 0 (gv 3) (ret (.int 2))) (setIxM 0 (op2 modI (op1 intXD (op2 addD (op2 addD (op2 timD (op2v ixD 0 (ret (.int 4))) (ret (.int 41))) (gv 3)) (ret (.int 5417)))) (ret (.int 2147483629))) (ret (.int 4))))
def c__law_draw_3 : M Fl := (seqM (setIxM 0 (op2 addD (op2v ixD 0 (ret (.int 1))) (ret (.int 1))) (ret (.int 1))) c__law_draw_4)
def c__law_draw_2 : M Fl := (seqM (setM 3 (asV (op2 ixD (op2v ixD 0 (ret (.int 0))) (op2v ixD 0 (ret (.int 1)))))) c__law_draw_3)
def c__law_draw_8 : M Fl := (rtv 4)
def c__law_draw_7 : M Fl := (seqM (setIxM 0 (op2 divI (op2v ixD 0 (ret (.int 2))) (gv 1)) (ret (.int 2))) c__law_draw_8)
def c__law_draw_6 : M Fl := (seqM (setM 4 (asV (op2 modI (op1 intXD (op2v ixD 0 (ret (.int 2)))) (gv 1)))) c__law_draw_7)
def c__law_draw_12 : M Fl := (retM (asV (op2 modI (op1 intXD (op2 divI (gv 2) (ret (.int 32)))) (gv 1))))
def c__law_draw_11 : M Fl := (seqM (setM 2 (asV (op2 modI (op1 intXD (op2 timD (gv 2) (op2 addD (op2 divI (gv 2) (ret (.int 2029))) (ret (.int 48271))))) (ret (.int 2147483399))))) c__law_draw_12)
def c__law_draw_10 : M Fl := (seqM (setM 2 (asV (op2 modI (op1 intXD (op2 timD (gv 2) (op2 addD (op2 divI (gv 2) (ret (.int 1021))) (ret (.int 69621))))) (ret (.int 2147483647))))) c__law_draw_11)
def c__law_draw_9 : M Fl := (seqM (setM 2 (asV (op2 modI (op1 intXD (op2 addD (op2 addD (op2 timD (op2v ixD 0 (ret (.int 4))) (ret (.int 40014))) (op2 timD (op2v ixD 0 (ret (.int 3))) (ret (.int 119267)))) (ret (.int 7817)))) (ret (.int 2147483647))))) c__law_draw_10)
def c__law_draw_5 : M Fl := (seqM (ifM (tv (op2 gtD (op2v ixD 0 (ret (.int 2))) (ret (.int 0)))) c__law_draw_6 (ret .nx)) c__law_draw_9)
def c__law_draw_1 : M Fl := (seqM (ifM (andM (tv (op2 eqD (op2v ixD 0 (ret (.int 2))) (ret (.int 0)))) (tv (op2 ltD (op2v ixD 0 (ret (.int 1))) (op1 lenD (op2v ixD 0 (ret (.int 0))))))) c__law_draw_2 (ret .nx)) c__law_draw_5)
def c__law_draw_0 : M Fl := (seqM (setIxM 0 (op2 addD (op2v ixD 0 (ret (.int 3))) (ret (.int 1))) (ret (.int 3))) c__law_draw_1)
theorem e__law_draw : m__law_draw = c__law_draw_0 := rfl
def c__law_names_6 : M Fl := (exprM (tyM "list" 3 (ownM 3 appD (cnsM (gv 6) (ret [])))))
def c__law_names_5 : M Fl := (seqM (ifM (tv (op2 inD (gv 6) (pk 3))) (setM 6 (asV (op2 ixD (frz (compM [8] (itM (gv 2)) (fun d => stS 8 d false) (tv (op2 niD (gv 8) (pk 3))) (gv 8))) (ret (.int 0))))) (ret .nx)) c__law_names_6)
def c__law_names_4 : M Fl := (seqM (setM 6 (asV (joinM (ret (.str ("" : PySem.Str))) (frz (compM [7] (rng1 (gv 5)) (fun d => stS 7 d false) (ret true) (op2v ixD 2 (frz (callPM 0 1 F__law_draw (cnsM (ret (.int 26)) (ret [])))))))))) c__law_names_5)
def c__law_names_3 : M Fl := (seqM (setM 5 (pickM (cnsV (asV (ret (.int 1))) (cnsV (asV (ret (.int 2))) (cnsV (asV (ret (.int 3))) (cnsV (asV (ret (.int 8))) (ret []))))) (frz (callPM 0 1 F__law_draw (cnsM (ret (.int 4)) (ret [])))))) c__law_names_4)
def c__law_names_7 : M Fl := (rtv 3)
def c__law_names_2 : M Fl := (seqM (bd (rng1 (gv 1)) (forM (fun d => stS 4 d false) c__law_names_3)) c__law_names_7)
def c__law_names_1 : M Fl := (seqM (setM 3 (lstM (ret []))) c__law_names_2)
def c__law_names_0 : M Fl := (seqM (setM 2 (asV (ret (.str ("abcdefghijklmnopqrstuvwxyz" : PySem.Str))))) c__law_names_1)
theorem e__law_names : m__law_names = c__law_names_0 := rfl
def c__law_answers_4 : M Fl := (ifM (tv (op2 niD (gv 7) (pk 5))) (exprM (tyM "list" 5 (ownM 5 appD (cnsM (gv 7) (ret []))))) (ret .nx))
def c__law_answers_3 : M Fl := (seqM (setM 7 (asV (tupM (cnsM (frz (callPM 0 1 F__law_draw (cnsM (gv 2) (ret [])))) (cnsM (frz (callPM 0 1 F__law_draw (cnsM (gv 1) (ret [])))) (ret [])))))) c__law_answers_4)
def c__law_answers_5 : M Fl := (retM (op1n sortL (pk 5)))
def c__law_answers_2 : M Fl := (seqM (bd (rng1 (max2M (cnsM (gv 4) (cnsM (op1 intXD (pk 3)) (ret []))))) (forM (fun d => stS 6 d false) c__law_answers_3)) c__law_answers_5)
def c__law_answers_1 : M Fl := (seqM (setM 5 (lstM (ret []))) c__law_answers_2)
def c__law_answers_0 : M Fl := (seqM (setM 4 (pickM (cnsV (asV (ret (.int 1))) (cnsV (asV (ret (.int 1))) (cnsV (asV (ret (.int 1))) (cnsV (asV (ret (.int 1))) (cnsV (asV (ret (.int 2))) (cnsV (asV (ret (.int 3))) (cnsV (asV (ret (.int 8))) (cnsV (asV (ret (.int 0))) (ret []))))))))) (frz (callPM 0 1 F__law_draw (cnsM (ret (.int 8)) (ret [])))))) c__law_answers_1)
theorem e__law_answers : m__law_answers = c__law_answers_0 := rfl
def c__law_method_4 : M Fl := (exprM (tyM "list" 5 (ownM 5 appD (cnsM (frz (compM [7] (rng1 (gv 3)) (fun d => stS 7 d false) (ret true) (frz (callPM 0 3 F__law_answers (cnsM (gv 1) (cnsM (gv 4) (cnsM (gv 2) (ret [])))))))) (ret [])))))
def c__law_method_5 : M Fl := (retM (asV (tupM (cnsM (gv 3) (cnsM (gv 4) (cnsM (gv 5) (ret [])))))))
def c__law_method_3 : M Fl := (seqM (bd (rng1 (gv 1)) (forM (fun d => stS 6 d false) c__law_method_4)) c__law_method_5)
def c__law_method_2 : M Fl := (seqM (setM 5 (lstM (ret []))) c__law_method_3)
def c__law_method_1 : M Fl := (seqM (setM 4 (pickM (cnsV (asV (ret (.int 1))) (cnsV (asV (ret (.int 2))) (cnsV (asV (ret (.int 2))) (cnsV (asV (ret (.int 3))) (cnsV (asV (ret (.int 4))) (ret [])))))) (frz (callPM 0 1 F__law_draw (cnsM (ret (.int 5)) (ret [])))))) c__law_method_2)
def c__law_method_0 : M Fl := (seqM (setM 3 (pickM (cnsV (asV (ret (.int 1))) (cnsV (asV (ret (.int 1))) (cnsV (asV (ret (.int 2))) (cnsV (asV (ret (.int 3))) (cnsV (asV (ret (.int 4))) (ret [])))))) (frz (callPM 0 1 F__law_draw (cnsM (ret (.int 5)) (ret [])))))) c__law_method_1)
theorem e__law_method : m__law_method = c__law_method_0 := rfl
def c__law_model_3 : M Fl := (setIxM 4 (frz (callPM 0 2 F__law_method (cnsM (gv 3) (cnsM (gv 1) (ret []))))) (gv 5))
def c__law_model_4 : M Fl := (retM (lstM (cnsM (gv 3) (cnsM (frz (callPM 0 1 F__law_draw (cnsM (gv 3) (ret [])))) (cnsM (gv 4) (ret []))))))
def c__law_model_2 : M Fl := (seqM (bd (itM (frz (callPM 0 1 F__law_names (cnsM (op2 addD (ret (.int 1)) (frz (callPM 0 1 F__law_draw (cnsM (gv 2) (ret []))))) (ret []))))) (forM (fun d => stS 5 d false) c__law_model_3)) c__law_model_4)
def c__law_model_1 : M Fl := (seqM (setM 4 (ret (.dic [] [], true))) c__law_model_2)
def c__law_model_0 : M Fl := (seqM (setM 3 (pickM (cnsV (asV (ret (.int 1))) (cnsV (asV (ret (.int 2))) (cnsV (asV (ret (.int 2))) (cnsV (asV (ret (.int 3))) (cnsV (asV (ret (.int 4))) (cnsV (asV (ret (.int 8))) (ret []))))))) (frz (callPM 0 1 F__law_draw (cnsM (ret (.int 6)) (ret [])))))) c__law_model_1)
theorem e__law_model : m__law_model = c__law_model_0 := rfl
def c__law_copied_3 (rec : List D → Option Out) : M Fl := (setIxM 1 (frz (callM 1 rec (cnsM (op2v ixD 0 (gv 2)) (ret [])))) (gv 2))
def c__law_copied_4 (rec : List D → Option Out) : M Fl := (rtv 1)
def c__law_copied_2 (rec : List D → Option Out) : M Fl := (seqM (bd (itM (gv 0)) (forM (fun d => stS 2 d false) (c__law_copied_3 rec))) (c__law_copied_4 rec))
def c__law_copied_1 (rec : List D → Option Out) : M Fl := (seqM (setM 1 (ret (.dic [] [], true))) (c__law_copied_2 rec))
def c__law_copied_7 (rec : List D → Option Out) : M Fl := (rtv 0)
def c__law_copied_6 (rec : List D → Option Out) : M Fl := (seqM (ifM (tv (op1 (isI "tuple") (pk 0))) (retM (asV (op1 tupD (frz (compM [3] (itM (gv 0)) (fun d => stS 3 d false) (ret true) (frz (callM 1 rec (cnsM (gv 3) (ret []))))))))) (ret .nx)) (c__law_copied_7 rec))
def c__law_copied_5 (rec : List D → Option Out) : M Fl := (seqM (ifM (tv (op1 (isI "list") (pk 0))) (retM (compM [3] (itM (gv 0)) (fun d => stS 3 d false) (ret true) (frz (callM 1 rec (cnsM (gv 3) (ret [])))))) (ret .nx)) (c__law_copied_6 rec))
def c__law_copied_0 (rec : List D → Option Out) : M Fl := (seqM (ifM (tv (op1 (isI "dict") (pk 0))) (c__law_copied_1 rec) (ret .nx)) (c__law_copied_5 rec))
theorem e__law_copied (rec : List D → Option Out) : m__law_copied rec = c__law_copied_0 rec := rfl
def c__law_same_6 (rec : List D → Option Out) : M Fl := (retM (asV (op2 eqD (op1 lenD (frz (compM [2] (rng1 (op1 lenD (pk 1))) (fun d => stS 2 d false) (notM (tv (frz (callM 2 rec (cnsM (op2v ixD 0 (gv 2)) (cnsM (op2v ixD 1 (gv 2)) (ret []))))))) (gv 2)))) (ret (.int 0)))))
def c__law_same_5 (rec : List D → Option Out) : M Fl := (seqM (ifM (tv (op2 neD (op1 lenD (pk 0)) (op1 lenD (pk 1)))) (retM (asV (ret (.bl false)))) (ret .nx)) (c__law_same_6 rec))
def c__law_same_4 (rec : List D → Option Out) : M Fl := (seqM (ifM (orM (tv (op2 neD (op1 (isI "list") (pk 1)) (op1 (isI "list") (pk 0)))) (notM (tv (op1 (isI2 "list" "tuple") (pk 0))))) (retM (asV (ret (.bl false)))) (ret .nx)) (c__law_same_5 rec))
def c__law_same_3 (rec : List D → Option Out) : M Fl := (seqM (ifM (tv (op1 (isI "str") (pk 1))) (retM (asV (andV (op1 (isI "str") (pk 0)) (op2 eqD (gv 0) (pk 1))))) (ret .nx)) (c__law_same_4 rec))
def c__law_same_2 (rec : List D → Option Out) : M Fl := (seqM (ifM (tv (op1 (isI "int") (pk 1))) (retM (asV (andV (op1 (isI "int") (pk 0)) (op2 eqD (gv 0) (pk 1))))) (ret .nx)) (c__law_same_3 rec))
def c__law_same_1 (rec : List D → Option Out) : M Fl := (seqM (ifM (orM (tv (op1 (isI "bool") (pk 1))) (tv (op1 (isI "bool") (pk 0)))) (retM (asV (andV (op1 (isI "bool") (pk 1)) (andV (op1 (isI "bool") (pk 0)) (op2 eqD (gv 0) (pk 1)))))) (ret .nx)) (c__law_same_2 rec))
def c__law_same_0 (rec : List D → Option Out) : M Fl := (seqM (ifM (tv (op1 isN (pk 1))) (retM (asV (op1 isN (pk 0)))) (ret .nx)) (c__law_same_1 rec))
theorem e__law_same (rec : List D → Option Out) : m__law_same rec = c__law_same_0 rec := rfl
def c__law_due_4 : M Fl := (setIxM 4 (op1 tupD (frz (compM [6] (rng1 (op2 ixD (op2 ixD (op2v ixD 0 (ret (.int 2))) (gv 5)) (ret (.int 1)))) (fun d => stS 6 d false) (ret true) (ret (.int 0))))) (tupM (cnsM (ret (.int 0)) (cnsM (gv 5) (ret [])))))
def c__law_due_5 : M Fl := (exprM (tyM "list" 2 (ownM 2 appD (cnsM (gv 4) (ret [])))))
def c__law_due_3 : M Fl := (seqM (bd (itM (gv 3)) (forM (fun d => stS 5 d false) c__law_due_4)) c__law_due_5)
def c__law_due_2 : M Fl := (seqM (setM 4 (ret (.dic [] [], true))) c__law_due_3)
def c__law_due_6 : M Fl := (rtv 2)
def c__law_due_1 : M Fl := (seqM (bd (itM (gv 1)) (forM (fun d => stS 3 d false) c__law_due_2)) c__law_due_6)
def c__law_due_0 : M Fl := (seqM (setM 2 (lstM (ret []))) c__law_due_1)
theorem e__law_due : m__law_due = c__law_due_0 := rfl
def c_Contract___eq___0 : M Fl := (retM (asV (andV (op1 (isO "Contract") (pk 1)) (andV (eqOwnM "Kind" F_Kind___eq__ (op1 (fldD "Contract" "kind") (pk 0)) (op1 (fldD "Contract" "kind") (pk 1))) (op2 eqS (op1 (fldD "Contract" "_rules") (pk 0)) (op1 (fldD "Contract" "_rules") (pk 1)))))))
theorem e_Contract___eq__ : m_Contract___eq__ = c_Contract___eq___0 := rfl
def c_Contract_methods_1 : M Fl := (retM (compM [3] (itM (frz (onM "Kind" "names" 0 F_Kind_names (op1 (fldD "Contract" "kind") (pk 0)) (ret [])))) (fun d => stS 3 d false) (tv (op2 inKD (tupM (cnsM (gv 2) (cnsM (gv 3) (ret [])))) (op2 ixD (op1 (fldD "Contract" "_rules") (pk 0)) (gv 1)))) (gv 3)))
def c_Contract_methods_0 : M Fl := (seqM (exprM (onM "Contract" "_check" 2 F_Contract__check (gv 0) (cnsM (gv 1) (cnsM (gv 2) (ret []))))) c_Contract_methods_1)
theorem e_Contract_methods : m_Contract_methods = c_Contract_methods_0 := rfl
def c_Kind_arguments_0 : M Fl := (retM (asV (op2 ixD (frz (onM "Kind" "_row" 1 F_Kind__row (gv 0) (cnsM (gv 1) (ret [])))) (ret (.int 0)))))
theorem e_Kind_arguments : m_Kind_arguments = c_Kind_arguments_0 := rfl
def c_Kind_results_0 : M Fl := (retM (asV (op2 ixD (frz (onM "Kind" "_row" 1 F_Kind__row (gv 0) (cnsM (gv 1) (ret [])))) (ret (.int 1)))))
theorem e_Kind_results : m_Kind_results = c_Kind_results_0 := rfl
def c_Kind_answers_3 : M Fl := (retM (asV (op2 ixD (op2v ixD 6 (gv 1)) (gv 3))))
def c_Kind_answers_2 : M Fl := (seqM (ifM (notM (tv (frz (callM 2 F_is_below (cnsM (gv 3) (cnsM (gv 4) (ret []))))))) (raiseM "NoArgument" "argument" (gv 3)) (ret .nx)) c_Kind_answers_3)
def c_Kind_answers_1 : M Fl := (seqM (asgM (frz (onM "Kind" "_row" 1 F_Kind__row (gv 0) (cnsM (gv 2) (ret [])))) (gtup 3 (gcons (fun d => stS 4 d false) (gcons (fun d => stS 5 d false) (gcons (fun d => stS 6 d false) gnil))))) c_Kind_answers_2)
def c_Kind_answers_0 : M Fl := (seqM (ifM (notM (tv (frz (callM 2 F_is_below (cnsM (gv 1) (cnsM (op1 (fldD "Kind" "states") (pk 0)) (ret []))))))) (raiseM "NoState" "state" (gv 1)) (ret .nx)) c_Kind_answers_1)
theorem e_Kind_answers : m_Kind_answers = c_Kind_answers_0 := rfl
def c__are_answers_2 : M Fl := (retM (asV (op2 eqD (lenSetM [3] (itM (gv 2)) (fun d => stS 3 d false) (op1 tupD (gv 3))) (op1 lenD (pk 2)))))
def c__are_answers_1 : M Fl := (seqM (ifM (notM (tv (op1 allD (frz (compM [3] (itM (gv 2)) (fun d => stS 3 d false) (ret true) (frz (callM 3 F__is_answer (cnsM (gv 0) (cnsM (gv 1) (cnsM (gv 3) (ret []))))))))))) (retM (asV (ret (.bl false)))) (ret .nx)) c__are_answers_2)
def c__are_answers_0 : M Fl := (seqM (ifM (notM (tv (frz (callM 3 F_is_row (cnsM (gv 2) (cnsM (ret (.int 0)) (cnsM (ret (.int 8)) (ret [])))))))) (retM (asV (ret (.bl false)))) (ret .nx)) c__are_answers_1)
theorem e__are_answers : m__are_answers = c__are_answers_0 := rfl
def c__kept_method_2 : M Fl := (retM (asV (tupM (cnsM (gv 2) (cnsM (gv 3) (cnsM (op1 tupD (gv 1)) (ret [])))))))
def c__kept_method_1 : M Fl := (seqM (setM 1 (compM [5] (itM (gv 4)) (fun d => stS 5 d false) (ret true) (op1 tupD (frz (compM [6] (itM (gv 5)) (fun d => stS 6 d false) (ret true) (frz (callM 1 F__kept_answers (cnsM (gv 6) (ret []))))))))) c__kept_method_2)
def c__kept_method_0 : M Fl := (seqM (asgM (gv 0) (gtup 3 (gcons (fun d => stS 2 d false) (gcons (fun d => stS 3 d false) (gcons (fun d => stS 4 d false) gnil))))) c__kept_method_1)
theorem e__kept_method : m__kept_method = c__kept_method_0 := rfl
def c__is_rule_3 : M Fl := (retM (asV (andV (frz (callM 3 F_is_row (cnsM (gv 2) (cnsM (gv 3) (cnsM (gv 3) (ret [])))))) (op1 allD (frz (compM [4] (itM (gv 2)) (fun d => stS 4 d false) (ret true) (frz (callM 2 F_is_below (cnsM (gv 4) (cnsM (ret (.int 16)) (ret [])))))))))))
def c__is_rule_2 : M Fl := (seqM (setM 3 (onM "Kind" "results" 1 F_Kind_results (gv 0) (cnsM (op2v ixD 1 (ret (.int 1))) (ret [])))) c__is_rule_3)
def c__is_rule_1 : M Fl := (seqM (ifM (orM (notM (tv (frz (callM 2 F_is_below (cnsM (op2v ixD 1 (ret (.int 0))) (cnsM (ret (.int 16)) (ret []))))))) (tv (inOwnM "Kind" not F_Kind___contains__ (op2v ixD 1 (ret (.int 1))) (gv 0)))) (retM (asV (ret (.bl false)))) (ret .nx)) c__is_rule_2)
def c__is_rule_0 : M Fl := (seqM (ifM (orM (notM (tv (op1 (isI "tuple") (pk 1)))) (tv (op2 neD (op1 lenD (pk 1)) (ret (.int 2))))) (retM (asV (ret (.bl false)))) (ret .nx)) c__is_rule_1)
theorem e__is_rule : m__is_rule = c__is_rule_0 := rfl
def c__is_state_row_1 : M Fl := (retM (asV (op1 allD (frz (compM [4] (itM (gv 3)) (fun d => stS 4 d false) (ret true) (frz (callM 3 F__are_answers (cnsM (gv 0) (cnsM (gv 2) (cnsM (gv 4) (ret [])))))))))))
def c__is_state_row_0 : M Fl := (seqM (ifM (notM (tv (frz (callM 3 F_is_row (cnsM (gv 3) (cnsM (gv 1) (cnsM (gv 1) (ret [])))))))) (retM (asV (ret (.bl false)))) (ret .nx)) c__is_state_row_1)
theorem e__is_state_row : m__is_state_row = c__is_state_row_0 := rfl
def c_Contract___init___2 : M Fl := (ifM (notM (tv (op1 allD (frz (compM [5, 6] (itemsM (gv 4)) (gtup 2 (gcons (fun d => stS 5 d false) (gcons (fun d => stS 6 d false) gnil))) (ret true) (frz (callM 3 F__is_rule (cnsM (gv 1) (cnsM (gv 5) (cnsM (gv 6) (ret []))))))))))) (raiseM "BadContract" "side" (gv 3)) (ret .nx))
def c_Contract___init___5 : M Fl := (setFM "Contract" "_rules" 0 (frz (compM [4] (itM (gv 2)) (fun d => stS 4 d false) (ret true) (frz (dcM [5] (itM (gv 4)) (fun d => stS 5 d false) (ret true) (gv 5) (op1 tupD (op2v ixD 4 (gv 5))))))))
def c_Contract___init___4 : M Fl := (seqM (setFM "Contract" "sides" 0 (op1 lenD (pk 2))) c_Contract___init___5)
def c_Contract___init___3 : M Fl := (seqM (setFM "Contract" "kind" 0 (gv 1)) c_Contract___init___4)
def c_Contract___init___1 : M Fl := (seqM (bd (enumM (gv 2)) (forM (gtup 2 (gcons (fun d => stS 3 d false) (gcons (fun d => stS 4 d false) gnil))) c_Contract___init___2)) c_Contract___init___3)
def c_Contract___init___0 : M Fl := (seqM (ifM (orM (notM (tv (frz (callM 3 F_is_row (cnsM (gv 2) (cnsM (ret (.int 1)) (cnsM (ret (.int 3)) (ret [])))))))) (notM (tv (op1 allD (frz (compM [4] (itM (gv 2)) (fun d => stS 4 d false) (ret true) (op1 (isI "dict") (pk 4)))))))) (raiseM "BadContract" "side" (op1 negI (ret (.int 1)))) (ret .nx)) c_Contract___init___1)
theorem e_Contract___init__ : m_Contract___init__ = c_Contract___init___0 := rfl
def c_only_2 : M Fl := (ifM (notM (tv (op1 allD (frz (compM [4] (itM (gv 3)) (fun d => stS 4 d false) (ret true) (inOwnM "Kind" id F_Kind___contains__ (gv 4) (gv 0))))))) (raiseM "BadContract" "side" (gv 2)) (ret .nx))
def c_only_3 : M Fl := (retM (makeM "Contract" 2 F_Contract___init__ (cnsM (gv 0) (cnsM (frz (compM [3] (itM (gv 1)) (fun d => stS 3 d false) (ret true) (frz (dcM [4] (itM (gv 3)) (fun d => stS 4 d false) (ret true) (tupM (cnsM (ret (.int 0)) (cnsM (gv 4) (ret [])))) (op2 timD (tupM (cnsM (ret (.int 0)) (ret []))) (frz (onM "Kind" "results" 1 F_Kind_results (gv 0) (cnsM (gv 4) (ret []))))))))) (ret [])))))
def c_only_1 : M Fl := (seqM (bd (enumM (gv 1)) (forM (gtup 2 (gcons (fun d => stS 2 d false) (gcons (fun d => stS 3 d false) gnil))) c_only_2)) c_only_3)
def c_only_0 : M Fl := (seqM (ifM (orM (notM (tv (frz (callM 3 F_is_row (cnsM (gv 1) (cnsM (ret (.int 1)) (cnsM (ret (.int 3)) (ret [])))))))) (notM (tv (op1 allD (frz (compM [3] (itM (gv 1)) (fun d => stS 3 d false) (ret true) (op1 (isI2 "list" "tuple") (pk 3)))))))) (raiseM "BadContract" "side" (op1 negI (ret (.int 1)))) (ret .nx)) c_only_1)
theorem e_only : m_only = c_only_0 := rfl
def c__is_method_4 : M Fl := (retM (asV (op1 allD (frz (compM [5] (itM (gv 4)) (fun d => stS 5 d false) (ret true) (frz (callM 4 F__is_state_row (cnsM (gv 0) (cnsM (gv 2) (cnsM (gv 3) (cnsM (gv 5) (ret []))))))))))))
def c__is_method_3 : M Fl := (seqM (ifM (notM (tv (frz (callM 3 F_is_row (cnsM (gv 4) (cnsM (gv 0) (cnsM (gv 0) (ret [])))))))) (retM (asV (ret (.bl false)))) (ret .nx)) c__is_method_4)
def c__is_method_2 : M Fl := (seqM (ifM (orM (notM (tv (frz (callM 3 F_is_between (cnsM (gv 2) (cnsM (ret (.int 1)) (cnsM (ret (.int 4)) (ret [])))))))) (notM (tv (frz (callM 3 F_is_between (cnsM (gv 3) (cnsM (ret (.int 1)) (cnsM (ret (.int 4)) (ret []))))))))) (retM (asV (ret (.bl false)))) (ret .nx)) c__is_method_3)
def c__is_method_1 : M Fl := (seqM (asgM (gv 1) (gtup 3 (gcons (fun d => stS 2 d false) (gcons (fun d => stS 3 d false) (gcons (fun d => stS 4 d false) gnil))))) c__is_method_2)
def c__is_method_0 : M Fl := (seqM (ifM (notM (tv (frz (callM 3 F_is_row (cnsM (gv 1) (cnsM (ret (.int 3)) (cnsM (ret (.int 3)) (ret [])))))))) (retM (asV (ret (.bl false)))) (ret .nx)) c__is_method_1)
theorem e__is_method : m__is_method = c__is_method_0 := rfl
def c__law_right_3 : M Fl := (ifM (orM (notM (tv (frz (callM 2 (F__law_same 9) (cnsM (frz (onM "Contract" "methods" 2 F_Contract_methods (op2v ixD 1 (ret (.int 1))) (cnsM (gv 3) (cnsM (ret (.int 0)) (ret []))))) (cnsM (gv 4) (ret []))))))) (notM (tv (frz (callM 2 (F__law_same 9) (cnsM (frz (onM "Contract" "methods" 2 F_Contract_methods (op2v ixD 1 (ret (.int 1))) (cnsM (gv 3) (cnsM (ret (.int 1)) (ret []))))) (cnsM (frz (lstM (ret []))) (ret [])))))))) (retM (asV (ret (.bl false)))) (ret .nx))
def c__law_right_2 : M Fl := (seqM (setM 4 (op1n sortL (frz (compM [5] (itM (op2v ixD 2 (gv 3))) (fun d => stS 5 d false) (ret true) (op2v ixD 5 (ret (.int 1))))))) c__law_right_3)
def c__law_right_4 : M Fl := (retM (asV (andV (op2 eqD (op1 (fldD "Contract" "sides") (op2v ixD 1 (ret (.int 1)))) (op1 lenD (pk 2))) (op2 isD (eqOwnM "Kind" F_Kind___eq__ (op1 (fldD "Contract" "kind") (op2v ixD 1 (ret (.int 1)))) (gv 0)) (ret (.bl true))))))
def c__law_right_1 : M Fl := (seqM (bd (rng1 (op1 lenD (pk 2))) (forM (fun d => stS 3 d false) c__law_right_2)) c__law_right_4)
def c__law_right_0 : M Fl := (seqM (ifM (orM (tv (op2 neD (op2v ixD 1 (ret (.int 0))) (ret (.str ("made" : PySem.Str))))) (tv (op2 isNotD (eqOwnM "Contract" F_Contract___eq__ (op2v ixD 1 (ret (.int 1))) (frz (makeM "Contract" 2 F_Contract___init__ (cnsM (gv 0) (cnsM (gv 2) (ret [])))))) (ret (.bl true))))) (retM (asV (ret (.bl false)))) (ret .nx)) c__law_right_1)
theorem e__law_right : m__law_right = c__law_right_0 := rfl
def c_free_1 : M Fl := (retM (callM 2 F_only (cnsM (gv 0) (cnsM (frz (repM (frz (lstM (cnsM (frz (onM "Kind" "names" 0 F_Kind_names (gv 0) (ret []))) (ret [])))) (gv 1))) (ret [])))))
def c_free_0 : M Fl := (seqM (exprM (callM 1 F_check_sides (cnsM (gv 1) (ret [])))) c_free_1)
theorem e_free : m_free = c_free_0 := rfl
def c__are_methods_1 : M Fl := (retM (asV (op1 allD (frz (compM [2, 3] (itemsM (gv 1)) (gtup 2 (gcons (fun d => stS 2 d false) (gcons (fun d => stS 3 d false) gnil))) (ret true) (andV (frz (callM 1 F_is_name (cnsM (gv 2) (ret [])))) (frz (callM 2 F__is_method (cnsM (gv 0) (cnsM (gv 3) (ret [])))))))))))
def c__are_methods_0 : M Fl := (seqM (ifM (orM (notM (tv (op1 (isI "dict") (pk 1)))) (notM (chT leD leD (ret (.int 1)) (op1 lenD (pk 1)) (ret (.int 4))))) (retM (asV (ret (.bl false)))) (ret .nx)) c__are_methods_1)
theorem e__are_methods : m__are_methods = c__are_methods_0 := rfl
def c__law_asked_1 : M Fl := (rtv 4)
def c__law_asked_0 : M Fl := (seqM (tryM exm (ifM (tv (op2 eqD (gv 1) (ret (.int 0)))) (setM 4 (lstM (cnsM (ret (.str ("made" : PySem.Str))) (cnsM (frz (callM 2 F_free (cnsM (gv 0) (cnsM (gv 2) (ret []))))) (ret []))))) (setM 4 (lstM (cnsM (ret (.str ("made" : PySem.Str))) (cnsM (frz (callM 2 F_only (cnsM (gv 0) (cnsM (gv 2) (ret []))))) (ret [])))))) (⟨"BadSides", none, (setM 4 (lstM (cnsM (ret (.str ("sides" : PySem.Str))) (cnsM (ret .non) (ret [])))))⟩ :: (⟨"BadContract", some 3, (setM 4 (lstM (cnsM (ret (.str ("contract" : PySem.Str))) (cnsM (xfM xok 3 "side") (ret [])))))⟩ :: (⟨"TowerError", none, (setM 4 (lstM (cnsM (ret (.str ("other" : PySem.Str))) (cnsM (ret .non) (ret [])))))⟩ :: [])))) c__law_asked_1)
theorem e__law_asked : m__law_asked = c__law_asked_0 := rfl
def c_Kind___init___5 : M Fl := (setFM "Kind" "_table" 0 (frz (dcM [4, 5] (itemsM (gv 3)) (gtup 2 (gcons (fun d => stS 4 d false) (gcons (fun d => stS 5 d false) gnil))) (ret true) (gv 4) (frz (callM 1 F__kept_method (cnsM (gv 5) (ret [])))))))
def c_Kind___init___4 : M Fl := (seqM (setFM "Kind" "start" 0 (gv 2)) c_Kind___init___5)
def c_Kind___init___3 : M Fl := (seqM (setFM "Kind" "states" 0 (gv 1)) c_Kind___init___4)
def c_Kind___init___2 : M Fl := (seqM (ifM (notM (tv (frz (callM 2 F__are_methods (cnsM (gv 1) (cnsM (gv 3) (ret []))))))) (raiseM "BadKind" "part" (ret (.str ("methods" : PySem.Str)))) (ret .nx)) c_Kind___init___3)
def c_Kind___init___1 : M Fl := (seqM (ifM (notM (tv (frz (callM 2 F_is_below (cnsM (gv 2) (cnsM (gv 1) (ret []))))))) (raiseM "BadKind" "part" (ret (.str ("start" : PySem.Str)))) (ret .nx)) c_Kind___init___2)
def c_Kind___init___0 : M Fl := (seqM (ifM (notM (tv (frz (callM 3 F_is_between (cnsM (gv 1) (cnsM (ret (.int 1)) (cnsM (ret (.int 8)) (ret [])))))))) (raiseM "BadKind" "part" (ret (.str ("states" : PySem.Str)))) (ret .nx)) c_Kind___init___1)
theorem e_Kind___init__ : m_Kind___init__ = c_Kind___init___0 := rfl
def c__law_kind_0 : M Fl := (retM (makeM "Kind" 3 F_Kind___init__ (cnsM (op2v ixD 0 (ret (.int 0))) (cnsM (op2v ixD 0 (ret (.int 1))) (cnsM (frz (callM 1 (F__law_copied 9) (cnsM (op2v ixD 0 (ret (.int 2))) (ret [])))) (ret []))))))
theorem e__law_kind : m__law_kind = c__law_kind_0 := rfl
def c_law_9 : M Fl := (exprM (tyM "list" 6 (ownM 6 appD (cnsM (frz (pickM (cnsV (asV (gv 12)) (cnsV (asV (op1 tupD (gv 12))) (ret []))) (frz (callPM 1 1 F__law_draw (cnsM (ret (.int 2)) (ret [])))))) (ret [])))))
def c_law_8 : M Fl := (seqM (setM 12 (compM [13] (rng1 (frz (callPM 1 1 F__law_draw (cnsM (ret (.int 6)) (ret []))))) (fun d => stS 13 d false) (ret true) (op2v ixD 4 (frz (callPM 1 1 F__law_draw (cnsM (op1 lenD (pk 4)) (ret []))))))) c_law_9)
def c_law_22 : M Fl := (retM (asV (op2 eqD (frz (callM 3 F__law_asked (cnsM (gv 3) (cnsM (ret (.int 1)) (cnsM (gv 11) (ret [])))))) (frz (lstM (cnsM (ret (.str ("contract" : PySem.Str))) (cnsM (op1 negI (ret (.int 1))) (ret []))))))))
def c_law_21 : M Fl := (seqM (setM 11 (pickM (cnsV (asV (ret .non)) (cnsV (lstM (ret [])) (cnsV (ret (.dic [] [], true)) (cnsV (catM (frz (catM (frz (catM (gv 6) (gv 6))) (gv 6))) (gv 6)) (cnsV (asV (ret (.str ("a" : PySem.Str)))) (cnsV (asV (ret (.int 0))) (cnsV (asV (gv 10)) (ret [])))))))) (frz (callPM 1 1 F__law_draw (cnsM (ret (.int 7)) (ret [])))))) c_law_22)
def c_law_20 : M Fl := (seqM (setIxM 10 (frz (pickM (cnsV (asV (ret .non)) (cnsV (asV (ret (.int 0))) (cnsV (ret (.dic [] [], true)) (cnsV (asV (ret (.str ("" : PySem.Str)))) (cnsV (asV (ret (.bl true))) (ret [])))))) (frz (callPM 1 1 F__law_draw (cnsM (ret (.int 5)) (ret [])))))) (frz (callPM 1 1 F__law_draw (cnsM (gv 5) (ret []))))) c_law_21)
def c_law_19 : M Fl := (seqM (ifM (tv (op2 neD (frz (callCM 3 F__law_asked [.inl 3, .inr 1, .inl 10])) (frz (lstM (cnsM (ret (.str ("contract" : PySem.Str))) (cnsM (gv 7) (ret []))))))) (retM (asV (ret (.bl false)))) (ret .nx)) c_law_20)
def c_law_18 : M Fl := (seqM (ifM (tv (op2 ltD (op2 addD (gv 7) (ret (.int 1))) (gv 5))) (setIxM 10 (frz (lstM (cnsM (ret .non) (ret [])))) (op2 subI (gv 5) (ret (.int 1)))) (ret .nx)) c_law_19)
def c_law_17 : M Fl := (seqM (setIxM 10 (frz (catM (frz (op1n listD (op2v ixD 6 (gv 7)))) (frz (lstM (cnsM (frz (pickM (cnsV (asV (ret (.str ("A" : PySem.Str)))) (cnsV (asV (ret (.str ("" : PySem.Str)))) (cnsV (asV (ret .non)) (cnsV (asV (ret (.int 0))) (cnsV (lstM (ret [])) (cnsV (ret (.dic [] [], true)) (cnsV (asV (tupM (cnsM (op2v ixD 4 (ret (.int 0))) (ret [])))) (ret [])))))))) (frz (callPM 1 1 F__law_draw (cnsM (ret (.int 7)) (ret [])))))) (ret [])))))) (gv 7)) c_law_18)
def c_law_16 : M Fl := (seqM (setM 10 (op1n listD (pk 6))) c_law_17)
def c_law_15 : M Fl := (seqM (setM 7 (callPM 1 1 F__law_draw (cnsM (gv 5) (ret [])))) c_law_16)
def c_law_14 : M Fl := (seqM (ifM (tv (op2 neD (frz (callM 3 F__law_asked (cnsM (gv 3) (cnsM (ret (.int 0)) (cnsM (gv 9) (ret [])))))) (frz (lstM (cnsM (ret (.str ("sides" : PySem.Str))) (cnsM (ret .non) (ret []))))))) (retM (asV (ret (.bl false)))) (ret .nx)) c_law_15)
def c_law_13 : M Fl := (seqM (setM 9 (pickM (cnsV (asV (ret (.int 0))) (cnsV (asV (ret (.int 4))) (cnsV (asV (op1 negI (ret (.int 1)))) (cnsV (asV (ret .non)) (cnsV (asV (ret (.bl true))) (cnsV (asV (ret (.str ("2" : PySem.Str)))) (cnsV (lstM (cnsM (ret (.int 1)) (ret []))) (cnsV (ret (.dic [] [], true)) (ret []))))))))) (frz (callPM 1 1 F__law_draw (cnsM (ret (.int 8)) (ret [])))))) c_law_14)
def c_law_12 : M Fl := (seqM (ifM (notM (tv (frz (callM 3 F__law_right (cnsM (gv 3) (cnsM (frz (callM 3 F__law_asked (cnsM (gv 3) (cnsM (ret (.int 1)) (cnsM (op1 tupD (gv 8)) (ret [])))))) (cnsM (frz (callM 2 F__law_due (cnsM (gv 2) (cnsM (gv 6) (ret []))))) (ret [])))))))) (retM (asV (ret (.bl false)))) (ret .nx)) c_law_13)
def c_law_11 : M Fl := (seqM (ifM (orM (notM (tv (frz (callM 3 F__law_right (cnsM (gv 3) (cnsM (frz (callM 3 F__law_asked (cnsM (gv 3) (cnsM (ret (.int 1)) (cnsM (gv 8) (ret [])))))) (cnsM (frz (callM 2 F__law_due (cnsM (gv 2) (cnsM (gv 6) (ret []))))) (ret [])))))))) (notM (tv (frz (callM 2 (F__law_same 9) (cnsM (gv 8) (cnsM (gv 6) (ret [])))))))) (retM (asV (ret (.bl false)))) (ret .nx)) c_law_12)
def c_law_10 : M Fl := (seqM (setM 8 (callM 1 (F__law_copied 9) (cnsM (gv 6) (ret [])))) c_law_11)
def c_law_7 : M Fl := (seqM (bd (rng1 (gv 5)) (forM (fun d => stS 7 d false) c_law_8)) c_law_10)
def c_law_6 : M Fl := (seqM (setM 6 (lstM (ret []))) c_law_7)
def c_law_5 : M Fl := (seqM (ifM (notM (tv (frz (callM 3 F__law_right (cnsM (gv 3) (cnsM (frz (callM 3 F__law_asked (cnsM (gv 3) (cnsM (ret (.int 0)) (cnsM (gv 5) (ret [])))))) (cnsM (frz (callM 2 F__law_due (cnsM (gv 2) (cnsM (frz (compM [7] (rng1 (gv 5)) (fun d => stS 7 d false) (ret true) (gv 4))) (ret []))))) (ret [])))))))) (retM (asV (ret (.bl false)))) (ret .nx)) c_law_6)
def c_law_4 : M Fl := (seqM (setM 5 (asV (op2 addD (ret (.int 1)) (frz (callPM 1 1 F__law_draw (cnsM (ret (.int 3)) (ret []))))))) c_law_5)
def c_law_3 : M Fl := (seqM (setM 4 (op1n sortL (frz (op1n listD (op2v ixD 2 (ret (.int 2))))))) c_law_4)
def c_law_2 : M Fl := (seqM (setM 3 (callM 1 F__law_kind (cnsM (gv 2) (ret [])))) c_law_3)
def c_law_1 : M Fl := (seqM (setM 2 (callPM 1 2 F__law_model (cnsM (ret (.bl false)) (cnsM (ret (.int 4)) (ret []))))) c_law_2)
def c_law_0 : M Fl := (seqM (setM 1 (callM 1 F__law_pool (cnsM (gv 0) (ret [])))) c_law_1)
theorem e_law : m_law = c_law_0 := rfl
end G

set_option Elab.async false
set_option linter.all false
set_option maxRecDepth 100000
set_option maxHeartbeats 4000001
namespace G
open PySem PySem.Spec PyProof.Rows L2 L2.TT

/-! ### draws -/
def poolD (is : List Int) (a : Nat) (b c e : Int) : D := .lst [.lst (is.map .int), .int a, .int b, .int c, .int e]
def IsPool (p : D) : Prop := ∃ is a b c e, 0 ≤ b ∧ p = poolD is a b c e
theorem draw_ok {p : D} (hp : IsPool p) {m : Int} (h1 : 1 ≤ m) (h2 : m < 1073741824) : ∃ p' k, IsPool p' ∧ 0 ≤ k ∧ k < m ∧ F__law_draw p [.int m] = some (p', .v (.int k) false) := by
  obtain ⟨is, a, b, c, e, hb, rfl⟩ := hp
  have m0 : 0 < m := by omega
  have big : ∀ e c : Int, ∃ k, 0 ≤ k ∧ k < m ∧ k = ((((e * 40014 + c * 119267 + 7817) % 2147483647) * ((((e * 40014 + c * 119267 + 7817) % 2147483647) / 1021) + 69621) % 2147483647) * (((((e * 40014 + c * 119267 + 7817) % 2147483647) * ((((e * 40014 + c * 119267 + 7817) % 2147483647) / 1021) + 69621) % 2147483647) / 2029) + 48271) % 2147483399 / 32) % m := fun e c => ⟨_, Int.emod_nonneg _ (by omega), Int.emod_lt_of_pos _ m0, rfl⟩
  have mul1 : ∀ x y : Int, 0 ≤ x → x < 2147483647 → ((-(2 ^ 64) < x ∧ x < 2 ^ 64) ∨ (-(2 ^ 64) < y ∧ y < 2 ^ 64)) := fun x y h1 h2 => .inl ⟨by omega, by omega⟩
  have q1 : ∀ x : Int, -18446744073709551616 < x % 2147483647 := fun x => by omega
  have q2 : ∀ x : Int, x % 2147483647 < 18446744073709551616 := fun x => by omega
  have nx : ∀ x : Int, 0 ≤ x % 2147483647 ∧ x % 2147483647 < 2147483647 := fun x => ⟨Int.emod_nonneg _ (by omega), Int.emod_lt_of_pos _ (by omega)⟩
  by_cases hb0 : b = 0
  · subst hb0
    by_cases ha : a < is.length
    · by_cases hv : (1000000000000000000 : Int) ≤ is[a]
      · refine ⟨poolD is (a + 1) (is[a] / m) (c + 1) e, is[a] % m, ⟨is, _, _, _, _, Int.ediv_nonneg (by omega) (by omega), rfl⟩, Int.emod_nonneg _ (by omega), Int.emod_lt_of_pos _ m0, ?_⟩
        have hp : (0 : Int) < is[a] := by omega
        unfold F__law_draw fnP m__law_draw poolD
        simp [ownD, reS, ha, hv, hp, m0, h2, TT.atI_nat, pnOf]
      · obtain ⟨k, k0, k1, ke⟩ := big ((e * 41 + is[a] + 5417) % 2147483629) (c + 1)
        refine ⟨poolD is (a + 1) 0 (c + 1) ((e * 41 + is[a] + 5417) % 2147483629), k, ⟨is, _, _, _, _, by omega, rfl⟩, k0, k1, ?_⟩
        unfold F__law_draw fnP m__law_draw poolD
        simp [ownD, reS, ha, hv, m0, h2, TT.atI_nat, pnOf, q1, q2]
        exact ke.symm
    · obtain ⟨k, k0, k1, ke⟩ := big e (c + 1)
      refine ⟨poolD is a 0 (c + 1) e, k, ⟨is, _, _, _, _, by omega, rfl⟩, k0, k1, ?_⟩
      unfold F__law_draw fnP m__law_draw poolD
      simp [ownD, reS, ha, m0, h2, TT.atI_nat, pnOf, q1, q2]
      exact ke.symm
  · refine ⟨poolD is a (b / m) (c + 1) e, b % m, ⟨is, _, _, _, _, Int.ediv_nonneg (by omega) (by omega), rfl⟩, Int.emod_nonneg _ (by omega), Int.emod_lt_of_pos _ m0, ?_⟩
    have hp : (0 : Int) < b := by omega
    unfold F__law_draw fnP m__law_draw poolD
    simp [ownD, reS, hb0, hp, m0, h2, TT.atI_nat, pnOf]
end G

set_option Elab.async false
set_option linter.all false
set_option maxRecDepth 100000
set_option maxHeartbeats 4000001
namespace G
open PySem PySem.Spec PyProof.Rows L2 L2.TT
def isInt : D → Bool
  | .int _ => true
  | _ => false
def isStr : D → Bool
  | .str _ => true
  | _ => false
def noObj : D → Bool
  | .obj _ _ _ => false
  | .kl _ => false
  | _ => true
@[simp] theorem isC1 : isC "NoneType" "int" = false := (rfl)
@[simp] theorem isC2 : isC "bool" "int" = true := (rfl)
@[simp] theorem isC3 : isC "int" "int" = true := (rfl)
@[simp] theorem isC4 : isC "str" "int" = false := (rfl)
@[simp] theorem isC5 : isC "list" "int" = false := (rfl)
@[simp] theorem isC6 : isC "tuple" "int" = false := (rfl)
@[simp] theorem isC7 : isC "dict" "int" = false := (rfl)
@[simp] theorem isD1 : isC "NoneType" "bool" = false := (rfl)
@[simp] theorem isD2 : isC "bool" "bool" = true := (rfl)
@[simp] theorem isD3 : isC "int" "bool" = false := (rfl)
@[simp] theorem isD4 : isC "str" "bool" = false := (rfl)
@[simp] theorem isD5 : isC "list" "bool" = false := (rfl)
@[simp] theorem isD6 : isC "tuple" "bool" = false := (rfl)
@[simp] theorem isD7 : isC "dict" "bool" = false := (rfl)
@[simp] theorem isE1 : isC "NoneType" "str" = false := (rfl)
@[simp] theorem isE2 : isC "bool" "str" = false := (rfl)
@[simp] theorem isE3 : isC "int" "str" = false := (rfl)
@[simp] theorem isE4 : isC "str" "str" = true := (rfl)
@[simp] theorem isE5 : isC "list" "str" = false := (rfl)
@[simp] theorem isE6 : isC "tuple" "str" = false := (rfl)
@[simp] theorem isE7 : isC "dict" "str" = false := (rfl)
@[simp] theorem isF1 : isC "NoneType" "list" = false := (rfl)
@[simp] theorem isF2 : isC "bool" "list" = false := (rfl)
@[simp] theorem isF3 : isC "int" "list" = false := (rfl)
@[simp] theorem isF4 : isC "str" "list" = false := (rfl)
@[simp] theorem isF5 : isC "list" "list" = true := (rfl)
@[simp] theorem isF6 : isC "tuple" "list" = false := (rfl)
@[simp] theorem isF7 : isC "dict" "list" = false := (rfl)
@[simp] theorem isG1 : isC "NoneType" "tuple" = false := (rfl)
@[simp] theorem isG2 : isC "bool" "tuple" = false := (rfl)
@[simp] theorem isG3 : isC "int" "tuple" = false := (rfl)
@[simp] theorem isG4 : isC "str" "tuple" = false := (rfl)
@[simp] theorem isG5 : isC "list" "tuple" = false := (rfl)
@[simp] theorem isG6 : isC "tuple" "tuple" = true := (rfl)
@[simp] theorem isG7 : isC "dict" "tuple" = false := (rfl)
@[simp] theorem isH1 : isC "NoneType" "dict" = false := (rfl)
@[simp] theorem isH2 : isC "bool" "dict" = false := (rfl)
@[simp] theorem isH3 : isC "int" "dict" = false := (rfl)
@[simp] theorem isH4 : isC "str" "dict" = false := (rfl)
@[simp] theorem isH5 : isC "list" "dict" = false := (rfl)
@[simp] theorem isH6 : isC "tuple" "dict" = false := (rfl)
@[simp] theorem isH7 : isC "dict" "dict" = true := (rfl)
@[simp] theorem outOf_v (d : D) (o : Bool) (g : List Sl) : outOf (.ok (.rt d o) g) = some (.v d o) := (rfl)
@[simp] theorem outOf_e (c : Str) (fs : List (Str × D)) (g : List Sl) : outOf (.er c fs g) = some (.e c fs) := (rfl)
@[simp] theorem outOf_nx (g : List Sl) : outOf (.ok .nx g) = some (.v .non false) := (rfl)

theorem is_integer_eq (d : D) (h : noObj d = true) : F_is_integer [d] = some (.v (.bl (isInt d)) false) := by
  cases d <;> first | rfl | (simp only [noObj] at h; cases h)
def btw (d : D) (l m : Int) : Bool := match d with
  | .int i => decide (l ≤ i) && decide (i ≤ m)
  | _ => false
theorem is_between_eq (d : D) (h : noObj d = true) (l m : Int) : F_is_between [d, .int l, .int m] = some (.v (.bl (btw d l m)) false) := by
  have e := is_integer_eq d h
  unfold F_is_between fnM m_is_between
  cases d <;> first | (simp [e, isInt, btw]; done) | skip
  rename_i i
  by_cases c : l ≤ i <;> simp [e, isInt, btw, c]
def blw (d : D) (b : Int) : Bool := match d with
  | .int i => decide (0 ≤ i) && decide (i < b)
  | _ => false
theorem is_below_eq (d : D) (h : noObj d = true) (b : Int) : F_is_below [d, .int b] = some (.v (.bl (blw d b)) false) := by
  have e := is_between_eq d h 0 (b - 1)
  have e2 : btw d 0 (b - 1) = blw d b := by
    cases d <;> first | rfl | skip
    simp only [btw, blw]
    congr 2
    simp only [eq_iff_iff]
    omega
  unfold F_is_below fnM m_is_below
  simp [e, e2]
def rowL : D → Option Nat
  | .lst ds => some ds.length
  | .tup ds => some ds.length
  | _ => none
def rowB (d : D) (a b : Int) : Bool := match rowL d with
  | some n => decide (a ≤ (n : Int)) && decide ((n : Int) ≤ b)
  | none => false
theorem is_row_eq (d : D) (h : noObj d = true) (a b : Int) : F_is_row [d, .int a, .int b] = some (.v (.bl (rowB d a b)) false) := by
  unfold F_is_row fnM m_is_row
  cases d <;> first | (simp [noObj] at h; done) | (simp [rowB, rowL]; done) | skip
  all_goals
    rename_i ds
    by_cases c : a ≤ (ds.length : Int) <;> simp [rowB, rowL, c]
end G

set_option Elab.async false
set_option linter.all false
set_option maxRecDepth 100000
set_option maxHeartbeats 4000001
namespace G
open PySem PySem.Spec PyProof.Rows L2 L2.TT
/-! ### names -/
def abc : Str := ("abcdefghijklmnopqrstuvwxyz" : PySem.Str)
theorem abc_list : abc.cps.toList = [97, 98, 99, 100, 101, 102, 103, 104, 105, 106, 107, 108, 109, 110, 111, 112, 113, 114, 115, 116, 117, 118, 119, 120, 121, 122] := by decide +kernel
theorem abc_len : abc.length = 26 := by decide +kernel
theorem abc_at {k : Int} (h0 : 0 ≤ k) (h1 : k < 26) : ∃ c : Nat, 97 ≤ c ∧ c ≤ 122 ∧ ixD (.str abc) (.int k) = some (.str ⟨#[c]⟩) := by
  obtain ⟨n, rfl⟩ := (Int.eq_ofNat_of_zero_le h0)
  have hn : n < 26 := by omega
  have hl : n < abc.cps.toList.length := by rw [abc_list]; exact hn
  have e : ixD (.str abc) (.int (n : Int)) = some (.str ⟨#[abc.cps.toList[n]]⟩) := by
    show (if abc.length ≤ 1000000 then (L2.atI abc.cps.toList (n : Int)).map (fun c => D.str ⟨#[c]⟩) else none) = _
    rw [abc_len, if_pos (by decide), TT.atI_nat, List.getElem?_eq_getElem hl]
    rfl
  refine ⟨_, ?_, ?_, e⟩
  · have : ∀ x ∈ abc.cps.toList, 97 ≤ x := by rw [abc_list]; decide
    exact this _ (List.getElem_mem hl)
  · have : ∀ x ∈ abc.cps.toList, x ≤ 122 := by rw [abc_list]; decide
    exact this _ (List.getElem_mem hl)
structure Nm (x : Str) : Prop where
  lo : 1 ≤ x.cps.toList.length
  hi : x.cps.toList.length ≤ 8
  ab : ∀ c ∈ x.cps.toList, 97 ≤ c ∧ c ≤ 122
theorem nm_one {c : Nat} (h1 : 97 ≤ c) (h2 : c ≤ 122) : Nm ⟨#[c]⟩ := ⟨by simp, by simp, by simp; omega⟩
theorem nm_ok {x : Str} (h : Nm x) : PyData.strOk x = true := by
  unfold PyData.strOk
  rw [← Array.all_toList]
  rw [List.all_eq_true]
  intro c hc
  have := h.ab c hc
  simp; omega
theorem join_list (ys : List Str) : (Txt.join ("" : Str) ys).cps.toList = ys.flatMap fun y => y.cps.toList := by
  have e : Txt.join ("" : Str) ys = Str.join ("" : Str) ys := StrLaws.glued_eq_join _ _
  rw [e]
  clear e
  induction ys with
  | nil => rfl
  | cons y r ih =>
    cases r with
    | nil => simp [Str.join]
    | cons z r =>
      have h : Str.join ("" : Str) (y :: z :: r) = y ++ ("" : Str) ++ Str.join ("" : Str) (z :: r) := rfl
      rw [h, List.flatMap_cons, ← ih]
      have e1 : ∀ a b : Str, (a ++ b).cps.toList = a.cps.toList ++ b.cps.toList := fun a b => by
        show (a.cps ++ b.cps).toList = _
        simp
      rw [e1, e1]
      have : ("" : Str).cps.toList = [] := by decide +kernel
      rw [this, List.append_nil]
theorem asStrs_map (ys : List Str) : asStrs (ys.map .str) = some ys := by
  induction ys with
  | nil => rfl
  | cons y r ih => simp [asStrs, ih]
theorem asInts_map (ys : List Int) : asInts (ys.map .int) = some ys := by
  induction ys with
  | nil => rfl
  | cons y r ih => simp [asInts, ih]
theorem toPys_strs (ys : List Str) : toPys (ys.map .str) = some (ys.map .str) := by
  induction ys with
  | nil => rfl
  | cons y r ih => simp [toPys, toPy, ih]
theorem lay_strs (ys : List Str) (h : ∀ y ∈ ys, PyData.strOk y = true) : PyData.canLayAll0 (ys.map .str) = true := by
  induction ys with
  | nil => rfl
  | cons y r ih =>
    simp only [List.map_cons, PyData.canLayAll0, PyData.canLay0, Bool.and_eq_true]
    exact ⟨h y List.mem_cons_self, ih fun z hz => h z (List.mem_cons_of_mem _ hz)⟩
theorem depth_strs (ys : List Str) : PyData.depthAll (ys.map .str) = 0 := by
  induction ys with
  | nil => rfl
  | cons y r ih => simp [PyData.depthAll, PyData.depth, ih]
theorem shaped_strs (ys : List Str) (h : ∀ y ∈ ys, PyData.strOk y = true) : SeqAt.shaped (.list (ys.map .str)) = true := by
  unfold SeqAt.shaped
  simp only [PyData.canLay0, lay_strs ys h, PyData.depth, depth_strs, Bool.true_and]
  decide
theorem any_strs (x : Str) (ys : List Str) : ((ys.map PyData.str).any fun z => PyData.eqv z (.str x)) = decide (x ∈ ys) := by
  induction ys with
  | nil => rfl
  | cons y r ih =>
    simp only [List.map_cons, List.any_cons, ih, PyData.eqv, List.mem_cons]
    by_cases e : y = x
    · simp [e]
    · have e' : ¬ x = y := fun z => e z.symm
      simp [e, e']
theorem inB_strs (x : Str) (ys : List Str) (hx : PyData.strOk x = true) (h : ∀ y ∈ ys, PyData.strOk y = true) : inB (.str x) (.lst (ys.map .str)) = some (decide (x ∈ ys)) := by
  have hs : SeqAt.shaped (.str x) = true := by unfold SeqAt.shaped; simp [PyData.canLay0, PyData.depth, hx]
  show (match toPy (.str x), toPys (ys.map .str) with
    | some p, some qs => if SeqAt.shaped p = true ∧ SeqAt.shaped (.list qs) = true then some (qs.any fun z => PyData.eqv z p) else none
    | _, _ => none) = _
  rw [toPys_strs]
  simp only [toPy, hs, shaped_strs ys h, and_self, if_true, any_strs]
theorem nodup_len {α : Type} [DecidableEq α] : ∀ (L N : List α), L.Nodup → (∀ x ∈ L, x ∈ N) → L.length ≤ N.length
  | [], N, _, _ => Nat.zero_le _
  | x :: L, N, hd, h => by
    rw [List.nodup_cons] at hd
    have hx := h x List.mem_cons_self
    have e := (List.length_erase_of_mem hx)
    have ih := nodup_len L (N.erase x) hd.2 fun y hy => (List.mem_erase_of_ne (fun z : y = x => hd.1 (by rw [← z]; exact hy))).mpr (h y (List.mem_cons_of_mem _ hy))
    have : 0 < N.length := List.length_pos_of_mem hx
    rw [List.length_cons]
    omega
end G

set_option Elab.async false
set_option linter.all false
set_option maxRecDepth 100000
set_option maxHeartbeats 4000001
namespace G
open PySem PySem.Spec PyProof.Rows L2 L2.TT
@[simp] theorem dropS_nil (G : List Sl) : dropS [] G = G := (rfl)
@[simp] theorem dropS_cons (v : Nat) (vs : List Nat) (G : List Sl) : dropS (v :: vs) G = (dropS vs G).set v .no := (rfl)
@[simp] theorem stepC_r (gm : D → M Unit) (mt : M Bool) (me : M D) (d : D) (G : List Sl) : stepC gm mt me d G = bd (gm d) (fun _ => bd mt fun b => if b = true then bd me fun y => ret (some y) else ret none) G := (rfl)
@[simp] theorem stepF_r (gm : D → M Unit) (body : M Fl) (d : D) (G : List Sl) : stepF gm body d G = bd (gm d) (fun _ => body) G := (rfl)
theorem stS_er (i : Nat) : ∀ d Γ c fs Γ', (fun d => stS i d false) d Γ ≠ some (.er c fs Γ') := fun d Γ c fs Γ' z => by
  simp only [stS_r] at z
  split at z
  · split at z <;> cases z
  · cases z
theorem letters_ok {p : D} {a b s4 s5 s6 : Sl} (hp : IsPool p) (n : Nat) (hn : n ≤ 8) : ∃ (p' : D) (cs : List Nat), IsPool p' ∧ cs.length = n ∧ (∀ c ∈ cs, 97 ≤ c ∧ c ≤ 122) ∧
    compL [7] (fun d => stS 7 d false) (ret true) (op2v ixD 2 (frz (callPM 0 1 F__law_draw (cnsM (ret (.int 26)) (ret []))))) (rngD 0 n) [] [.pn p, a, .fz (.str abc), b, s4, s5, s6, .no, .no]
      = some (.ok (cs.map fun c => .str ⟨#[c]⟩) [.pn p', a, .fz (.str abc), b, s4, s5, s6, .no, .no]) := by
  have w := Wp_comp (vs := [7]) (gm := fun d => stS 7 d false) (mt := ret true) (me := op2v ixD 2 (frz (callPM 0 1 F__law_draw (cnsM (ret (.int 26)) (ret []))))) (Q := fun r => ∃ (p' : D) (cs : List Nat), IsPool p' ∧ cs.length = n ∧ (∀ c ∈ cs, 97 ≤ c ∧ c ≤ 122) ∧ r = .ok (cs.map fun c => .str ⟨#[c]⟩) [.pn p', a, .fz (.str abc), b, s4, s5, s6, .no, .no])
    (fun i acc G => ∃ (p' : D) (cs : List Nat), IsPool p' ∧ cs.length = i ∧ (∀ c ∈ cs, 97 ≤ c ∧ c ≤ 122) ∧ acc = cs.map (fun c => .str ⟨#[c]⟩) ∧ G = [.pn p', a, .fz (.str abc), b, s4, s5, s6, .no, .no]) (rngD 0 n) 0 [] [.pn p, a, .fz (.str abc), b, s4, s5, s6, .no, .no] ⟨p, [], hp, rfl, by simp, rfl, rfl⟩ ?_ ?_
  · obtain ⟨x, e, p', cs, h1, h2, h3, rfl⟩ := w
    exact ⟨p', cs, h1, h2, h3, e⟩
  · rintro i d acc G hi ⟨p1, cs, q1, q2, q3, rfl, rfl⟩
    obtain ⟨p2, k, r1, r2, r3, r4⟩ := draw_ok q1 (m := 26) (by omega) (by omega)
    obtain ⟨c, c1, c2, c3⟩ := abc_at r2 r3
    have hi' : i < n := by
      have := ((List.getElem?_eq_some_iff.mp hi).1)
      simpa [rngD] using this
    simp [ownD, reS, r4, c3]
    refine ⟨by omega, p2, r1, cs ++ [c], by simp [q2], ?_, by simp, rfl⟩
    intro c' hc
    rcases (List.mem_append.mp hc) with h | h
    · exact q3 _ h
    · simp at h; subst h; exact ⟨c1, c2⟩
  · rintro acc G ⟨p1, cs, q1, q2, q3, rfl, rfl⟩
    exact ⟨p1, cs, q1, by simpa [rngD] using q2, q3, rfl⟩
theorem fresh_ok {p : D} {a s4 s5 s6 : Sl} (ns : List Str) (hn : ns.length ≤ 3) (ho : ∀ x ∈ ns, PyData.strOk x = true) : ∃ x rest, Nm x ∧ x ∉ ns ∧
    compL [8] (fun d => stS 8 d false) (tv (op2 niD (gv 8) (pk 3))) (gv 8) (sgs abc) [] [.pn p, a, .fz (.str abc), .ow (.lst (ns.map .str)), s4, s5, s6, .no, .no]
      = some (.ok (.str x :: rest) [.pn p, a, .fz (.str abc), .ow (.lst (ns.map .str)), s4, s5, s6, .no, .no]) := by
  have hone : ∀ c ∈ abc.cps.toList, Nm ⟨#[c]⟩ := fun c hc => by
    rw [abc_list] at hc
    have : 97 ≤ c ∧ c ≤ 122 := (by decide : ∀ x ∈ [97, 98, 99, 100, 101, 102, 103, 104, 105, 106, 107, 108, 109, 110, 111, 112, 113, 114, 115, 116, 117, 118, 119, 120, 121, 122], 97 ≤ x ∧ x ≤ 122) c hc
    exact nm_one this.1 this.2
  have e := compL_filter (vs := [8]) (gm := fun d => stS 8 d false) (mt := tv (op2 niD (gv 8) (pk 3))) (me := gv 8) (G := [.pn p, a, .fz (.str abc), .ow (.lst (ns.map .str)), s4, s5, s6, .no, .no]) (p := fun d => match d with | .str x => decide (x ∉ ns) | _ => false) (sgs abc) [] (by simp [sgs, abc_list]) (fun d hd => by
    obtain ⟨c, hc, rfl⟩ := List.mem_map.mp hd
    have e := inB_strs ⟨#[c]⟩ ns (nm_ok (hone c hc)) ho
    refine ⟨[.pn p, a, .fz (.str abc), .ow (.lst (ns.map .str)), s4, s5, s6, .no, .fz (.str ⟨#[c]⟩)], ?_, by simp⟩
    by_cases hm : (⟨#[c]⟩ : Str) ∈ ns <;> simp [niD, e, hm])
  have ne : ∃ c ∈ abc.cps.toList, (⟨#[c]⟩ : Str) ∉ ns := by
    refine Classical.byContradiction fun h => ?_
    have h' : ∀ c ∈ abc.cps.toList, (⟨#[c]⟩ : Str) ∈ ns := fun c hc => Classical.byContradiction fun z => h ⟨c, hc, z⟩
    have := nodup_len (abc.cps.toList.map fun c => (⟨#[c]⟩ : Str)) ns (by rw [abc_list]; decide) (fun x hx => by obtain ⟨c, hc, rfl⟩ := List.mem_map.mp hx; exact h' c hc)
    rw [abc_list] at this
    simp at this
    omega
  obtain ⟨c, hc, hm⟩ := ne
  have mem : D.str ⟨#[c]⟩ ∈ (sgs abc).filter (fun d => match d with | .str x => decide (x ∉ ns) | _ => false) := List.mem_filter.mpr ⟨List.mem_map.mpr ⟨c, hc, rfl⟩, by simpa using hm⟩
  cases k : (sgs abc).filter (fun d => match d with | .str x => decide (x ∉ ns) | _ => false) with
  | nil => rw [k] at mem; cases mem
  | cons d rest =>
    have hd : d ∈ (sgs abc).filter (fun d => match d with | .str x => decide (x ∉ ns) | _ => false) := by rw [k]; exact List.mem_cons_self
    obtain ⟨h1, h2⟩ := List.mem_filter.mp hd
    obtain ⟨c', hc', rfl⟩ := List.mem_map.mp h1
    refine ⟨⟨#[c']⟩, rest, hone c' hc', by simpa using h2, ?_⟩
    rw [e, k]
    rfl
end G

set_option Elab.async false
set_option linter.all false
set_option maxRecDepth 100000
set_option maxHeartbeats 4000001
namespace G
open PySem PySem.Spec PyProof.Rows L2 L2.TT
theorem fnP_run {N n : Nat} {m : M Fl} {d : D} {ds : List D} {P : D → Out → Prop} (h : ∀ Q : Rs Fl → Prop, (∀ r p o, pnOf r = some (p, o) → P p o → Q r) → Wp (m (.pn d :: ds.map .fz ++ List.replicate (N - (n + 1)) .no)) Q) : ∃ p o, P p o ∧ fnP N n m d ds = some (p, o) := by
  obtain ⟨r, e, ⟨p, o⟩, e2, q⟩ := h (fun r => ∃ x : D × Out, pnOf r = some x ∧ P x.1 x.2) (fun r p o e q => ⟨(p, o), e, q⟩)
  unfold fnP
  rw [e]
  exact ⟨p, o, q, e2⟩
theorem fnM_run {N n : Nat} {m : M Fl} {ds : List D} {P : Out → Prop} (h : ∀ Q : Rs Fl → Prop, (∀ r o, outOf r = some o → P o → Q r) → Wp (m (ds.map .fz ++ List.replicate (N - n) .no)) Q) : ∃ o, P o ∧ fnM N n m ds = some o := by
  obtain ⟨r, e, x, e2, q⟩ := h (fun r => ∃ x, outOf r = some x ∧ P x) (fun r o e q => ⟨o, e, q⟩)
  unfold fnM
  rw [e]
  exact ⟨x, q, e2⟩
@[simp] theorem pnOf_v (d d' : D) (o : Bool) (g : List Sl) : pnOf (.ok (.rt d o) (.pn d' :: g)) = some (d', .v d o) := (rfl)
@[simp] theorem pnOf_nx (d' : D) (g : List Sl) : pnOf (.ok .nx (.pn d' :: g)) = some (d', .v .non false) := (rfl)
@[simp] theorem pnOf_e (c : Str) (fs : List (Str × D)) (d' : D) (g : List Sl) : pnOf (.er c fs (.pn d' :: g)) = some (d', .e c fs) := (rfl)
/-- a pick of four, five, .. with the index drawn -/
theorem pick_at {ps : List (D × Bool)} {k : Int} (h0 : 0 ≤ k) (h1 : k < ps.length) : ∃ x ∈ ps, L2.atI ps k = some x := by
  obtain ⟨n, rfl⟩ := (Int.eq_ofNat_of_zero_le h0)
  have hn : n < ps.length := by omega
  exact ⟨ps[n], List.getElem_mem hn, by rw [TT.atI_nat, List.getElem?_eq_getElem hn]⟩
def NmSlots (p : D) (m : Int) (ns : List Str) (s4 s5 s6 : Sl) : List Sl := [.pn p, .fz (.int m), .fz (.str abc), .ow (.lst (ns.map .str)), s4, s5, s6, .no, .no]
def NmI (m : Int) (i : Nat) (G : List Sl) : Prop := ∃ (p : D) (ns : List Str) (s4 s5 s6 : Sl), IsPool p ∧ ns.length = i ∧ ns.Nodup ∧ (∀ x ∈ ns, Nm x) ∧ stOk s4 = true ∧ stOk s5 = true ∧ stOk s6 = true ∧ G = NmSlots p m ns s4 s5 s6
theorem names_end {p : D} {m : Int} {ns : List Str} {s4 s5 : Sl} {x : Str} (h : ns.length ≤ 4) : c__law_names_6 [.pn p, .fz (.int m), .fz (.str abc), .ow (.lst (ns.map .str)), s4, s5, .fz (.str x), .no, .no] = some (.ok .nx (NmSlots p m (ns ++ [x]) s4 s5 (.fz (.str x)))) := by
  have : ns.length < 1000000 := by omega
  simp [c__law_names_6, ownD, reS, NmSlots, this, tyD]
theorem names_step {m : Int} {p : D} {ns : List Str} {s4 s5 s6 : Sl} {i : Nat} {d : D} (hi : i ≤ 3) (hp : IsPool p) (h1 : ns.length = i) (h2 : ns.Nodup) (h3 : ∀ x ∈ ns, Nm x) (h4 : stOk s4 = true) (h5 : stOk s5 = true) (h6 : stOk s6 = true) :
    Wp (c__law_names_3 (NmSlots p m ns (.fz d) s5 s6)) (fun r => match r with | .ok .nx g => NmI m (i + 1) g | _ => False) := by
  obtain ⟨p1, k, q1, q2, q3, q4⟩ := draw_ok hp (m := 4) (by omega) (by omega)
  obtain ⟨x, hx, ex⟩ := pick_at (ps := [(.int 1, false), (.int 2, false), (.int 3, false), (.int 8, false)]) q2 (by simpa using q3)
  obtain ⟨z, z1, z2, rfl⟩ : ∃ z : Nat, 1 ≤ z ∧ z ≤ 8 ∧ x = (.int z, false) := by
    simp only [List.not_mem_nil, List.mem_cons, or_false] at hx
    rcases hx with rfl | rfl | rfl | rfl
    · exact ⟨1, by omega, by omega, rfl⟩
    · exact ⟨2, by omega, by omega, rfl⟩
    · exact ⟨3, by omega, by omega, rfl⟩
    · exact ⟨8, by omega, by omega, rfl⟩
  unfold c__law_names_3
  refine Wp_seq ?_
  simp [NmSlots, ownD, reS, q4, ex, h5]
  unfold c__law_names_4
  refine Wp_seq ?_
  obtain ⟨p2, cs, r1, r2, r3, r4⟩ := letters_ok (a := .fz (.int m)) (b := .ow (.lst (ns.map .str))) (s4 := .fz d) (s5 := .fz (.int z)) (s6 := s6) q1 z z2
  have hz : okR (z : Int) = true := okR_nat (by omega)
  have ej : joinD (.str ("" : PySem.Str)) (.lst (cs.map fun c => .str ⟨#[c]⟩)) = some (.str (Txt.join ("" : Str) (cs.map fun c => (⟨#[c]⟩ : Str)))) := by
    have e1 : (cs.map fun c => D.str ⟨#[c]⟩) = (cs.map fun c => (⟨#[c]⟩ : Str)).map .str := by simp
    rw [e1]
    show (match asStrs ((cs.map fun c => (⟨#[c]⟩ : Str)).map D.str) with
      | some (ys : List Str) => if (ys.map (fun y : Str => y.length)).sum + ys.length * ("" : Str).length ≤ 16777216 then some (D.str (Txt.join ("" : Str) ys)) else none
      | none => none) = _
    rw [asStrs_map]
    simp only
    rw [if_pos]
    have e0 : ("" : Str).length = 0 := by decide +kernel
    have e2 : ((cs.map fun c => (⟨#[c]⟩ : Str)).map (·.length)).sum = cs.length := by
      clear r4 e1 r3 r2
      induction cs with
      | nil => rfl
      | cons c r ih => simp only [List.map_cons, List.sum_cons, ih, List.length_cons]; show 1 + _ = _; omega
    rw [e2, e0]
    omega
  simp [isS, hz, r4, ej, h6]
  have nmx : Nm (Txt.join ("" : Str) (cs.map fun c => (⟨#[c]⟩ : Str))) := by
    have e : (Txt.join ("" : Str) (cs.map fun c => (⟨#[c]⟩ : Str))).cps.toList = cs := by
      rw [join_list]
      clear r4 ej r3 r2
      induction cs with
      | nil => rfl
      | cons c r ih => simp only [List.map_cons, List.flatMap_cons, ih]; rfl
    exact ⟨by rw [e]; omega, by rw [e]; omega, by rw [e]; exact r3⟩
  generalize Txt.join ("" : Str) (cs.map fun c => (⟨#[c]⟩ : Str)) = x at nmx
  have ob : ∀ y ∈ ns, PyData.strOk y = true := fun y hy => nm_ok (h3 y hy)
  have ein := inB_strs x ns (nm_ok nmx) ob
  unfold c__law_names_5
  refine Wp_seq ?_
  have fin : ∀ y : Str, Nm y → y ∉ ns → NmI m (i + 1) (NmSlots p2 m (ns ++ [y]) (.fz d) (.fz (.int z)) (.fz (.str y))) := fun y hy hn =>
    ⟨p2, ns ++ [y], _, _, _, r1, by simp [h1], by
      rw [List.nodup_append]
      exact ⟨h2, by simp, by intro a ha b hb; simp at hb; subst hb; exact fun z => hn (z ▸ ha)⟩, by
      intro b hb
      rcases List.mem_append.mp hb with h | h
      · exact h3 _ h
      · simp at h; subst h; exact hy, rfl, rfl, rfl, rfl⟩
  by_cases hm : x ∈ ns
  · obtain ⟨y, rest, f1, f2, f3⟩ := fresh_ok (p := p2) (a := .fz (.int m)) (s4 := .fz d) (s5 := .fz (.int z)) (s6 := .fz (.str x)) ns (by omega) ob
    simp [inD, ein, hm, f3]
    rw [names_end (show ns.length ≤ 4 by omega)]
    exact (Wp_some _ _).mpr (fin y f1 f2)
  · simp [inD, ein, hm]
    rw [names_end (show ns.length ≤ 4 by omega)]
    exact (Wp_some _ _).mpr (fin x nmx hm)
theorem names_ok {p : D} (hp : IsPool p) {m : Int} (h0 : 0 ≤ m) (h1 : m ≤ 4) : ∃ (p' : D) (ns : List Str), IsPool p' ∧ ns.length = m.toNat ∧ ns.Nodup ∧ (∀ x ∈ ns, Nm x) ∧ F__law_names p [.int m] = some (p', .v (.lst (ns.map .str)) true) := by
  have w := fnP_run (N := 9) (n := 1) (m := m__law_names) (d := p) (ds := [.int m]) (P := fun p' o => ∃ ns : List Str, IsPool p' ∧ ns.length = m.toNat ∧ ns.Nodup ∧ (∀ x ∈ ns, Nm x) ∧ o = .v (.lst (ns.map .str)) true) ?_
  · obtain ⟨p', o, ⟨ns, a, b, c, d, rfl⟩, e⟩ := w
    exact ⟨p', ns, a, b, c, d, e⟩
  intro Q hQ
  rw [e__law_names]
  unfold c__law_names_0
  refine Wp_seq ?_
  simp
  unfold c__law_names_1
  refine Wp_seq ?_
  simp
  unfold c__law_names_2
  refine Wp_seq ?_
  have hm1 : okR m = true := okR_int h0 (by omega)
  simp [hm1]
  refine Wp_for (stS_er 4) (NmI m) (rngD 0 m.toNat) 0 _ ⟨p, [], .no, .no, .no, hp, rfl, by simp, by simp, rfl, rfl, rfl, rfl⟩ ?_ ?_
  · rintro i d G hi ⟨p1, ns, s4, s5, s6, a1, a2, a3, a4, a5, a6, a7, rfl⟩
    have hl : i < m.toNat := by
      have := ((List.getElem?_eq_some_iff.mp hi).1)
      simpa [rngD] using this
    have w := names_step (m := m) (i := i) (d := d) (by omega) a1 (by simpa using a2) a3 a4 a5 a6 a7
    have e : stepF (fun d => stS 4 d false) c__law_names_3 d (NmSlots p1 m ns s4 s5 s6) = c__law_names_3 (NmSlots p1 m ns (.fz d) s5 s6) := by simp [NmSlots, a5]
    rw [e]
    refine w.mono fun x hx => ?_
    cases x with
    | er c fs g => exact hx
    | ok a g => cases a <;> first | exact hx.elim | (rw [show 0 + i + 1 = i + 1 by omega]; exact hx)
  · rintro G ⟨p1, ns, s4, s5, s6, a1, a2, a3, a4, a5, a6, a7, rfl⟩
    simp [NmSlots, c__law_names_7]
    exact hQ _ _ _ rfl ⟨ns, a1, by simpa [rngD] using a2, a3, a4, rfl⟩
end G

set_option Elab.async false
set_option linter.all false
set_option maxRecDepth 100000
set_option maxHeartbeats 4000001
namespace G
open PySem PySem.Spec PyProof.Rows L2 L2.TT
/-! ### answers -/
theorem asPrs_map (as : List (Int × Int)) : asPrs (as.map mkPr) = some as := by
  induction as with
  | nil => rfl
  | cons a r ih => simp [mkPr, asPrs] at ih ⊢; exact ih
theorem sortD_prs (as : List (Int × Int)) : sortD (as.map mkPr) = some ((as.mergeSort leP).map mkPr) := by
  cases as with
  | nil => simp [sortD, asInts]
  | cons a r =>
    have e := asPrs_map (a :: r)
    unfold sortD
    rw [e]
    rfl
theorem sortD_ints (as : List Int) : sortD (as.map .int) = some ((as.mergeSort leI).map .int) := by
  unfold sortD
  rw [asInts_map]
theorem toPys_prs (as : List (Int × Int)) : toPys (as.map mkPr) = some (as.map fun a => .tuple [.int a.1, .int a.2]) := by
  induction as with
  | nil => rfl
  | cons y r ih => simp [mkPr] at ih ⊢; simp [toPys, toPy, ih]
theorem lay_prs (as : List (Int × Int)) : PyData.canLayAll0 (as.map fun a => .tuple [.int a.1, .int a.2]) = true := by
  induction as with
  | nil => rfl
  | cons y r ih => simp [PyData.canLayAll0, PyData.canLay0, ih]
theorem depth_prs (as : List (Int × Int)) : PyData.depthAll (as.map fun a => PyData.tuple [.int a.1, .int a.2]) ≤ 1 := by
  induction as with
  | nil => simp [PyData.depthAll]
  | cons y r ih => simp [PyData.depthAll, PyData.depth] at ih ⊢; omega
theorem any_prs (x : Int × Int) (as : List (Int × Int)) : ((as.map fun a => PyData.tuple [.int a.1, .int a.2]).any fun z => PyData.eqv z (.tuple [.int x.1, .int x.2])) = decide (x ∈ as) := by
  induction as with
  | nil => rfl
  | cons y r ih =>
    simp only [List.map_cons, List.any_cons, ih, PyData.eqv, PyData.eqvAll, List.mem_cons]
    by_cases e : x = y
    · subst e; simp
    · have e2 : ¬ (y.1 = x.1 ∧ y.2 = x.2) := fun ⟨h1, h2⟩ => e (Prod.ext h1.symm h2.symm)
      by_cases h1 : y.1 = x.1
      · have h2 : ¬ y.2 = x.2 := fun z => e2 ⟨h1, z⟩
        simp [e, h2]
      · simp [e, h1]
theorem inB_prs (x : Int × Int) (as : List (Int × Int)) : inB (.tup [.int x.1, .int x.2]) (.lst (as.map mkPr)) = some (decide (x ∈ as)) := by
  have hs : SeqAt.shaped (.tuple [.int x.1, .int x.2]) = true := by unfold SeqAt.shaped; simp [PyData.canLay0, PyData.canLayAll0, PyData.depth, PyData.depthAll]
  have hs2 : SeqAt.shaped (.list (as.map fun a => .tuple [.int a.1, .int a.2])) = true := by
    have := depth_prs as
    unfold SeqAt.shaped
    simp only [PyData.canLay0, lay_prs, PyData.depth, Bool.true_and, decide_eq_true_eq]
    exact decide_eq_true (Nat.le_trans (Nat.succ_le_succ this) (show 2 ≤ 64 by omega))
  show (match toPy (.tup [.int x.1, .int x.2]), toPys (as.map mkPr) with
    | some p, some qs => if SeqAt.shaped p = true ∧ SeqAt.shaped (.list qs) = true then some (qs.any fun z => PyData.eqv z p) else none
    | _, _ => none) = _
  rw [toPys_prs]
  have et : toPy (.tup [.int x.1, .int x.2]) = some (.tuple [.int x.1, .int x.2]) := by simp [toPy, toPys]
  rw [et]
  simp only [hs, hs2, and_self, if_true, any_prs]
structure AnsOk (S R : Int) (as : List (Int × Int)) : Prop where
  few : as.length ≤ 8
  nd : as.Nodup
  rg : ∀ a ∈ as, (0 ≤ a.1 ∧ a.1 < R) ∧ (0 ≤ a.2 ∧ a.2 < S)
theorem AnsOk.sort {S R : Int} {as : List (Int × Int)} (h : AnsOk S R as) : AnsOk S R (as.mergeSort leP) :=
  have pm := List.mergeSort_perm as leP
  ⟨by rw [pm.length_eq]; exact h.few, pm.nodup_iff.mpr h.nd, fun a ha => h.rg a (pm.mem_iff.mp ha)⟩
def AnSl (p : D) (S R : Int) (c : D) (as : List (Int × Int)) (s6 s7 : Sl) : List Sl := [.pn p, .fz (.int S), .fz (.int R), .fz (.bl false), .fz c, .ow (.lst (as.map mkPr)), s6, s7]
def AnI (S R : Int) (c : D) (i : Nat) (G : List Sl) : Prop := ∃ (p : D) (as : List (Int × Int)) (s6 s7 : Sl), IsPool p ∧ as.length ≤ i ∧ as.Nodup ∧ (∀ a ∈ as, (0 ≤ a.1 ∧ a.1 < R) ∧ (0 ≤ a.2 ∧ a.2 < S)) ∧ stOk s6 = true ∧ stOk s7 = true ∧ G = AnSl p S R c as s6 s7
theorem answers_step {S R : Int} {c : D} {p : D} {as : List (Int × Int)} {s6 s7 : Sl} {i : Nat} (hi : i ≤ 7) (hS : 1 ≤ S ∧ S ≤ 8) (hR : 1 ≤ R ∧ R ≤ 4) (hp : IsPool p) (h1 : as.length ≤ i) (h2 : as.Nodup) (h3 : ∀ a ∈ as, (0 ≤ a.1 ∧ a.1 < R) ∧ (0 ≤ a.2 ∧ a.2 < S)) (h6 : stOk s6 = true) (h7 : stOk s7 = true) :
    Wp (c__law_answers_3 (AnSl p S R c as s6 s7)) (fun r => match r with | .ok .nx g => AnI S R c (i + 1) g | _ => False) := by
  obtain ⟨p1, r, q1, q2, q3, q4⟩ := draw_ok hp (m := R) (by omega) (by omega)
  obtain ⟨p2, t, r1, r2, r3, r4⟩ := draw_ok q1 (m := S) (by omega) (by omega)
  unfold c__law_answers_3
  refine Wp_seq ?_
  simp [AnSl, ownD, reS, q4, r4, h7]
  have ein := inB_prs (r, t) as
  simp only at ein
  unfold c__law_answers_4
  by_cases hm : (r, t) ∈ as
  · simp [niD, ein, hm]
    exact ⟨p2, as, _, _, r1, by omega, h2, h3, h6, rfl, rfl⟩
  · have hl : as.length < 1000000 := by omega
    simp [niD, ein, hm, ownD, reS, tyD, hl]
    refine ⟨p2, as ++ [(r, t)], _, _, r1, by simp; omega, ?_, ?_, h6, rfl, by simp [AnSl, mkPr]; rfl⟩
    · rw [List.nodup_append]
      exact ⟨h2, by simp, by intro a ha b hb; simp at hb; subst hb; exact fun z => hm (z ▸ ha)⟩
    · intro b hb
      rcases List.mem_append.mp hb with h | h
      · exact h3 _ h
      · simp at h; subst h; exact ⟨⟨q2, q3⟩, r2, r3⟩
theorem answers_ok {p : D} (hp : IsPool p) {S R : Int} (hS : 1 ≤ S ∧ S ≤ 8) (hR : 1 ≤ R ∧ R ≤ 4) : ∃ (p' : D) (as : List (Int × Int)), IsPool p' ∧ AnsOk S R as ∧ F__law_answers p [.int S, .int R, .bl false] = some (p', .v (.lst (as.map mkPr)) true) := by
  have w := fnP_run (N := 8) (n := 3) (m := m__law_answers) (d := p) (ds := [.int S, .int R, .bl false]) (P := fun p' o => ∃ as : List (Int × Int), IsPool p' ∧ AnsOk S R as ∧ o = .v (.lst (as.map mkPr)) true) ?_
  · obtain ⟨p', o, ⟨ns, a, b, rfl⟩, e⟩ := w
    exact ⟨p', ns, a, b, e⟩
  intro Q hQ
  rw [e__law_answers]
  unfold c__law_answers_0
  refine Wp_seq ?_
  obtain ⟨p1, k, q1, q2, q3, q4⟩ := draw_ok hp (m := 8) (by omega) (by omega)
  obtain ⟨x, hx, ex⟩ := pick_at (ps := [(.int 1, false), (.int 1, false), (.int 1, false), (.int 1, false), (.int 2, false), (.int 3, false), (.int 8, false), (.int 0, false)]) q2 (by simpa using q3)
  obtain ⟨z, z2, rfl⟩ : ∃ z : Nat, z ≤ 8 ∧ x = (.int z, false) := by
    simp only [List.not_mem_nil, List.mem_cons, or_false] at hx
    rcases hx with rfl | rfl | rfl | rfl | rfl | rfl | rfl | rfl
    · exact ⟨1, by omega, rfl⟩
    · exact ⟨1, by omega, rfl⟩
    · exact ⟨1, by omega, rfl⟩
    · exact ⟨1, by omega, rfl⟩
    · exact ⟨2, by omega, rfl⟩
    · exact ⟨3, by omega, rfl⟩
    · exact ⟨8, by omega, rfl⟩
    · exact ⟨0, by omega, rfl⟩
  simp [ownD, reS, q4, ex]
  unfold c__law_answers_1
  refine Wp_seq ?_
  simp
  unfold c__law_answers_2
  refine Wp_seq ?_
  have hm1 : okR (z : Int) = true := okR_nat (by omega)
  have e1 : max2D [.int (z : Int), .int 0] = some (.int (z : Int)) := by
    simp [max2D]; omega
  simp [e1, hm1]
  refine Wp_for (stS_er 6) (AnI S R (.int z)) (rngD 0 z) 0 _ ⟨p1, [], .no, .no, q1, by simp, by simp, by simp, rfl, rfl, rfl⟩ ?_ ?_
  · rintro i d G hi ⟨p1, as, s6, s7, a1, a2, a3, a4, a5, a6, rfl⟩
    have hl : i < z := by
      have := ((List.getElem?_eq_some_iff.mp hi).1)
      simpa [rngD] using this
    have w := answers_step (S := S) (R := R) (c := .int z) (s6 := .fz d) (i := i) (by omega) hS hR a1 (by omega) a3 a4 rfl a6
    have e : stepF (fun d => stS 6 d false) c__law_answers_3 d (AnSl p1 S R (.int z) as s6 s7) = c__law_answers_3 (AnSl p1 S R (.int z) as (.fz d) s7) := by simp [AnSl, a5]
    rw [e]
    refine w.mono fun x hx => ?_
    cases x with
    | er c fs g => exact hx
    | ok a g => cases a <;> first | exact hx.elim | (rw [show 0 + i + 1 = i + 1 by omega]; exact hx)
  · rintro G ⟨p1, as, s6, s7, a1, a2, a3, a4, a5, a6, rfl⟩
    have hl : as.length ≤ 8 := by simp [rngD] at a2; omega
    simp [AnSl, c__law_answers_5, sortL, sortD_prs]
    exact hQ _ _ _ rfl ⟨_, a1, AnsOk.sort ⟨hl, a3, a4⟩, rfl⟩
end G

set_option Elab.async false
set_option linter.all false
set_option maxRecDepth 100000
set_option maxHeartbeats 4000001
namespace G
open PySem PySem.Spec PyProof.Rows L2 L2.TT
/-! ### methods -/
abbrev Ans := List (Int × Int)
def ansD (as : Ans) : D := .lst (as.map mkPr)
def rowD (r : List Ans) : D := .lst (r.map ansD)
structure Md where
  A : Nat
  R : Nat
  rows : List (List Ans)
def Md.d (m : Md) : D := .tup [.int m.A, .int m.R, .lst (m.rows.map rowD)]
structure MdOk (S : Nat) (m : Md) : Prop where
  a : 1 ≤ m.A ∧ m.A ≤ 4
  r : 1 ≤ m.R ∧ m.R ≤ 4
  n : m.rows.length = S
  row : ∀ r ∈ m.rows, r.length = m.A ∧ ∀ as ∈ r, AnsOk S m.R as
theorem cells_ok {S R A : Nat} {p : D} {s5 s6 : Sl} (hS : 1 ≤ S ∧ S ≤ 8) (hR : 1 ≤ R ∧ R ≤ 4) (hA : A ≤ 4) (hp : IsPool p) : ∃ (p' : D) (r : List Ans), IsPool p' ∧ r.length = A ∧ (∀ as ∈ r, AnsOk S R as) ∧
    compL [7] (fun d => stS 7 d false) (ret true) (frz (callPM 0 3 F__law_answers (cnsM (gv 1) (cnsM (gv 4) (cnsM (gv 2) (ret [])))))) (rngD 0 A) [] [.pn p, .fz (.int S), .fz (.bl false), .fz (.int A), .fz (.int R), s5, s6, .no]
      = some (.ok (r.map ansD) [.pn p', .fz (.int S), .fz (.bl false), .fz (.int A), .fz (.int R), s5, s6, .no]) := by
  have w := Wp_comp (vs := [7]) (gm := fun d => stS 7 d false) (mt := ret true) (me := frz (callPM 0 3 F__law_answers (cnsM (gv 1) (cnsM (gv 4) (cnsM (gv 2) (ret [])))))) (Q := fun x => ∃ (p' : D) (r : List Ans), IsPool p' ∧ r.length = A ∧ (∀ as ∈ r, AnsOk S R as) ∧ x = .ok (r.map ansD) [.pn p', .fz (.int S), .fz (.bl false), .fz (.int A), .fz (.int R), s5, s6, .no])
    (fun i acc G => ∃ (p' : D) (r : List Ans), IsPool p' ∧ r.length = i ∧ (∀ as ∈ r, AnsOk S R as) ∧ acc = r.map ansD ∧ G = [.pn p', .fz (.int S), .fz (.bl false), .fz (.int A), .fz (.int R), s5, s6, .no]) (rngD 0 A) 0 [] [.pn p, .fz (.int S), .fz (.bl false), .fz (.int A), .fz (.int R), s5, s6, .no] ⟨p, [], hp, rfl, by simp, rfl, rfl⟩ ?_ ?_
  · obtain ⟨x, e, p', cs, h1, h2, h3, rfl⟩ := w
    exact ⟨p', cs, h1, h2, h3, e⟩
  · rintro i d acc G hi ⟨p1, cs, q1, q2, q3, rfl, rfl⟩
    obtain ⟨p2, as, r1, r2, r4⟩ := answers_ok q1 (S := S) (R := R) (by omega) (by omega)
    have hi' : i < A := by
      have := ((List.getElem?_eq_some_iff.mp hi).1)
      simpa [rngD] using this
    simp [ownD, reS, r4]
    refine ⟨by omega, p2, r1, cs ++ [as], by simp [q2], ?_, by simp [ansD], rfl⟩
    intro c' hc
    rcases (List.mem_append.mp hc) with h | h
    · exact q3 _ h
    · simp at h; subst h; exact r2
  · rintro acc G ⟨p1, cs, q1, q2, q3, rfl, rfl⟩
    exact ⟨p1, cs, q1, by simpa [rngD] using q2, q3, rfl⟩
def MtSl (p : D) (S A R : Nat) (rows : List (List Ans)) (s6 : Sl) : List Sl := [.pn p, .fz (.int S), .fz (.bl false), .fz (.int A), .fz (.int R), .ow (.lst (rows.map rowD)), s6, .no]
def MtI (S A R : Nat) (i : Nat) (G : List Sl) : Prop := ∃ (p : D) (rows : List (List Ans)) (s6 : Sl), IsPool p ∧ rows.length = i ∧ (∀ r ∈ rows, r.length = A ∧ ∀ as ∈ r, AnsOk S R as) ∧ stOk s6 = true ∧ G = MtSl p S A R rows s6
theorem pick5 {p1 : D} {k : Int} (h0 : 0 ≤ k) (h1 : k < 5) {a b c d e : Nat} (h : (1 ≤ a ∧ a ≤ 4) ∧ (1 ≤ b ∧ b ≤ 4) ∧ (1 ≤ c ∧ c ≤ 4) ∧ (1 ≤ d ∧ d ≤ 4) ∧ (1 ≤ e ∧ e ≤ 4)) : ∃ z : Nat, 1 ≤ z ∧ z ≤ 4 ∧ L2.atI [((.int a : D), false), (.int b, false), (.int c, false), (.int d, false), (.int e, false)] k = some (.int z, false) := by
  obtain ⟨x, hx, ex⟩ := pick_at (ps := [((.int a : D), false), (.int b, false), (.int c, false), (.int d, false), (.int e, false)]) h0 (by simpa using h1)
  simp only [List.not_mem_nil, List.mem_cons, or_false] at hx
  rcases hx with rfl | rfl | rfl | rfl | rfl
  · exact ⟨_, h.1.1, h.1.2, ex⟩
  · exact ⟨_, h.2.1.1, h.2.1.2, ex⟩
  · exact ⟨_, h.2.2.1.1, h.2.2.1.2, ex⟩
  · exact ⟨_, h.2.2.2.1.1, h.2.2.2.1.2, ex⟩
  · exact ⟨_, h.2.2.2.2.1, h.2.2.2.2.2, ex⟩
theorem method_ok {p : D} (hp : IsPool p) {S : Nat} (hS : 1 ≤ S ∧ S ≤ 8) : ∃ (p' : D) (m : Md), IsPool p' ∧ MdOk S m ∧ F__law_method p [.int S, .bl false] = some (p', .v m.d false) := by
  have w := fnP_run (N := 8) (n := 2) (m := m__law_method) (d := p) (ds := [.int S, .bl false]) (P := fun p' o => ∃ m : Md, IsPool p' ∧ MdOk S m ∧ o = .v m.d false) ?_
  · obtain ⟨p', o, ⟨ns, a, b, rfl⟩, e⟩ := w
    exact ⟨p', ns, a, b, e⟩
  intro Q hQ
  rw [e__law_method]
  unfold c__law_method_0
  refine Wp_seq ?_
  obtain ⟨p1, k, q1, q2, q3, q4⟩ := draw_ok hp (m := 5) (by omega) (by omega)
  obtain ⟨A, a1, a2, ea⟩ := pick5 (p1 := p) q2 q3 (a := 1) (b := 1) (c := 2) (d := 3) (e := 4) (by omega)
  obtain ⟨p2, j, r1, r2, r3, r4⟩ := draw_ok q1 (m := 5) (by omega) (by omega)
  obtain ⟨R, b1, b2, eb⟩ := pick5 (p1 := p) r2 r3 (a := 1) (b := 2) (c := 2) (d := 3) (e := 4) (by omega)
  simp at ea eb
  simp [ownD, reS, q4, ea]
  unfold c__law_method_1
  refine Wp_seq ?_
  simp [ownD, reS, r4, eb]
  unfold c__law_method_2
  refine Wp_seq ?_
  simp
  unfold c__law_method_3
  refine Wp_seq ?_
  have hm1 : okR (S : Int) = true := okR_nat (by omega)
  have hm2 : okR (A : Int) = true := okR_nat (by omega)
  simp [hm1]
  refine Wp_for (stS_er 6) (MtI S A R) (rngD 0 S) 0 _ ⟨p2, [], .no, r1, by simp, by simp, rfl, rfl⟩ ?_ ?_
  · rintro i d G hi ⟨p1, rows, s6, c1, c2, c3, c4, rfl⟩
    have hl : i < S := by
      have := ((List.getElem?_eq_some_iff.mp hi).1)
      simpa [rngD] using this
    obtain ⟨p3, r, d1, d2, d3, d4⟩ := cells_ok (S := S) (R := R) (A := A) (s5 := .ow (.lst (rows.map rowD))) (s6 := .fz d) hS ⟨b1, b2⟩ a2 c1
    have hl2 : rows.length < 1000000 := by omega
    simp [MtSl, c4, c__law_method_4, hm2, d4, ownD, reS, tyD, hl2]
    refine ⟨p3, rows ++ [r], .fz d, d1, by simp; omega, ?_, rfl, by simp [MtSl, rowD]⟩
    intro b hb
    rcases List.mem_append.mp hb with h | h
    · exact c3 _ h
    · simp at h; subst h; exact ⟨d2, d3⟩
  · rintro G ⟨p1, rows, s6, c1, c2, c3, c4, rfl⟩
    simp [MtSl, c__law_method_5]
    exact hQ _ _ _ rfl ⟨⟨A, R, rows⟩, c1, ⟨⟨a1, a2⟩, ⟨b1, b2⟩, by simpa [rngD] using c2, c3⟩, rfl⟩
end G

set_option Elab.async false
set_option linter.all false
set_option maxRecDepth 100000
set_option maxHeartbeats 4000001
namespace G
open PySem PySem.Spec PyProof.Rows L2 L2.TT
/-! ### models -/
theorem putD_new {k : Key} {v : D} : ∀ {ks : List Key} {ds : List D}, ks.length = ds.length → k ∉ ks → putD ks ds k v = (ks ++ [k], ds ++ [v])
  | [], [], _, _ => rfl
  | k' :: ks, d :: ds, hl, h => by
    simp only [List.mem_cons, not_or] at h
    have ih := putD_new (k := k) (v := v) (ks := ks) (ds := ds) (by simpa using hl) h.2
    unfold putD
    rw [if_neg (fun z => h.1 z.symm), ih]
    rfl
@[simp] theorem setIx_dic (ks : List Key) (ds : List D) (x : Str) (v : D) : setIxD (.dic ks ds) (.str x) v = if ks.Nodup ∧ ks.length < 1000000 then some (.dic (putD ks ds (.inr x) v).1 (putD ks ds (.inr x) v).2) else none := (rfl)
structure Mo where
  S : Nat
  s : Nat
  ns : List Str
  ms : List Md
def keysOf (ns : List Str) : List Key := ns.map .inr
def Mo.t (m : Mo) : D := .dic (keysOf m.ns) (m.ms.map Md.d)
def Mo.d (m : Mo) : D := .lst [.int m.S, .int m.s, m.t]
structure MoOk (m : Mo) : Prop where
  S : 1 ≤ m.S ∧ m.S ≤ 8
  s : m.s < m.S
  n : 1 ≤ m.ns.length ∧ m.ns.length ≤ 4
  nd : m.ns.Nodup
  nm : ∀ x ∈ m.ns, Nm x
  l : m.ms.length = m.ns.length
  md : ∀ x ∈ m.ms, MdOk m.S x
theorem keys_nodup {ns : List Str} (h : ns.Nodup) : (keysOf ns).Nodup := List.Pairwise.map _ (fun a b (e : a ≠ b) (z : (Sum.inr a : Key) = Sum.inr b) => e (Sum.inr.inj z)) h
theorem mem_keys {ns : List Str} {x : Str} : (Sum.inr x : Key) ∈ keysOf ns ↔ x ∈ ns := by
  unfold keysOf
  rw [List.mem_map]
  exact ⟨fun ⟨a, h, e⟩ => by cases e; exact h, fun h => ⟨x, h, rfl⟩⟩
def MoSl (p : D) (S : Nat) (ns : List Str) (ms : List Md) (s5 : Sl) : List Sl := [.pn p, .fz (.bl false), .fz (.int 4), .fz (.int S), .ow (.dic (keysOf ns) (ms.map Md.d)), s5]
def MoI (S : Nat) (ns : List Str) (i : Nat) (G : List Sl) : Prop := ∃ (p : D) (ms : List Md) (s5 : Sl), IsPool p ∧ ms.length = i ∧ (∀ m ∈ ms, MdOk S m) ∧ stOk s5 = true ∧ G = MoSl p S (ns.take i) ms s5
theorem model_ok {p : D} (hp : IsPool p) : ∃ (p' : D) (m : Mo), IsPool p' ∧ MoOk m ∧ F__law_model p [.bl false, .int 4] = some (p', .v m.d true) := by
  have w := fnP_run (N := 6) (n := 2) (m := m__law_model) (d := p) (ds := [.bl false, .int 4]) (P := fun p' o => ∃ m : Mo, IsPool p' ∧ MoOk m ∧ o = .v m.d true) ?_
  · obtain ⟨p', o, ⟨ns, a, b, rfl⟩, e⟩ := w
    exact ⟨p', ns, a, b, e⟩
  intro Q hQ
  rw [e__law_model]
  unfold c__law_model_0
  refine Wp_seq ?_
  obtain ⟨p1, k, q1, q2, q3, q4⟩ := draw_ok hp (m := 6) (by omega) (by omega)
  obtain ⟨x, hx, ex⟩ := pick_at (ps := [(.int 1, false), (.int 2, false), (.int 2, false), (.int 3, false), (.int 4, false), (.int 8, false)]) q2 (by simpa using q3)
  obtain ⟨S, hS1, hS2, rfl⟩ : ∃ z : Nat, 1 ≤ z ∧ z ≤ 8 ∧ x = (.int z, false) := by
    simp only [List.not_mem_nil, List.mem_cons, or_false] at hx
    rcases hx with rfl | rfl | rfl | rfl | rfl | rfl
    · exact ⟨1, by omega, by omega, rfl⟩
    · exact ⟨2, by omega, by omega, rfl⟩
    · exact ⟨2, by omega, by omega, rfl⟩
    · exact ⟨3, by omega, by omega, rfl⟩
    · exact ⟨4, by omega, by omega, rfl⟩
    · exact ⟨8, by omega, by omega, rfl⟩
  simp [ownD, reS, q4, ex]
  unfold c__law_model_1
  refine Wp_seq ?_
  simp
  unfold c__law_model_2
  refine Wp_seq ?_
  obtain ⟨p2, j, r1, r2, r3, r4⟩ := draw_ok q1 (m := 4) (by omega) (by omega)
  obtain ⟨p3, ns, t1, t2, t3, t4, t5⟩ := names_ok r1 (m := 1 + j) (by omega) (by omega)
  simp [ownD, reS, r4, t5]
  refine Wp_for (stS_er 5) (MoI S ns) (ns.map .str) 0 _ ⟨p3, [], .no, t1, by simp, by simp, rfl, rfl⟩ ?_ ?_
  · rintro i d G hi ⟨p1, ms, s5, c1, c2, c3, c4, rfl⟩
    have hl : i < ns.length := by
      have := ((List.getElem?_eq_some_iff.mp hi).1)
      simpa using this
    have hd : d = .str ns[i] := by
      rw [List.getElem?_map, List.getElem?_eq_getElem hl] at hi
      exact (Option.some.inj hi).symm
    subst hd
    obtain ⟨p4, m, d1, d2, d3⟩ := method_ok c1 (S := S) ⟨hS1, hS2⟩
    rw [Nat.zero_add] at c2
    have nin : (Sum.inr ns[i] : Key) ∉ keysOf (ns.take i) := fun z => by
      have z := mem_keys.mp z
      obtain ⟨j, hj, e⟩ := List.getElem_of_mem z
      rw [List.getElem_take] at e
      have hj' : j < i := by rw [List.length_take] at hj; omega
      exact List.pairwise_iff_getElem.mp t3 j i (by omega) hl hj' e
    have hlen : (keysOf (ns.take i)).length = (ms.map Md.d).length := by
      unfold keysOf
      rw [List.length_map, List.length_map, List.length_take, c2]
      omega
    have nd : (keysOf (ns.take i)).Nodup := keys_nodup (t3.sublist (List.take_sublist _ _))
    have few : (keysOf (ns.take i)).length < 1000000 := by rw [hlen, List.length_map]; omega
    simp [MoSl, c4, c__law_model_3, ownD, reS, d3, nd, few, putD_new hlen nin]
    refine ⟨p4, ms ++ [m], .fz (.str ns[i]), d1, by simp; omega, ?_, rfl, ?_⟩
    · intro b hb
      rcases List.mem_append.mp hb with h | h
      · exact c3 _ h
      · simp at h; subst h; exact d2
    · simp only [MoSl, List.map_append, List.map_cons, List.map_nil]
      rw [show keysOf (ns.take (i + 1)) = keysOf (ns.take i) ++ [Sum.inr ns[i]] by
        unfold keysOf
        rw [List.take_add_one, List.getElem?_eq_getElem hl, List.map_append]
        rfl]
  · rintro G ⟨p1, ms, s5, c1, c2, c3, c4, rfl⟩
    simp at c2
    obtain ⟨p5, z, z1, z2, z3, z4⟩ := draw_ok c1 (m := S) (by omega) (by omega)
    obtain ⟨z, rfl⟩ := Int.eq_ofNat_of_zero_le z2
    simp [MoSl, c__law_model_4, ownD, reS, z4]
    refine hQ _ _ _ rfl ⟨⟨S, z, ns, ms⟩, z1, ⟨⟨hS1, hS2⟩, by show z < S; omega, by show 1 ≤ ns.length ∧ ns.length ≤ 4; omega, t3, t4, c2, c3⟩, ?_⟩
    simp [Mo.d, Mo.t]
end G

set_option Elab.async false
set_option linter.all false
set_option maxRecDepth 100000
set_option maxHeartbeats 4000001
namespace G
open PySem PySem.Spec PyProof.Rows L2 L2.TT
/-! ### copies -/
def Pl : Nat → D → Prop
  | 0, _ => False
  | n + 1, .lst ds => ds.length ≤ 1000 ∧ ∀ d ∈ ds, Pl n d
  | n + 1, .tup ds => ds.length ≤ 1000 ∧ ∀ d ∈ ds, Pl n d
  | n + 1, .dic ks ds => ks.Nodup ∧ ks.length = ds.length ∧ ks.length ≤ 1000 ∧ ∀ d ∈ ds, Pl n d
  | n + 1, .dit ks ds => ks ≠ [] ∧ ks.Nodup ∧ ks.length = ds.length ∧ ks.length ≤ 1000 ∧ ∀ d ∈ ds, Pl n d
  | _ + 1, .kl _ => False
  | _ + 1, .obj _ _ _ => False
  | _ + 1, .str x => x.length ≤ 1000000
  | _ + 1, _ => True
theorem copied_list {n : Nat} {ds : List D} (ih : ∀ d ∈ ds, ∃ o, F__law_copied n [d] = some (.v d o)) (hl : ds.length ≤ 1000) (s : Sl) :
    compL [3] (fun d => stS 3 d false) (ret true) (frz (callM 1 (F__law_copied n) (cnsM (gv 3) (ret [])))) ds [] [s, .no, .no, .no] = some (.ok ds [s, .no, .no, .no]) := by
  have e := compL_map (vs := [3]) (gm := fun d => stS 3 d false) (mt := ret true) (me := frz (callM 1 (F__law_copied n) (cnsM (gv 3) (ret [])))) (G := [s, .no, .no, .no]) (f := id) ds [] (by simp; omega) (fun d hd => by
    obtain ⟨o, e⟩ := ih d hd
    exact ⟨[s, .no, .no, .fz d], by simp [e], by simp⟩)
  simpa using e
theorem toKey_keyD (k : Key) : toKey (keyD k) = some k := by cases k <;> rfl
theorem dlook_at : ∀ {ks : List Key} {ds : List D} {i : Nat} (hk : ks.Nodup) (hl : ks.length = ds.length) (h : i < ks.length), dlook ks ds ks[i] = some (ds[i]'(hl ▸ h))
  | k :: ks, d :: ds, 0, hk, hl, h => by simp [dlook]
  | k :: ks, d :: ds, i + 1, hk, hl, h => by
    rw [List.nodup_cons] at hk
    have h' : i < ks.length := by simpa using h
    have ne : ¬ k = ks[i] := fun z => hk.1 (by rw [z]; exact List.getElem_mem h')
    simp only [List.getElem_cons_succ, dlook, if_neg ne]
    exact dlook_at hk.2 (by simpa using hl) h'
@[simp] theorem ixD_key (ks : List Key) (ds : List D) (k : Key) : ixD (.dic ks ds) (keyD k) = dlook ks ds k := by cases k <;> rfl
@[simp] theorem setIx_key (ks : List Key) (ds : List D) (k : Key) (v : D) : setIxD (.dic ks ds) (keyD k) v = if ks.Nodup ∧ ks.length < 1000000 then some (.dic (putD ks ds k v).1 (putD ks ds k v).2) else none := by cases k <;> rfl
def CpI (ks : List Key) (ds : List D) (i : Nat) (G : List Sl) : Prop := ∃ s2 : Sl, stOk s2 = true ∧ True ∧ G = [.fz (.dic ks ds), .ow (.dic (ks.take i) (ds.take i)), s2, .no]
theorem copied_dict {n : Nat} {ks : List Key} {ds : List D} (ih : ∀ d ∈ ds, ∃ o, F__law_copied n [d] = some (.v d o)) (hn : ks.Nodup) (hl : ks.length = ds.length) (hf : ks.length ≤ 1000) :
    ∃ s2, True ∧ TT.forM (fun d => stS 2 d false) (c__law_copied_3 (F__law_copied n)) (ks.map keyD) [.fz (.dic ks ds), .ow (.dic [] []), .no, .no] = some (.ok .nx [.fz (.dic ks ds), .ow (.dic ks ds), s2, .no]) := by
  have w := Wp_for (gm := fun d => stS 2 d false) (body := c__law_copied_3 (F__law_copied n)) (stS_er 2) (Q := fun r => ∃ s2, True ∧ r = .ok .nx [.fz (.dic ks ds), .ow (.dic ks ds), s2, .no]) (CpI ks ds) (ks.map keyD) 0 [.fz (.dic ks ds), .ow (.dic [] []), .no, .no] ⟨.no, rfl, trivial, by simp⟩ ?_ ?_
  · obtain ⟨x, e, s2, h2, rfl⟩ := w
    exact ⟨s2, h2, e⟩
  · rintro i d G hi ⟨s2, h2, h3, rfl⟩
    have hi' : i < ks.length := by
      have := ((List.getElem?_eq_some_iff.mp hi).1)
      simpa using this
    have hd : d = keyD ks[i] := by
      rw [List.getElem?_map, List.getElem?_eq_getElem hi'] at hi
      exact (Option.some.inj hi).symm
    subst hd
    have hids : i < ds.length := by omega
    obtain ⟨o, e⟩ := ih ds[i] (List.getElem_mem _)
    have e2 := dlook_at hn hl hi'
    have nin : ks[i] ∉ ks.take i := fun z => by
      obtain ⟨j, hj, e⟩ := List.getElem_of_mem z
      rw [List.getElem_take] at e
      have hj' : j < i := by rw [List.length_take] at hj; omega
      exact List.pairwise_iff_getElem.mp hn j i (by omega) hi' hj' e
    have ep := putD_new (k := ks[i]) (v := ds[i]) (ks := ks.take i) (ds := ds.take i) (by simp [hl]) nin
    have nd : (ks.take i).Nodup := hn.sublist (List.take_sublist _ _)
    have few : (ks.take i).length < 1000000 := by rw [List.length_take]; omega
    have few2 : min i ks.length < 1000000 := by omega
    simp [h2, c__law_copied_3, e2, e, ownD, reS, nd, few2, ep]
    refine ⟨.fz (keyD ks[i]), rfl, trivial, ?_⟩
    rw [List.take_add_one, List.take_add_one, List.getElem?_eq_getElem hi', List.getElem?_eq_getElem hids]
    try rfl
  · rintro G ⟨s2, h2, h3, rfl⟩
    refine ⟨s2, h3, ?_⟩
    simp [hl]
    rw [← hl, List.take_length]
/-! tuple keys: the empty dict, then one with tuple keys -/
def accT (ks : List (List Key)) (ds : List D) : D := if ks = [] then .dic [] [] else .dit ks ds
theorem toTK_keys : ∀ (k : List Key), toTK (k.map keyD) = some k
  | [] => rfl
  | x :: k => by simp only [List.map_cons, toTK, toKey_keyD, toTK_keys k]
@[simp] theorem tkD_key (k : List Key) : tkD (tkeyD k) = some k := toTK_keys k
@[simp] theorem toKey_tkey (k : List Key) : toKey (tkeyD k) = none := (rfl)
@[simp] theorem ixD_tkey (ks : List (List Key)) (ds : List D) (k : List Key) : ixD (.dit ks ds) (tkeyD k) = tlook ks ds k := by
  show (match tkD (tkeyD k) with | some k => tlook ks ds k | none => none) = _
  rw [tkD_key]
theorem putT_new {k : List Key} {v : D} : ∀ {ks : List (List Key)} {ds : List D}, ks.length = ds.length → k ∉ ks → putT ks ds k v = (ks ++ [k], ds ++ [v])
  | [], [], _, _ => rfl
  | k' :: ks, d :: ds, h, n => by
    rw [List.mem_cons, not_or] at n
    have ih := putT_new (k := k) (v := v) (ks := ks) (ds := ds) (by simpa using h) n.2
    simp only [putT, if_neg (Ne.symm n.1), ih, List.cons_append]
theorem setIx_acc {ks : List (List Key)} {ds : List D} {k : List Key} {v : D} (hl : ks.length = ds.length) (hn : ks.Nodup) (nin : k ∉ ks) (hf : ks.length ≤ 1000) : setIxD (accT ks ds) (tkeyD k) v = some (accT (ks ++ [k]) (ds ++ [v])) := by
  unfold accT
  by_cases h : ks = []
  · subst h
    have : ds = [] := List.eq_nil_of_length_eq_zero hl.symm
    subst this
    simp only [if_true, setIxD, toKey_tkey, tkD_key, List.nil_append]
    rfl
  · rw [if_neg h, if_neg (by simp)]
    have few : ks.length < 1000000 := by omega
    simp only [setIxD, tkD_key, hn, few, and_self, if_true, putT_new hl nin]
theorem tlook_at : ∀ {ks : List (List Key)} {ds : List D} {i : Nat} (hk : ks.Nodup) (hl : ks.length = ds.length) (h : i < ks.length), tlook ks ds ks[i] = some (ds[i]'(hl ▸ h))
  | k :: ks, d :: ds, 0, hk, hl, h => by simp [tlook]
  | k :: ks, d :: ds, i + 1, hk, hl, h => by
    rw [List.nodup_cons] at hk
    have h' : i < ks.length := by simpa using h
    have ne : ¬ k = ks[i] := fun z => hk.1 (by rw [z]; exact List.getElem_mem h')
    simp only [List.getElem_cons_succ, tlook, if_neg ne]
    exact tlook_at hk.2 (by simpa using hl) h'
def CtI (ks : List (List Key)) (ds : List D) (i : Nat) (G : List Sl) : Prop := ∃ s2 : Sl, stOk s2 = true ∧ G = [.fz (.dit ks ds), .ow (accT (ks.take i) (ds.take i)), s2, .no]
theorem copied_dit {n : Nat} {ks : List (List Key)} {ds : List D} (ih : ∀ d ∈ ds, ∃ o, F__law_copied n [d] = some (.v d o)) (h0 : ks ≠ []) (hn : ks.Nodup) (hl : ks.length = ds.length) (hf : ks.length ≤ 1000) :
    ∃ s2, TT.forM (fun d => stS 2 d false) (c__law_copied_3 (F__law_copied n)) (ks.map tkeyD) [.fz (.dit ks ds), .ow (.dic [] []), .no, .no] = some (.ok .nx [.fz (.dit ks ds), .ow (.dit ks ds), s2, .no]) := by
  have w := Wp_for (gm := fun d => stS 2 d false) (body := c__law_copied_3 (F__law_copied n)) (stS_er 2) (Q := fun r => ∃ s2, r = .ok .nx [.fz (.dit ks ds), .ow (.dit ks ds), s2, .no]) (CtI ks ds) (ks.map tkeyD) 0 [.fz (.dit ks ds), .ow (.dic [] []), .no, .no] ⟨.no, rfl, by simp [accT]⟩ ?_ ?_
  · obtain ⟨x, e, s2, rfl⟩ := w
    exact ⟨s2, e⟩
  · rintro i d G hi ⟨s2, h2, rfl⟩
    have hi' : i < ks.length := by
      have := ((List.getElem?_eq_some_iff.mp hi).1)
      simpa using this
    have hd : d = tkeyD ks[i] := by
      rw [List.getElem?_map, List.getElem?_eq_getElem hi'] at hi
      exact (Option.some.inj hi).symm
    subst hd
    have hids : i < ds.length := by omega
    obtain ⟨o, e⟩ := ih ds[i] (List.getElem_mem _)
    have e2 := tlook_at hn hl hi'
    have nin : ks[i] ∉ ks.take i := fun z => by
      obtain ⟨j, hj, e⟩ := List.getElem_of_mem z
      rw [List.getElem_take] at e
      have hj' : j < i := by rw [List.length_take] at hj; omega
      exact List.pairwise_iff_getElem.mp hn j i (by omega) hi' hj' e
    have ep := setIx_acc (k := ks[i]) (v := ds[i]) (ks := ks.take i) (ds := ds.take i) (by simp [hl]) (hn.sublist (List.take_sublist _ _)) nin (by rw [List.length_take]; omega)
    simp [h2, c__law_copied_3, e2, e, ownD, reS, ep]
    refine ⟨.fz (tkeyD ks[i]), rfl, ?_⟩
    rw [List.take_add_one, List.take_add_one, List.getElem?_eq_getElem hi', List.getElem?_eq_getElem hids]
    try rfl
  · rintro G ⟨s2, h2, rfl⟩
    refine ⟨s2, ?_⟩
    simp [hl]
    rw [← hl, List.take_length]
    simp [accT, h0]
    try rw [hl, List.take_length]
theorem copied_ok : ∀ (n : Nat) (d : D), Pl n d → ∃ o, F__law_copied n [d] = some (.v d o)
  | 0, d, h => h.elim
  | n + 1, .non, h => ⟨false, by simp [F__law_copied, fnM, e__law_copied, c__law_copied_0, c__law_copied_5, c__law_copied_6, c__law_copied_7]⟩
  | n + 1, .bl b, h => ⟨false, by simp [F__law_copied, fnM, e__law_copied, c__law_copied_0, c__law_copied_5, c__law_copied_6, c__law_copied_7]⟩
  | n + 1, .int i, h => ⟨false, by simp [F__law_copied, fnM, e__law_copied, c__law_copied_0, c__law_copied_5, c__law_copied_6, c__law_copied_7]⟩
  | n + 1, .str x, h => ⟨false, by simp [F__law_copied, fnM, e__law_copied, c__law_copied_0, c__law_copied_5, c__law_copied_6, c__law_copied_7]⟩
  | n + 1, .kl ds, h => h.elim
  | n + 1, .obj c ns ds, h => h.elim
  | n + 1, .lst ds, h => by
    have e := copied_list (n := n) (ds := ds) (fun d hd => copied_ok n d (h.2 d hd)) h.1 (.fz (.lst ds))
    exact ⟨true, by simp [F__law_copied, fnM, e__law_copied, c__law_copied_0, c__law_copied_5, c__law_copied_6, c__law_copied_7, e]⟩
  | n + 1, .tup ds, h => by
    have e := copied_list (n := n) (ds := ds) (fun d hd => copied_ok n d (h.2 d hd)) h.1 (.fz (.tup ds))
    exact ⟨false, by simp [F__law_copied, fnM, e__law_copied, c__law_copied_0, c__law_copied_5, c__law_copied_6, c__law_copied_7, e]⟩
  | n + 1, .dic ks ds, h => by
    obtain ⟨s2, h2, e⟩ := copied_dict (n := n) (ks := ks) (ds := ds) (fun d hd => copied_ok n d (h.2.2.2 d hd)) h.1 h.2.1 h.2.2.1
    exact ⟨true, by simp [F__law_copied, fnM, e__law_copied, c__law_copied_0, c__law_copied_1, c__law_copied_2, c__law_copied_4, c__law_copied_5, c__law_copied_6, c__law_copied_7, e, h2]⟩
  | n + 1, .dit ks ds, h => by
    obtain ⟨s2, e⟩ := copied_dit (n := n) (ks := ks) (ds := ds) (fun d hd => copied_ok n d (h.2.2.2.2 d hd)) h.1 h.2.1 h.2.2.1 h.2.2.2.1
    exact ⟨true, by simp [F__law_copied, fnM, e__law_copied, c__law_copied_0, c__law_copied_1, c__law_copied_2, c__law_copied_4, c__law_copied_5, c__law_copied_6, c__law_copied_7, e]⟩
end G

set_option Elab.async false
set_option linter.all false
set_option maxRecDepth 100000
set_option maxHeartbeats 4000001
namespace G
open PySem PySem.Spec PyProof.Rows L2 L2.TT
/-! ### a right model passes -/
theorem allB_true : ∀ {ds : List D}, (∀ d ∈ ds, d = .bl true) → TT.allB ds = some true
  | [], _ => rfl
  | d :: ds, h => by
    rw [h d List.mem_cons_self]
    simp [TT.allB, allB_true (ds := ds) fun x hx => h x (List.mem_cons_of_mem _ hx)]
/-- all([f(x) for x in ds]) where each is True -/
theorem compL_yes {vs : List Nat} {gm : D → M Unit} {mt : M Bool} {me : M D} {G : List Sl} (ds : List D) (hl : ds.length ≤ 1000000) (h : ∀ d ∈ ds, ∃ G', stepC gm mt me d G = some (.ok (some (.bl true)) G') ∧ dropS vs G' = G) : ∃ bs, compL vs gm mt me ds [] G = some (.ok bs G) ∧ TT.allB bs = some true := by
  refine ⟨_, compL_map (f := fun _ => .bl true) ds [] (by simpa using hl) h, allB_true fun d hd => ?_⟩
  simp at hd
  exact hd.2.symm
theorem is_name_ok {x : Str} (h : Nm x) : F_is_name [.str x] = some (.v (.bl true) false) := by
  have hl : x.length = x.cps.toList.length := Array.length_toList.symm
  have h1 := h.lo
  have h2 := h.hi
  obtain ⟨bs, e, eb⟩ := compL_yes (vs := [1]) (gm := fun d => stS 1 d false) (mt := ret true) (me := chV leD leD (ret (.str ("a" : PySem.Str))) (gv 1) (ret (.str ("z" : PySem.Str)))) (G := [.fz (.str x), .no]) (sgs x) (by simp [sgs, -Array.length_toList]; omega) (fun d hd => by
    obtain ⟨c, hc, rfl⟩ := List.mem_map.mp hd
    have hb := h.ab c hc
    refine ⟨[.fz (.str x), .fz (.str ⟨#[c]⟩)], ?_, by simp⟩
    have ea : ("a" : Str).cps.toList = [97] := by decide +kernel
    have ez : ("z" : Str).cps.toList = [122] := by decide +kernel
    have c1 : ¬ c < 97 := by omega
    have c2 : ¬ 122 < c := by omega
    simp [leD_ss, ea, ez, List.cons_lt_cons_iff, c1, c2])
  have hl1 : x.length ≤ 1000000 := by omega
  have g1 : (1 : Int) ≤ (x.length : Int) := by omega
  have g2 : (x.length : Int) ≤ 8 := by omega
  simp [F_is_name, fnM, e_is_name, c_is_name_0, c_is_name_1, e, hl1, allD, eb, g1, g2]
theorem is_answer_ok {S R : Nat} {a : Int × Int} (h : (0 ≤ a.1 ∧ a.1 < R) ∧ (0 ≤ a.2 ∧ a.2 < S)) : F__is_answer [.int S, .int R, mkPr a] = some (.v (.bl true) false) := by
  have e1 := is_row_eq (mkPr a) rfl 2 2
  have e2 := is_below_eq (.int a.1) rfl R
  have e3 := is_below_eq (.int a.2) rfl S
  simp [rowB, rowL, mkPr] at e1
  simp [blw, h] at e2 e3
  simp [F__is_answer, fnM, e__is_answer, c__is_answer_0, e1, e2, e3, mkPr]
theorem are_answers_ok {S R : Nat} {as : Ans} (h : AnsOk S R as) : F__are_answers [.int S, .int R, ansD as] = some (.v (.bl true) false) := by
  have hf := h.few
  have e1 := is_row_eq (ansD as) rfl 0 8
  have hf2 : (as.length : Int) ≤ 8 := by omega
  simp [rowB, rowL, ansD, hf2] at e1
  obtain ⟨bs, e, eb⟩ := compL_yes (vs := [3]) (gm := fun d => stS 3 d false) (mt := ret true) (me := frz (callM 3 F__is_answer (cnsM (gv 0) (cnsM (gv 1) (cnsM (gv 3) (ret [])))))) (G := [.fz (.int S), .fz (.int R), .fz (ansD as), .no]) (as.map mkPr) (by simp; omega) (fun d hd => by
    obtain ⟨a, ha, rfl⟩ := List.mem_map.mp hd
    have e := is_answer_ok (S := S) (R := R) (h.rg a ha)
    exact ⟨[.fz (.int S), .fz (.int R), .fz (ansD as), .fz (mkPr a)], by simp [e], by simp⟩)
  have es : ∀ (bs : Ans) (acc : List (List Int)) (s : Sl), stOk s = true → bs.Nodup → (∀ a ∈ bs, [a.1, a.2] ∉ acc) → acc.length + bs.length ≤ 60 → ∃ acc', acc'.length = acc.length + bs.length ∧ stL [3] (fun d => stS 3 d false) (op1 tupD (gv 3)) (bs.map mkPr) acc [.fz (.int S), .fz (.int R), .fz (ansD as), .no] = some (.ok acc' [.fz (.int S), .fz (.int R), .fz (ansD as), .no]) := by
    intro bs
    induction bs with
    | nil => intro acc s _ _ _ _; exact ⟨acc, rfl, rfl⟩
    | cons b r ih =>
      intro acc s hs hn hd hl
      rw [List.nodup_cons] at hn
      have hl' : acc.length + (r.length + 1) ≤ 60 := hl
      obtain ⟨acc', h1, h2⟩ := ih ([b.1, b.2] :: acc) .no rfl hn.2 (fun a ha => by
        simp only [List.mem_cons, not_or]
        refine ⟨fun z => ?_, hd a (List.mem_cons_of_mem _ ha)⟩
        simp at z
        exact hn.1 (by rw [show b = a from Prod.ext z.1.symm z.2.symm]; exact ha)) (by simp; omega)
      have hb := hd b List.mem_cons_self
      refine ⟨acc', by rw [h1]; simp; omega, ?_⟩
      have hlt : acc.length < 60 := by omega
      simp [stL, mkPr, tupI, asInts, hlt, hb]
      simpa [mkPr] using h2
  obtain ⟨acc', h1, h2⟩ := es as [] .no rfl h.nd (by simp) (by simp; omega)
  simp only [ansD] at e h2
  simp [F__are_answers, fnM, e__are_answers, c__are_answers_0, c__are_answers_1, c__are_answers_2, e1, e, allD, eb, lenSetM, h2, h1, ansD]
end G

set_option Elab.async false
set_option linter.all false
set_option maxRecDepth 100000
set_option maxHeartbeats 4000001
namespace G
open PySem PySem.Spec PyProof.Rows L2 L2.TT
theorem is_state_row_ok {S R A : Nat} {r : List Ans} (hA : r.length = A) (h : ∀ as ∈ r, AnsOk S R as) (hf : A ≤ 4) : F__is_state_row [.int S, .int A, .int R, rowD r] = some (.v (.bl true) false) := by
  have e1 := is_row_eq (rowD r) rfl A A
  simp [rowB, rowL, rowD, hA] at e1
  obtain ⟨bs, e, eb⟩ := compL_yes (vs := [4]) (gm := fun d => stS 4 d false) (mt := ret true) (me := frz (callM 3 F__are_answers (cnsM (gv 0) (cnsM (gv 2) (cnsM (gv 4) (ret [])))))) (G := [.fz (.int S), .fz (.int A), .fz (.int R), .fz (rowD r), .no]) (r.map ansD) (by simp; omega) (fun d hd => by
    obtain ⟨a, ha, rfl⟩ := List.mem_map.mp hd
    have e := are_answers_ok (S := S) (R := R) (h a ha)
    exact ⟨[.fz (.int S), .fz (.int A), .fz (.int R), .fz (rowD r), .fz (ansD a)], by simp [e], by simp⟩)
  simp only [rowD] at e
  simp [F__is_state_row, fnM, e__is_state_row, c__is_state_row_0, c__is_state_row_1, e1, e, allD, eb, rowD]
theorem gtup3_r (k1 k2 k3 : D → M Unit) (a b c : D) (g : List Sl) : gtup 3 (gcons k1 (gcons k2 (gcons k3 gnil))) (.tup [a, b, c]) g = bd (k1 a) (fun _ => bd (k2 b) fun _ => bd (k3 c) fun _ => gnil []) g := by simp
theorem is_method_ok {S : Nat} {m : Md} (hS : 1 ≤ S ∧ S ≤ 8) (h : MdOk S m) : F__is_method [.int S, m.d] = some (.v (.bl true) false) := by
  have e1 := is_row_eq m.d rfl 3 3
  have e2 := is_between_eq (.int m.A) rfl 1 4
  have e3 := is_between_eq (.int m.R) rfl 1 4
  have e4 := is_row_eq (.lst (m.rows.map rowD)) rfl S S
  have ha1 : (1 : Int) ≤ m.A := by have := h.a; omega
  have ha2 : (m.A : Int) ≤ 4 := by have := h.a; omega
  have hr1 : (1 : Int) ≤ m.R := by have := h.r; omega
  have hr2 : (m.R : Int) ≤ 4 := by have := h.r; omega
  simp [rowB, rowL, Md.d] at e1
  simp [btw, ha1, ha2] at e2
  simp [btw, hr1, hr2] at e3
  simp [rowB, rowL, h.n] at e4
  obtain ⟨bs, e, eb⟩ := compL_yes (vs := [5]) (gm := fun d => stS 5 d false) (mt := ret true) (me := frz (callM 4 F__is_state_row (cnsM (gv 0) (cnsM (gv 2) (cnsM (gv 3) (cnsM (gv 5) (ret []))))))) (G := [.fz (.int S), .fz m.d, .fz (.int m.A), .fz (.int m.R), .fz (.lst (m.rows.map rowD)), .no]) (m.rows.map rowD) (by simp [h.n]; omega) (fun d hd => by
    obtain ⟨r, hr, rfl⟩ := List.mem_map.mp hd
    have e := is_state_row_ok (S := S) (R := m.R) (h.row r hr).1 (h.row r hr).2 h.a.2
    exact ⟨[.fz (.int S), .fz m.d, .fz (.int m.A), .fz (.int m.R), .fz (.lst (m.rows.map rowD)), .fz (rowD r)], by simp [e], by simp⟩)
  simp only [Md.d] at e
  simp [F__is_method, fnM, e__is_method, c__is_method_0, c__is_method_1, c__is_method_2, c__is_method_3, c__is_method_4, e1, e2, e3, e4, e, allD, eb, Md.d]
theorem pairD_mem : ∀ {ks : List Key} {ds : List D} {x : D}, x ∈ TT.pairD ks ds → ∃ k ∈ ks, ∃ d ∈ ds, x = .tup [keyD k, d]
  | k :: ks, d :: ds, x, h => by
    simp only [TT.pairD, List.mem_cons] at h
    rcases h with rfl | h
    · exact ⟨k, List.mem_cons_self, d, List.mem_cons_self, rfl⟩
    · obtain ⟨k', h1, d', h2, e⟩ := pairD_mem h
      exact ⟨k', List.mem_cons_of_mem _ h1, d', List.mem_cons_of_mem _ h2, e⟩
  | [], _, _, h => by simp [TT.pairD] at h
  | _ :: _, [], _, h => by simp [TT.pairD] at h
theorem pairD_len : ∀ {ks : List Key} {ds : List D}, (TT.pairD ks ds).length ≤ ks.length
  | k :: ks, d :: ds => by simp only [TT.pairD, List.length_cons]; exact Nat.succ_le_succ pairD_len
  | [], _ => by simp [TT.pairD]
  | _ :: _, [] => by simp [TT.pairD]
theorem keys_len (ns : List Str) : (keysOf ns).length = ns.length := by unfold keysOf; rw [List.length_map]
theorem are_methods_ok {m : Mo} (h : MoOk m) : F__are_methods [.int m.S, m.t] = some (.v (.bl true) false) := by
  have hn := h.n
  obtain ⟨bs, e, eb⟩ := compL_yes (vs := [2, 3]) (gm := gtup 2 (gcons (fun d => stS 2 d false) (gcons (fun d => stS 3 d false) gnil))) (mt := ret true) (me := andV (frz (callM 1 F_is_name (cnsM (gv 2) (ret [])))) (frz (callM 2 F__is_method (cnsM (gv 0) (cnsM (gv 3) (ret [])))))) (G := [.fz (.int m.S), .fz (.dic (keysOf m.ns) (m.ms.map Md.d)), .no, .no]) (TT.pairD (keysOf m.ns) (m.ms.map Md.d)) (by have := pairD_len (ks := keysOf m.ns) (ds := m.ms.map Md.d); rw [keys_len] at this; omega) (fun d hd => by
    obtain ⟨k, hk, x, hx, rfl⟩ := pairD_mem hd
    obtain ⟨y, hy, rfl⟩ := (List.mem_map.mp hx)
    obtain ⟨z, hz, rfl⟩ := List.mem_map.mp hk
    have e1 := is_name_ok (h.nm z hz)
    have e2 := is_method_ok h.S (h.md y hy)
    exact ⟨[.fz (.int m.S), .fz (.dic (keysOf m.ns) (m.ms.map Md.d)), .fz (.str z), .fz y.d], by simp [e1, e2, keyD], by simp⟩)
  have g1 : (1 : Int) ≤ (m.ns.length : Int) := by omega
  have g2 : (m.ns.length : Int) ≤ 4 := by omega
  simp [F__are_methods, fnM, e__are_methods, c__are_methods_0, c__are_methods_1, Mo.t, g1, g2, keys_len, h.l, e, allD, eb]
end G

set_option Elab.async false
set_option linter.all false
set_option maxRecDepth 100000
set_option maxHeartbeats 4000001
namespace G
open PySem PySem.Spec PyProof.Rows L2 L2.TT
/-! ### the kind of a model -/
def ktA (as : Ans) : D := .tup ((as.mergeSort leP).map mkPr)
def ktR (r : List Ans) : D := .tup (r.map ktA)
def Md.k (m : Md) : D := .tup [.int m.A, .int m.R, .tup (m.rows.map ktR)]
def Mo.kt (m : Mo) : D := .dic (keysOf m.ns) (m.ms.map Md.k)
def kindD (m : Mo) : D := .obj "Kind" ["states", "start", "_table"] [.int m.S, .int m.s, m.kt]
theorem kept_answers_ok {S R : Int} {as : Ans} (h : AnsOk S R as) : F__kept_answers [ansD as] = some (.v (ktA as) false) := by
  have hf := h.few
  have e := compL_map (vs := [1]) (gm := fun d => stS 1 d false) (mt := ret true) (me := op1 tupD (gv 1)) (G := [.fz (ansD as), .no]) (f := id) (as.map mkPr) [] (by simp; omega) (fun d hd => by
    obtain ⟨a, ha, rfl⟩ := List.mem_map.mp hd
    exact ⟨[.fz (ansD as), .fz (mkPr a)], by simp [mkPr], by simp⟩)
  simp only [ansD, List.nil_append, List.map_id] at e
  simp [F__kept_answers, fnM, e__kept_answers, c__kept_answers_0, ansD, e, sortL, sortD_prs, ktA]
theorem compL_mapT {β : Type} {vs : List Nat} {gm : D → M Unit} {mt : M Bool} {me : M D} {G : List Sl} {g f : β → D} :
    ∀ (xs : List β) (acc : List D), acc.length + xs.length ≤ 1000000 → (∀ x ∈ xs, ∃ G', stepC gm mt me (g x) G = some (.ok (some (f x)) G') ∧ dropS vs G' = G) → compL vs gm mt me (xs.map g) acc G = some (.ok (acc ++ xs.map f) G)
  | [], acc, hl, h => by simp [compL]
  | x :: xs, acc, hl, h => by
    have hl' : acc.length + (xs.length + 1) ≤ 1000000 := hl
    obtain ⟨G', e, eg⟩ := h x List.mem_cons_self
    rw [List.map_cons, compL_step e]
    simp only
    rw [if_pos (by omega), eg, compL_mapT xs (acc ++ [f x]) (by simp only [List.length_append, List.length_cons, List.length_nil]; omega) (fun d' hd => h d' (List.mem_cons_of_mem _ hd))]
    simp
theorem kept_method_ok {S : Nat} {m : Md} (hS : S ≤ 8) (h : MdOk S m) : F__kept_method [m.d] = some (.v m.k false) := by
  have e2 : ∀ r ∈ m.rows, ∀ s1 s5 : Sl, compL [6] (fun d => stS 6 d false) (ret true) (frz (callM 1 F__kept_answers (cnsM (gv 6) (ret [])))) (r.map ansD) [] [.fz m.d, s1, .fz (.int m.A), .fz (.int m.R), .fz (.lst (m.rows.map rowD)), s5, .no] = some (.ok (r.map ktA) [.fz m.d, s1, .fz (.int m.A), .fz (.int m.R), .fz (.lst (m.rows.map rowD)), s5, .no]) := fun r hr s1 s5 => by
    have hl := (h.row r hr).1
    have ha := h.a
    exact compL_mapT (vs := [6]) (gm := fun d => stS 6 d false) (mt := ret true) (me := frz (callM 1 F__kept_answers (cnsM (gv 6) (ret [])))) (G := [.fz m.d, s1, .fz (.int m.A), .fz (.int m.R), .fz (.lst (m.rows.map rowD)), s5, .no]) (g := ansD) (f := ktA) r [] (by simp; omega) (fun a ha => by
      have e := kept_answers_ok ((h.row r hr).2 a ha)
      exact ⟨[.fz m.d, s1, .fz (.int m.A), .fz (.int m.R), .fz (.lst (m.rows.map rowD)), s5, .fz (ansD a)], by simp [e], by simp⟩)
  have e := compL_mapT (vs := [5]) (gm := fun d => stS 5 d false) (mt := ret true) (me := op1 tupD (frz (compM [6] (itM (gv 5)) (fun d => stS 6 d false) (ret true) (frz (callM 1 F__kept_answers (cnsM (gv 6) (ret []))))))) (G := [.fz m.d, .no, .fz (.int m.A), .fz (.int m.R), .fz (.lst (m.rows.map rowD)), .no, .no]) (g := rowD) (f := ktR) m.rows [] (by simp [h.n]; omega) (fun r hr => by
    have e := e2 r hr .no (.fz (rowD r))
    refine ⟨[.fz m.d, .no, .fz (.int m.A), .fz (.int m.R), .fz (.lst (m.rows.map rowD)), .fz (rowD r), .no], ?_, by simp⟩
    simp only [rowD] at e
    simp [rowD, e, ktR])
  simp only [Md.d] at e
  simp [F__kept_method, fnM, e__kept_method, c__kept_method_0, c__kept_method_1, c__kept_method_2, Md.d, e, Md.k]
theorem dcL_pairs {β : Type} {vs : List Nat} {gm : D → M Unit} {mt : M Bool} {mk mv : M D} {G : List Sl} {g f : β → D} :
    ∀ (ks : List Key) (xs : List β) (ks0 : List Key) (ds0 : List D), ks.length = xs.length → ks0.length = ds0.length → (ks0 ++ ks).Nodup → ks0.length + ks.length ≤ 1000 →
    (∀ k ∈ ks, ∀ x ∈ xs, ∃ G1 G2 G3 G4, gm (.tup [keyD k, g x]) G = some (.ok () G1) ∧ mt G1 = some (.ok true G2) ∧ mk G2 = some (.ok (keyD k) G3) ∧ mv G3 = some (.ok (f x) G4) ∧ dropS vs G4 = G) →
    dcL vs gm mt mk mv (TT.pairD ks (xs.map g)) (.dic ks0 ds0) G = some (.ok (.dic (ks0 ++ ks) (ds0 ++ xs.map f)) G)
  | [], [], ks0, ds0, _, _, _, _, _ => by simp [TT.pairD, dcL]
  | k :: ks, x :: xs, ks0, ds0, hl, h0, hn, hf, h => by
    obtain ⟨G1, G2, G3, G4, e1, e2, e3, e4, eg⟩ := h k List.mem_cons_self x List.mem_cons_self
    have hf' : ks0.length + (ks.length + 1) ≤ 1000 := hf
    have hn' := hn
    rw [List.nodup_append] at hn
    have nin : k ∉ ks0 := fun z => hn.2.2 _ z _ List.mem_cons_self rfl
    have ih := dcL_pairs (vs := vs) (gm := gm) (mt := mt) (mk := mk) (mv := mv) (G := G) (g := g) (f := f) ks xs (ks0 ++ [k]) (ds0 ++ [f x]) (by simpa using hl) (by simp [h0]) (by simpa using hn') (by simp; omega) (fun k' hk x' hx => h k' (List.mem_cons_of_mem _ hk) x' (List.mem_cons_of_mem _ hx))
    have hlt : ks0.length < 1000000 := by omega
    simp only [List.map_cons, TT.pairD, dcL, e1, e2, e3, e4, setIx_key, hn.1, hlt, and_self, if_true, putD_new h0 nin, eg, ih, List.append_assoc, List.singleton_append]
@[simp] theorem setFD_1 (v : D) : setFD "Kind" "states" v (.obj "Kind" [] []) = some (.obj "Kind" ["states"] [v]) := by rfl
@[simp] theorem setFD_2 (a v : D) : setFD "Kind" "start" v (.obj "Kind" ["states"] [a]) = some (.obj "Kind" ["states", "start"] [a, v]) := by rfl
@[simp] theorem setFD_3 (a b v : D) : setFD "Kind" "_table" v (.obj "Kind" ["states", "start"] [a, b]) = some (.obj "Kind" ["states", "start", "_table"] [a, b, v]) := by rfl
theorem init_ok {m : Mo} (h : MoOk m) : F_Kind___init__ (.obj "Kind" [] []) [.int m.S, .int m.s, m.t] = some (kindD m, .v .non false) := by
  have hS1 : (1 : Int) ≤ m.S := by have := h.S; omega
  have hS2 : (m.S : Int) ≤ 8 := by have := h.S; omega
  have hs := h.s
  have e1 := is_between_eq (.int m.S) rfl 1 8
  have e2 := is_below_eq (.int m.s) rfl m.S
  have e3 := are_methods_ok h
  simp [btw, hS1, hS2] at e1
  simp [blw, hs] at e2
  have e4 := dcL_pairs (vs := [4, 5]) (gm := gtup 2 (gcons (fun d => stS 4 d false) (gcons (fun d => stS 5 d false) gnil))) (mt := ret true) (mk := gv 4) (mv := frz (callM 1 F__kept_method (cnsM (gv 5) (ret [])))) (G := [.pn (.obj "Kind" ["states", "start"] [.int m.S, .int m.s]), .fz (.int m.S), .fz (.int m.s), .fz (.dic (keysOf m.ns) (m.ms.map Md.d)), .no, .no]) (g := Md.d) (f := Md.k) (keysOf m.ns) m.ms [] [] (by rw [keys_len, h.l]) rfl (by simpa using keys_nodup h.nd) (by have := h.n; simp [keys_len]; omega) (fun k hk x hx => by
    have e := kept_method_ok h.S.2 (h.md x hx)
    refine ⟨[.pn (.obj "Kind" ["states", "start"] [.int m.S, .int m.s]), .fz (.int m.S), .fz (.int m.s), .fz (.dic (keysOf m.ns) (m.ms.map Md.d)), .fz (keyD k), .fz x.d], [.pn (.obj "Kind" ["states", "start"] [.int m.S, .int m.s]), .fz (.int m.S), .fz (.int m.s), .fz (.dic (keysOf m.ns) (m.ms.map Md.d)), .fz (keyD k), .fz x.d], [.pn (.obj "Kind" ["states", "start"] [.int m.S, .int m.s]), .fz (.int m.S), .fz (.int m.s), .fz (.dic (keysOf m.ns) (m.ms.map Md.d)), .fz (keyD k), .fz x.d], [.pn (.obj "Kind" ["states", "start"] [.int m.S, .int m.s]), .fz (.int m.S), .fz (.int m.s), .fz (.dic (keysOf m.ns) (m.ms.map Md.d)), .fz (keyD k), .fz x.d], by simp, by simp, by simp, by simp [e], by simp⟩)
  simp only [Mo.t] at e3
  simp [F_Kind___init__, fnP, e_Kind___init__, c_Kind___init___0, c_Kind___init___1, c_Kind___init___2, c_Kind___init___3, c_Kind___init___4, c_Kind___init___5, e1, e2, e3, Mo.t, ownD, reS, keys_len, h.l, dcM, e4]
  rfl
end G

set_option Elab.async false
set_option linter.all false
set_option maxRecDepth 100000
set_option maxHeartbeats 4000001
namespace G
open PySem PySem.Spec PyProof.Rows L2 L2.TT
theorem pl_ans {S R : Int} {as : Ans} (h : AnsOk S R as) (n : Nat) : Pl (n + 3) (ansD as) := by
  have := h.few
  refine ⟨by simp; omega, fun d hd => ?_⟩
  obtain ⟨a, ha, rfl⟩ := List.mem_map.mp hd
  refine ⟨by simp, fun d hd => ?_⟩
  simp at hd
  rcases hd with rfl | rfl <;> exact trivial
theorem pl_md {S : Nat} {m : Md} (hS : S ≤ 8) (h : MdOk S m) (n : Nat) : Pl (n + 6) m.d := by
  refine ⟨by simp, fun d hd => ?_⟩
  simp at hd
  rcases hd with rfl | rfl | rfl
  · exact trivial
  · exact trivial
  · refine ⟨by simp [h.n]; omega, fun d hd => ?_⟩
    obtain ⟨r, hr, rfl⟩ := List.mem_map.mp hd
    have h1 := (h.row r hr).1
    have h2 := h.a
    refine ⟨by simp; omega, fun d hd => ?_⟩
    obtain ⟨a, ha, rfl⟩ := List.mem_map.mp hd
    exact pl_ans ((h.row r hr).2 a ha) n
theorem pl_t {m : Mo} (h : MoOk m) : Pl 9 m.t := by
  have := h.n
  refine ⟨keys_nodup h.nd, by simp [keys_len, h.l], by rw [keys_len]; omega, fun d hd => ?_⟩
  obtain ⟨x, hx, rfl⟩ := List.mem_map.mp hd
  exact pl_md h.S.2 (h.md x hx) 2
theorem law_kind_ok {m : Mo} (h : MoOk m) : F__law_kind [m.d] = some (.v (kindD m) true) := by
  obtain ⟨o, e⟩ := copied_ok 9 m.t (pl_t h)
  have e2 := init_ok h
  simp [F__law_kind, fnM, e__law_kind, c__law_kind_0, Mo.d, e, makeD, e2]
/-! ### the methods of the kind -/
theorem dlook_keys {β : Type} {f : β → D} : ∀ {ns : List Str} {xs : List β} {i : Nat} (hn : ns.Nodup) (hl : xs.length = ns.length) (h : i < ns.length), dlook (keysOf ns) (xs.map f) (.inr ns[i]) = some (f (xs[i]'(hl ▸ h)))
  | [], _, i, _, _, h => by simp at h
  | n :: ns, x :: xs, 0, _, _, _ => by simp [keysOf, dlook]
  | n :: ns, x :: xs, i + 1, hn, hl, h => by
    rw [List.nodup_cons] at hn
    have h' : i < ns.length := by simpa using h
    have ne : ¬ (Sum.inr n : Key) = Sum.inr ns[i] := fun z => hn.1 (by rw [Sum.inr.inj z]; exact List.getElem_mem h')
    have ih := dlook_keys (f := f) (ns := ns) (xs := xs) (i := i) hn.2 (by simpa using hl) h'
    unfold keysOf at ih ⊢
    simp only [List.map_cons, List.getElem_cons_succ, dlook, if_neg ne]
    exact ih
/-- the method of a name -/
structure At (m : Mo) (x : Str) (y : Md) : Prop where
  mem : x ∈ m.ns
  md : y ∈ m.ms
  lk : dlook (keysOf m.ns) (m.ms.map Md.k) (.inr x) = some y.k
  ld : dlook (keysOf m.ns) (m.ms.map Md.d) (.inr x) = some y.d
theorem at_of {m : Mo} (h : MoOk m) {x : Str} (hx : x ∈ m.ns) : ∃ y, At m x y := by
  obtain ⟨i, hi, rfl⟩ := (List.getElem_of_mem hx)
  exact ⟨m.ms[i]'(by rw [h.l]; exact hi), hx, List.getElem_mem _, dlook_keys h.nd h.l hi, dlook_keys h.nd h.l hi⟩
theorem dlook_out : ∀ {ks : List Key} {ds : List D} {k : Key}, k ∉ ks → dlook ks ds k = none
  | [], _, _, _ => by simp [dlook]
  | k' :: ks, [], _, _ => by simp [dlook]
  | k' :: ks, d :: ds, k, h => by
    simp only [List.mem_cons, not_or] at h
    simp only [dlook, if_neg (fun z : k' = k => h.1 z.symm)]
    exact dlook_out h.2
theorem contains_ok {m : Mo} (h : MoOk m) {d : D} (hd : noObj d = true) : F_Kind___contains__ [kindD m, d] = some (.v (.bl (match d with | .str x => decide (x ∈ m.ns) | _ => false)) false) := by
  have hk : ∀ x : Str, hasK (.str x) m.kt = some (decide (x ∈ m.ns)) := fun x => by
    have e : hasK (.str x) m.kt = some (dlook (keysOf m.ns) (m.ms.map Md.k) (.inr x)).isSome := rfl
    rw [e]
    congr 1
    by_cases hx : x ∈ m.ns
    · obtain ⟨y, hy⟩ := at_of h hx
      rw [hy.lk]
      simp [hx]
    · rw [dlook_out (fun z => hx (mem_keys.mp z))]
      simp [hx]
  cases d <;> first | (simp [noObj] at hd; done) | (simp [F_Kind___contains__, fnM, e_Kind___contains__, c_Kind___contains___0]; done) | skip
  rename_i x
  have hf : fldD "Kind" "_table" (kindD m) = some m.kt := rfl
  simp [F_Kind___contains__, fnM, e_Kind___contains__, c_Kind___contains___0, hf, inKD, hk]
@[simp] theorem isCl_kind (m : Mo) : isCl "Kind" (kindD m) = true := by rfl
@[simp] theorem fld_states (m : Mo) : fldD "Kind" "states" (kindD m) = some (.int m.S) := by rfl
@[simp] theorem fld_start (m : Mo) : fldD "Kind" "start" (kindD m) = some (.int m.s) := by rfl
@[simp] theorem fld_table (m : Mo) : fldD "Kind" "_table" (kindD m) = some m.kt := by rfl
@[simp] theorem isOf_row (m : Mo) : isOf "Kind" "_row" (kindD m) = true := by rfl
@[simp] theorem isOf_answers (m : Mo) : isOf "Kind" "answers" (kindD m) = true := by rfl
@[simp] theorem isOf_arguments (m : Mo) : isOf "Kind" "arguments" (kindD m) = true := by rfl
@[simp] theorem isOf_results (m : Mo) : isOf "Kind" "results" (kindD m) = true := by rfl
theorem row_ok {m : Mo} (hm : MoOk m) {x : Str} {y : Md} (h : At m x y) : F_Kind__row [kindD m, .str x] = some (.v y.k false) := by
  have e := contains_ok hm (d := .str x) rfl
  have e2 : ixD m.kt (.str x) = some y.k := h.lk
  simp [h.mem] at e
  simp [F_Kind__row, fnM, e_Kind__row, c_Kind__row_0, c_Kind__row_1, e, e2]
theorem arguments_ok {m : Mo} (hm : MoOk m) {x : Str} {y : Md} (h : At m x y) : F_Kind_arguments [kindD m, .str x] = some (.v (.int y.A) false) := by
  have e := row_ok hm h
  simp [F_Kind_arguments, fnM, e_Kind_arguments, c_Kind_arguments_0, e, Md.k]
theorem results_ok {m : Mo} (hm : MoOk m) {x : Str} {y : Md} (h : At m x y) : F_Kind_results [kindD m, .str x] = some (.v (.int y.R) false) := by
  have e := row_ok hm h
  simp [F_Kind_results, fnM, e_Kind_results, c_Kind_results_0, e, Md.k]
def cell (y : Md) (s a : Nat) : Ans := (y.rows.getD s []).getD a []
theorem cell_at {S : Nat} {y : Md} (h : MdOk S y) {s a : Nat} (hs : s < S) (ha : a < y.A) : ∃ r : List Ans, y.rows[s]? = some r ∧ r ∈ y.rows ∧ r[a]? = some (cell y s a) ∧ cell y s a ∈ r := by
  have h1 : s < y.rows.length := by rw [h.n]; exact hs
  have hm := List.getElem_mem h1
  have h2 : a < (y.rows[s]).length := by rw [(h.row _ hm).1]; exact ha
  have e : cell y s a = (y.rows[s])[a] := by
    unfold cell
    have q : y.rows.getD s [] = y.rows[s] := by rw [List.getD_eq_getElem?_getD, List.getElem?_eq_getElem h1, Option.getD_some]
    rw [q, List.getD_eq_getElem?_getD, List.getElem?_eq_getElem h2, Option.getD_some]
  exact ⟨y.rows[s], List.getElem?_eq_getElem h1, hm, by rw [e]; exact List.getElem?_eq_getElem h2, by rw [e]; exact List.getElem_mem h2⟩
theorem k_answers_ok {m : Mo} (h : MoOk m) {x : Str} {y : Md} (hy : At m x y) {s a : Nat} (hs : s < m.S) (ha : a < y.A) : F_Kind_answers [kindD m, .int s, .str x, .int a] = some (.v (ktA (cell y s a)) false) := by
  have e := row_ok h hy
  have e1 := is_below_eq (.int s) rfl m.S
  have e2 := is_below_eq (.int a) rfl y.A
  simp [blw, hs] at e1
  simp [blw, ha] at e2
  obtain ⟨r, r1, r2, r3, r4⟩ := cell_at (h.md y hy.md) hs ha
  simp [F_Kind_answers, fnM, e_Kind_answers, c_Kind_answers_0, c_Kind_answers_1, c_Kind_answers_2, c_Kind_answers_3, e, e1, e2, Md.k, TT.atI_nat, r1, r3, ktR]
end G

set_option Elab.async false
set_option linter.all false
set_option maxRecDepth 100000
set_option maxHeartbeats 4000001
namespace G
open PySem PySem.Spec PyProof.Rows L2 L2.TT
/-! ### names and greatest results -/
@[simp] theorem isOf_names (m : Mo) : isOf "Kind" "names" (kindD m) = true := by rfl
theorem knames_ok {m : Mo} (h : MoOk m) : F_Kind_names [kindD m] = some (.v (.lst ((m.ns.mergeSort leS).map .str)) true) := by
  have hl : m.ns.length < 64 := by have := h.n; omega
  simp [F_Kind_names, fnM, e_Kind_names, c_Kind_names_0, Mo.kt, keysOf, hl]
theorem shaped_str {x : Str} (h : PyData.strOk x = true) : SeqAt.shaped (.str x) = true := by
  unfold SeqAt.shaped
  simp [PyData.canLay0, PyData.depth, h]
theorem eqB_ss {x y : Str} (hx : PyData.strOk x = true) (hy : PyData.strOk y = true) : eqB (.str x) (.str y) = some (decide (x = y)) := by
  unfold eqB
  simp only [toPy, shaped_str hx, shaped_str hy, and_self, if_true, PyData.eqv]
  congr 1
theorem eqD_ss {x y : Str} (hx : PyData.strOk x = true) (hy : PyData.strOk y = true) : eqD (.str x) (.str y) = some (.bl (decide (x = y))) := by
  unfold eqD; rw [eqB_ss hx hy]; rfl
theorem neD_ss {x y : Str} (hx : PyData.strOk x = true) (hy : PyData.strOk y = true) : neD (.str x) (.str y) = some (.bl (!decide (x = y))) := by
  unfold neD; rw [eqB_ss hx hy]; rfl
/-! ### rules -/
structure En where
  mo : Nat
  x : Str
  vs : List Nat
abbrev nD (n : Nat) : D := .int (n : Int)
def vD (vs : List Nat) : D := .tup (vs.map nD)
def En.k (e : En) : List Key := [.inl (e.mo : Int), .inr e.x]
def En.v (e : En) : D := vD e.vs
def ruD (r : List En) : D := accT (r.map En.k) (r.map En.v)
def look : List En → Nat → Str → Option (List Nat)
  | [], _, _ => none
  | e :: r, i, x => if e.mo = i ∧ e.x = x then some e.vs else look r i x
structure EnOk (m : Mo) (e : En) : Prop where
  mo : e.mo < 16
  at_ : ∃ y, At m e.x y ∧ e.vs.length = y.R
  vs : ∀ v ∈ e.vs, v < 16
structure RuOk (m : Mo) (r : List En) : Prop where
  nd : (r.map En.k).Nodup
  en : ∀ e ∈ r, EnOk m e
  len : r.length ≤ 20
theorem key_iff {e : En} {i : Nat} {x : Str} : e.k = [.inl (i : Int), .inr x] ↔ e.mo = i ∧ e.x = x := by
  unfold En.k
  constructor
  · intro h
    simp only [List.cons.injEq, Sum.inl.injEq, Sum.inr.injEq, and_true] at h
    exact ⟨by omega, h.2⟩
  · rintro ⟨rfl, rfl⟩; rfl
theorem tlook_ru {i : Nat} {x : Str} : ∀ (r : List En), tlook (r.map En.k) (r.map En.v) [.inl (i : Int), .inr x] = (look r i x).map vD
  | [] => rfl
  | e :: r => by
    simp only [List.map_cons, tlook, look]
    by_cases h : e.mo = i ∧ e.x = x
    · rw [if_pos (key_iff.mpr h), if_pos h]; rfl
    · rw [if_neg (fun z => h (key_iff.mp z)), if_neg h]
      exact tlook_ru r
@[simp] theorem tkD_pair (i : Int) (x : Str) : tkD (.tup [.int i, .str x]) = some [.inl i, .inr x] := (rfl)
theorem ru_nil {r : List En} (h : r.map En.k = []) : r = [] := List.map_eq_nil_iff.mp h
theorem has_ru (r : List En) (i : Nat) (x : Str) : hasK (.tup [.int i, .str x]) (ruD r) = some (look r i x).isSome := by
  unfold ruD accT
  by_cases h : r.map En.k = []
  · have := ru_nil h
    subst this
    rfl
  · rw [if_neg h]
    simp only [hasK, tkD_pair, Option.map_some, tlook_ru, Option.isSome_map]
theorem ix_ru {r : List En} {i : Nat} {x : Str} {vs : List Nat} (h : look r i x = some vs) : ixD (ruD r) (.tup [.int i, .str x]) = some (vD vs) := by
  unfold ruD accT
  have hn : ¬ r.map En.k = [] := fun z => by
    have := ru_nil z
    subst this
    cases h
  rw [if_neg hn]
  simp only [ixD, tkD_pair, tlook_ru, h, Option.map_some]
theorem inKD_ru (r : List En) (i : Nat) (x : Str) : inKD (.tup [.int i, .str x]) (ruD r) = some (.bl (look r i x).isSome) := by
  unfold inKD; rw [has_ru]; rfl
theorem niKD_ru (r : List En) (i : Nat) (x : Str) : niKD (.tup [.int i, .str x]) (ruD r) = some (.bl (!(look r i x).isSome)) := by
  unfold niKD; rw [has_ru]; rfl
@[simp] theorem isI_ru (r : List En) : isI "dict" (ruD r) = some (.bl true) := by
  unfold ruD accT
  split <;> simp
@[simp] theorem items_ru (r : List En) : itemsD (ruD r) = some (r.map fun e => tkeyD e.k) := by
  unfold ruD accT
  by_cases h : r.map En.k = []
  · have := ru_nil h
    subst this
    rfl
  · rw [if_neg h]; simp
theorem pairT_map : ∀ (r : List En), TT.pairT (r.map En.k) (r.map En.v) = r.map fun e => .tup [tkeyD e.k, e.v]
  | [] => rfl
  | e :: r => by simp only [List.map_cons, TT.pairT, pairT_map r]
@[simp] theorem its_ru (r : List En) : itsD (ruD r) = some (r.map fun e => .tup [tkeyD e.k, e.v]) := by
  unfold ruD accT
  by_cases h : r.map En.k = []
  · have := ru_nil h
    subst this
    rfl
  · rw [if_neg h]; simp [pairT_map]
theorem look_ok {m : Mo} {r : List En} (h : ∀ e ∈ r, EnOk m e) {i : Nat} {x : Str} {vs : List Nat} (e : look r i x = some vs) : ∃ y, At m x y ∧ vs.length = y.R ∧ ∀ v ∈ vs, v < 16 := by
  induction r with
  | nil => cases e
  | cons a r ih =>
    simp only [look] at e
    split at e
    · rename_i c
      cases e
      obtain ⟨y, a1, a2⟩ := (h a List.mem_cons_self).at_
      exact ⟨y, by rw [← c.2]; exact a1, a2, (h a List.mem_cons_self).vs⟩
    · exact ih (fun z hz => h z (List.mem_cons_of_mem _ hz)) e
/-! one rule is judged -/
theorem is_rule_ok {m : Mo} (h : MoOk m) {e : En} (he : EnOk m e) : F__is_rule [kindD m, tkeyD e.k, e.v] = some (.v (.bl true) false) := by
  obtain ⟨y, hy, hl⟩ := he.at_
  have hm := he.mo
  have e1 := is_below_eq (.int e.mo) rfl 16
  have g1 : (e.mo : Int) < 16 := by omega
  simp [blw, g1] at e1
  have e2 := contains_ok h (d := .str e.x) rfl
  simp [hy.mem] at e2
  have e3 := results_ok h hy
  have e4 := is_row_eq (vD e.vs) rfl y.R y.R
  have : rowB (vD e.vs) y.R y.R = true := by simp [rowB, rowL, vD, hl]
  rw [this] at e4
  have rr := (h.md y hy.md).r
  obtain ⟨bs, c1, c2⟩ := compL_yes (vs := [4]) (gm := fun d => stS 4 d false) (mt := ret true) (me := frz (callM 2 F_is_below (cnsM (gv 4) (cnsM (ret (.int 16)) (ret []))))) (G := [.fz (kindD m), .fz (tkeyD e.k), .fz (vD e.vs), .fz (.int y.R), .no]) (e.vs.map nD) (by simp [hl]; omega) (fun d hd => by
    obtain ⟨n, hn, rfl⟩ := List.mem_map.mp hd
    have := he.vs n hn
    have e5 := is_below_eq (.int n) rfl 16
    have g : (n : Int) < 16 := by omega
    simp [blw, g] at e5
    exact ⟨[.fz (kindD m), .fz (tkeyD e.k), .fz (vD e.vs), .fz (.int y.R), .fz (.int n)], by simp [e5], by simp⟩)
  have tk : tkeyD e.k = .tup [.int e.mo, .str e.x] := rfl
  rw [tk] at c1 ⊢
  have iv : itemsD (vD e.vs) = some (e.vs.map nD) := rfl
  simp [F__is_rule, fnM, e__is_rule, c__is_rule_0, c__is_rule_1, c__is_rule_2, c__is_rule_3, e1, e2, e3, e4, En.v, iv, allD, c1, c2]
end G

set_option Elab.async false
set_option linter.all false
set_option maxRecDepth 100000
set_option maxHeartbeats 4000001
namespace G
open PySem PySem.Spec PyProof.Rows L2 L2.TT
theorem cut_take {α : Type} (xs : List α) (k : Nat) : TT.cutD xs none (some (k : Int)) = xs.take k := by
  unfold TT.cutD
  rw [HT.sIx_nat, HT.sIx_none, List.drop_zero, Nat.sub_zero]
  by_cases h : k ≤ xs.length
  · rw [Nat.min_eq_left h]
  · rw [Nat.min_eq_right (by omega), List.take_length, List.take_of_length_le (by omega)]
theorem cut_drop {α : Type} (xs : List α) (k : Nat) : TT.cutD xs (some (k : Int)) none = xs.drop k := by
  unfold TT.cutD
  rw [HT.sIx_nat, HT.sIx_none]
  by_cases h : k ≤ xs.length
  · rw [Nat.min_eq_left h, List.take_of_length_le (by rw [List.length_drop]; omega)]
  · rw [Nat.min_eq_right (by omega), List.drop_length, List.drop_eq_nil_of_le (by omega)]
    simp
theorem forM_ok {gm : D → M Unit} {body : M Fl} {d : D} {ds : List D} {G G' : List Sl} (h : TT.stepF gm body d G = some (.ok .nx G')) : TT.forM gm body (d :: ds) G = TT.forM gm body ds G' := by
  unfold TT.stepF TT.bd at h
  conv => lhs; unfold TT.forM
  cases k : gm d G with
  | none => rw [k] at h; cases h
  | some r =>
    rw [k] at h
    cases r with
    | er c fs g => cases h
    | ok u G1 =>
      have h : body G1 = some (.ok .nx G') := h
      simp only [h]
theorem forM_er {gm : D → M Unit} {body : M Fl} {d : D} {ds : List D} {G G' : List Sl} {c : Str} {fs : List (Str × D)} (hg : ∀ d Γ c fs Γ', gm d Γ ≠ some (.er c fs Γ')) (h : TT.stepF gm body d G = some (.er c fs G')) : TT.forM gm body (d :: ds) G = some (.er c fs G') := by
  unfold TT.stepF TT.bd at h
  conv => lhs; unfold TT.forM
  cases k : gm d G with
  | none => rw [k] at h; cases h
  | some r =>
    rw [k] at h
    cases r with
    | er c fs g => exact absurd k (hg _ _ _ _ _)
    | ok u G1 =>
      have h : body G1 = some (.er c fs G') := h
      simp only [h]
theorem cut_drop1 {α : Type} (xs : List α) (k : Nat) : TT.cutD xs (some ((k : Int) + 1)) none = xs.drop (k + 1) := cut_drop xs (k + 1)
theorem set_cut {α : Type} {xs : List α} {i : Nat} (x : α) (h : i < xs.length) : xs.take i ++ [x] ++ xs.drop (i + 1) = xs.set i x := by
  rw [List.set_eq_take_append_cons_drop, if_pos h]
  simp
theorem forM_step {gm : D → M Unit} {body : M Fl} {d : D} {ds : List D} {G G1 G2 : List Sl} (h1 : gm d G = some (.ok () G1)) (h2 : body G1 = some (.ok .nx G2)) : TT.forM gm body (d :: ds) G = TT.forM gm body ds G2 := by
  show (match gm d G with
    | some (.ok () Γ1) => match body Γ1 with
      | some (.ok .nx Γ2) => TT.forM gm body ds Γ2
      | some (.ok .ct Γ2) => TT.forM gm body ds Γ2
      | some (.ok .bk Γ2) => some (.ok .nx Γ2)
      | r => r
    | _ => none) = _
  rw [h1]
  simp only [h2]
@[simp] theorem forM_nil (gm : D → M Unit) (body : M Fl) (G : List Sl) : TT.forM gm body [] G = some (.ok .nx G) := (rfl)
def enF (p : D × Nat) : D := .tup [.int (p.2 : Nat), p.1]
def seqD (c : Bool) (ds : List D) : D := if c then .lst ds else .tup ds
theorem enum_seq (c : Bool) (ds : List D) : enumD (seqD c ds) = some (ds.zipIdx.map enF) := by cases c <;> rfl
theorem noObj_seq (c : Bool) (ds : List D) : noObj (seqD c ds) = true := by cases c <;> rfl
theorem rowB_seq (c : Bool) (ds : List D) (a b : Int) : rowB (seqD c ds) a b = (decide (a ≤ (ds.length : Int)) && decide ((ds.length : Int) ≤ b)) := by cases c <;> rfl
/-! ### a contract is made -/
theorem look_mem : ∀ {r : List En}, (r.map En.k).Nodup → ∀ {e : En}, e ∈ r → look r e.mo e.x = some e.vs
  | a :: r, nd, e, he => by
    simp only [List.map_cons, List.nodup_cons] at nd
    simp only [look]
    rcases (List.mem_cons.mp he) with rfl | he
    · simp
    · by_cases c : a.mo = e.mo ∧ a.x = e.x
      · exfalso
        refine nd.1 ?_
        rw [key_iff.mpr c]
        exact List.mem_map.mpr ⟨e, he, rfl⟩
      · rw [if_neg c]
        exact look_mem nd.2 he
theorem tkey_pair (e : En) : tkeyD e.k = .tup [.int e.mo, .str e.x] := rfl
theorem ix_mem {r : List En} (nd : (r.map En.k).Nodup) {e : En} (he : e ∈ r) : ixD (ruD r) (tkeyD e.k) = some e.v := by
  rw [tkey_pair, ix_ru (look_mem nd he)]; rfl
theorem dcL_ru {vs : List Nat} {gm : D → M Unit} {mt : M Bool} {mk mv : M D} {G : List Sl} : ∀ (r pre : List En), ((pre ++ r).map En.k).Nodup → (pre ++ r).length ≤ 1000 →
    (∀ e ∈ r, ∃ G1 G2 G3 G4, gm (tkeyD e.k) G = some (.ok () G1) ∧ mt G1 = some (.ok true G2) ∧ mk G2 = some (.ok (tkeyD e.k) G3) ∧ mv G3 = some (.ok e.v G4) ∧ dropS vs G4 = G) →
    dcL vs gm mt mk mv (r.map fun e => tkeyD e.k) (accT (pre.map En.k) (pre.map En.v)) G = some (.ok (ruD (pre ++ r)) G)
  | [], pre, nd, hl, h => by simp [dcL, ruD]
  | e :: r, pre, nd, hl, h => by
    obtain ⟨G1, G2, G3, G4, e1, e2, e3, e4, eg⟩ := h e List.mem_cons_self
    have nd' : ((pre ++ [e] ++ r).map En.k).Nodup := by simpa using nd
    have ih := dcL_ru (vs := vs) (gm := gm) (mt := mt) (mk := mk) (mv := mv) (G := G) r (pre ++ [e]) nd' (by simpa using hl) (fun z hz => h z (List.mem_cons_of_mem _ hz))
    rw [List.map_append, List.nodup_append] at nd
    have nin : e.k ∉ pre.map En.k := fun z => nd.2.2 _ z _ List.mem_cons_self rfl
    have hl' : pre.length + (r.length + 1) ≤ 1000 := by simpa using hl
    have es := setIx_acc (k := e.k) (v := e.v) (ks := pre.map En.k) (ds := pre.map En.v) (by simp) nd.1 nin (by rw [List.length_map]; omega)
    simp only [List.map_cons, dcL, e1, e2, e3, e4, es, eg]
    rw [List.map_append, List.map_append, List.append_assoc] at ih
    exact ih
@[simp] theorem setFC_1 (v : D) : setFD "Contract" "kind" v (.obj "Contract" [] []) = some (.obj "Contract" ["kind"] [v]) := by rfl
@[simp] theorem setFC_2 (a v : D) : setFD "Contract" "sides" v (.obj "Contract" ["kind"] [a]) = some (.obj "Contract" ["kind", "sides"] [a, v]) := by rfl
@[simp] theorem setFC_3 (a b v : D) : setFD "Contract" "_rules" v (.obj "Contract" ["kind", "sides"] [a, b]) = some (.obj "Contract" ["kind", "sides", "_rules"] [a, b, v]) := by rfl
def rusD (rs : List (List En)) : D := .lst (rs.map ruD)
def conD (m : Mo) (rs : List (List En)) : D := .obj "Contract" ["kind", "sides", "_rules"] [kindD m, .int rs.length, rusD rs]
abbrev igm : D → M Unit := gtup 2 (gcons (fun d => stS 3 d false) (gcons (fun d => stS 4 d false) gnil))
theorem init_chk {m : Mo} (h : MoOk m) {q : D} : ∀ (rs : List (List En)) (k : Nat) (s3 s4 : Sl), stOk s3 = true → stOk s4 = true → (∀ r ∈ rs, RuOk m r) →
    ∃ s3' s4', stOk s3' = true ∧ stOk s4' = true ∧ TT.forM igm c_Contract___init___2 (((rs.map ruD).zipIdx k).map enF) [.pn (.obj "Contract" [] []), .fz (kindD m), .fz q, s3, s4, .no, .no] = some (.ok .nx [.pn (.obj "Contract" [] []), .fz (kindD m), .fz q, s3', s4', .no, .no])
  | [], k, s3, s4, h3, h4, hr => ⟨s3, s4, h3, h4, rfl⟩
  | r :: rs, k, s3, s4, h3, h4, hr => by
    have h0 := hr r List.mem_cons_self
    obtain ⟨s3', s4', a1, a2, a3⟩ := init_chk h (q := q) rs (k + 1) (.fz (.int k)) (.fz (ruD r)) rfl rfl (fun z hz => hr z (List.mem_cons_of_mem _ hz))
    refine ⟨s3', s4', a1, a2, ?_⟩
    obtain ⟨bs, c1, c2⟩ := compL_yes (vs := [5, 6]) (gm := gtup 2 (gcons (fun d => stS 5 d false) (gcons (fun d => stS 6 d false) gnil))) (mt := ret true) (me := frz (callM 3 F__is_rule (cnsM (gv 1) (cnsM (gv 5) (cnsM (gv 6) (ret [])))))) (G := [.pn (.obj "Contract" [] []), .fz (kindD m), .fz q, .fz (.int k), .fz (ruD r), .no, .no]) (r.map fun e => .tup [tkeyD e.k, e.v]) (by have := h0.len; rw [List.length_map]; omega) (fun d hd => by
      obtain ⟨e, he, rfl⟩ := List.mem_map.mp hd
      have e1 := is_rule_ok h (h0.en e he)
      exact ⟨[.pn (.obj "Contract" [] []), .fz (kindD m), .fz q, .fz (.int k), .fz (ruD r), .fz (tkeyD e.k), .fz e.v], by simp [e1], by simp⟩)
    have st : TT.stepF igm c_Contract___init___2 (enF (ruD r, k)) [.pn (.obj "Contract" [] []), .fz (kindD m), .fz q, s3, s4, .no, .no] = some (.ok .nx [.pn (.obj "Contract" [] []), .fz (kindD m), .fz q, .fz (.int k), .fz (ruD r), .no, .no]) := by
      simp [enF, h3, h4, c_Contract___init___2, allD, c1, c2]
    rw [List.map_cons, List.zipIdx_cons, List.map_cons, forM_ok st]
    exact a3
theorem con_init {m : Mo} (h : MoOk m) {rs : List (List En)} (h1 : 1 ≤ rs.length) (h3 : rs.length ≤ 3) (hr : ∀ r ∈ rs, RuOk m r) : F_Contract___init__ (.obj "Contract" [] []) [kindD m, rusD rs] = some (conD m rs, .v .non false) := by
  have e1 := is_row_eq (rusD rs) rfl 1 3
  have : rowB (rusD rs) 1 3 = true := by simp [rowB, rowL, rusD]; omega
  rw [this] at e1
  obtain ⟨bs, c1, c2⟩ := compL_yes (vs := [4]) (gm := fun d => stS 4 d false) (mt := ret true) (me := op1 (isI "dict") (pk 4)) (G := [.pn (.obj "Contract" [] []), .fz (kindD m), .fz (rusD rs), .no, .no, .no, .no]) (rs.map ruD) (by rw [List.length_map]; omega) (fun d hd => by
    obtain ⟨r, _, rfl⟩ := List.mem_map.mp hd
    exact ⟨[.pn (.obj "Contract" [] []), .fz (kindD m), .fz (rusD rs), .no, .fz (ruD r), .no, .no], by simp, by simp⟩)
  obtain ⟨s3, s4, g3, g4, e4⟩ := init_chk h (q := rusD rs) rs 0 .no .no rfl rfl hr
  have e5 : ∀ s3' : Sl, compL [4] (fun d => stS 4 d false) (ret true) (frz (dcM [5] (itM (gv 4)) (fun d => stS 5 d false) (ret true) (gv 5) (op1 tupD (op2v ixD 4 (gv 5))))) (rs.map ruD) [] [.pn (.obj "Contract" ["kind", "sides"] [kindD m, .int rs.length]), .fz (kindD m), .fz (rusD rs), s3', .no, .no, .no] = some (.ok (rs.map ruD) [.pn (.obj "Contract" ["kind", "sides"] [kindD m, .int rs.length]), .fz (kindD m), .fz (rusD rs), s3', .no, .no, .no]) := fun s3' => by
    have e := compL_map (vs := [4]) (gm := fun d => stS 4 d false) (mt := ret true) (me := frz (dcM [5] (itM (gv 4)) (fun d => stS 5 d false) (ret true) (gv 5) (op1 tupD (op2v ixD 4 (gv 5))))) (G := [.pn (.obj "Contract" ["kind", "sides"] [kindD m, .int rs.length]), .fz (kindD m), .fz (rusD rs), s3', .no, .no, .no]) (f := id) (rs.map ruD) [] (by simp; omega) (fun d hd => by
      obtain ⟨r, hm, rfl⟩ := List.mem_map.mp hd
      have h0 := hr r hm
      have e6 := dcL_ru (vs := [5]) (gm := fun d => stS 5 d false) (mt := ret true) (mk := gv 5) (mv := op1 tupD (op2v ixD 4 (gv 5))) (G := [.pn (.obj "Contract" ["kind", "sides"] [kindD m, .int rs.length]), .fz (kindD m), .fz (rusD rs), s3', .fz (ruD r), .no, .no]) r [] (by simpa using h0.nd) (by have := h0.len; simp; omega) (fun e he => by
        have e7 := ix_mem h0.nd he
        have e8 : tupD e.v = some e.v := rfl
        exact ⟨[.pn (.obj "Contract" ["kind", "sides"] [kindD m, .int rs.length]), .fz (kindD m), .fz (rusD rs), s3', .fz (ruD r), .fz (tkeyD e.k), .no], [.pn (.obj "Contract" ["kind", "sides"] [kindD m, .int rs.length]), .fz (kindD m), .fz (rusD rs), s3', .fz (ruD r), .fz (tkeyD e.k), .no], [.pn (.obj "Contract" ["kind", "sides"] [kindD m, .int rs.length]), .fz (kindD m), .fz (rusD rs), s3', .fz (ruD r), .fz (tkeyD e.k), .no], [.pn (.obj "Contract" ["kind", "sides"] [kindD m, .int rs.length]), .fz (kindD m), .fz (rusD rs), s3', .fz (ruD r), .fz (tkeyD e.k), .no], by simp, by simp, by simp, by simp [e7, e8], by simp⟩)
      have e0 : accT (List.map En.k []) (List.map En.v []) = .dic [] [] := by simp [accT]
      rw [e0] at e6
      refine ⟨[.pn (.obj "Contract" ["kind", "sides"] [kindD m, .int rs.length]), .fz (kindD m), .fz (rusD rs), s3', .fz (ruD r), .no, .no], ?_, by simp⟩
      simp [dcM, e6])
    simpa using e
  have i1 : itemsD (rusD rs) = some (rs.map ruD) := rfl
  have i2 : enumD (rusD rs) = some ((rs.map ruD).zipIdx.map enF) := rfl
  have i3 : lenD (rusD rs) = some (.int rs.length) := by simp [rusD]
  simp [F_Contract___init__, fnP, e_Contract___init__, c_Contract___init___0, c_Contract___init___1, c_Contract___init___3, c_Contract___init___4, c_Contract___init___5, e1, i1, allD, c1, c2, i2, e4, ownD, reS, i3, e5]
  rfl
end G

set_option Elab.async false
set_option linter.all false
set_option maxRecDepth 100000
set_option maxHeartbeats 4000001
namespace G
open PySem PySem.Spec PyProof.Rows L2 L2.TT
/-! ### a contract asked -/
theorem ix_nat {ds : List D} {i : Nat} {d : D} (h : ds[i]? = some d) : ixD (.lst ds) (.int i) = some d := by
  show L2.atI ds (i : Int) = _
  rw [TT.atI_nat]
  exact h
theorem ixt_nat {ds : List D} {i : Nat} {d : D} (h : ds[i]? = some d) : ixD (.tup ds) (.int i) = some d := by
  show L2.atI ds (i : Int) = _
  rw [TT.atI_nat]
  exact h
section
variable {m : Mo} {rs : List (List En)}
@[simp] theorem fld_ckind (m : Mo) (rs : List (List En)) : fldD "Contract" "kind" (conD m rs) = some (kindD m) := by rfl
@[simp] theorem fld_csides (m : Mo) (rs : List (List En)) : fldD "Contract" "sides" (conD m rs) = some (.int rs.length) := by rfl
@[simp] theorem fld_crules (m : Mo) (rs : List (List En)) : fldD "Contract" "_rules" (conD m rs) = some (rusD rs) := by rfl
@[simp] theorem isOf_ccheck (m : Mo) (rs : List (List En)) : isOf "Contract" "_check" (conD m rs) = true := by rfl
@[simp] theorem isOf_cmethods (m : Mo) (rs : List (List En)) : isOf "Contract" "methods" (conD m rs) = true := by rfl
@[simp] theorem isOf_cafter (m : Mo) (rs : List (List En)) : isOf "Contract" "after" (conD m rs) = true := by rfl
theorem ru_at {i : Nat} {r : List En} (h : rs[i]? = some r) : ixD (rusD rs) (.int i) = some (ruD r) := ix_nat (by rw [List.getElem?_map, h]; rfl)
theorem below_nat {i n : Nat} (h : i < n) : F_is_below [.int i, .int n] = some (.v (.bl true) false) := by
  have e := is_below_eq (.int i) rfl n
  have g : (i : Int) < (n : Int) := by omega
  simp only [blw] at e
  rw [decide_eq_true g, decide_eq_true (by omega)] at e
  exact e
theorem below_16 {i : Nat} (h : i < 16) : F_is_below [.int i, .int 16] = some (.v (.bl true) false) := below_nat (n := 16) h
theorem check_ok {i mo : Nat} (hi : i < rs.length) (hm : mo < 16) : F_Contract__check [conD m rs, .int i, .int mo] = some (.v .non false) := by
  have e1 := below_nat hi
  have e2 := below_16 hm
  simp [F_Contract__check, fnM, e_Contract__check, c_Contract__check_0, c_Contract__check_1, e1, e2]
def mays (m : Mo) (r : List En) (mo : Nat) : List Str := (m.ns.mergeSort leS).filter fun x => (look r mo x).isSome
theorem methods_ok (h : MoOk m) {i mo : Nat} {r : List En} (hr : rs[i]? = some r) (hm : mo < 16) : F_Contract_methods [conD m rs, .int i, .int mo] = some (.v (.lst ((mays m r mo).map .str)) true) := by
  have hi := (List.getElem?_eq_some_iff.mp hr).1
  have e1 := check_ok (m := m) hi hm
  have e2 := knames_ok h
  have e3 := ru_at hr
  have pl : (m.ns.mergeSort leS).length ≤ 64 := by rw [(List.mergeSort_perm m.ns leS).length_eq]; have := h.n; omega
  have e4 := compL_filter (vs := [3]) (gm := fun d => stS 3 d false) (mt := tv (op2 inKD (tupM (cnsM (gv 2) (cnsM (gv 3) (ret [])))) (op2 ixD (op1 (fldD "Contract" "_rules") (pk 0)) (gv 1)))) (me := gv 3) (G := [.fz (conD m rs), .fz (.int i), .fz (.int mo), .no]) (p := fun d => match d with | .str x => (look r mo x).isSome | _ => false) ((m.ns.mergeSort leS).map .str) [] (by have := h.n; simp; omega) (fun d hd => by
    obtain ⟨x, hx, rfl⟩ := List.mem_map.mp hd
    exact ⟨[.fz (conD m rs), .fz (.int i), .fz (.int mo), .fz (.str x)], by simp [e3, inKD_ru]; split <;> rfl, by simp⟩)
  have e5 : ((m.ns.mergeSort leS).map D.str).filter (fun d => match d with | .str x => (look r mo x).isSome | _ => false) = (mays m r mo).map .str := by
    rw [List.filter_map]; rfl
  rw [e5] at e4
  simp [F_Contract_methods, fnM, e_Contract_methods, c_Contract_methods_0, c_Contract_methods_1, e1, e2, e4]
end
theorem asInts_strs {ns : List Str} (h : ns ≠ []) : asInts (ns.map .str) = none := by
  cases ns with
  | nil => exact absurd rfl h
  | cons x r => rfl
theorem sortD_strs {ns : List Str} (h : ns ≠ []) (hl : ns.length < 64) : sortD (ns.map .str) = some ((ns.mergeSort leS).map .str) := by
  unfold sortD
  rw [asInts_strs h]
  simp only
  rw [asStrs_map]
  simp only
  rw [if_pos hl]
theorem sort_strs {ns : List Str} (hl : ns.length < 64) : ∃ ys : List Str, sortL (.lst (ns.map .str)) = some (.lst (ys.map .str)) ∧ ys.Perm ns := by
  by_cases h : ns = []
  · subst h; exact ⟨[], by kernel_rfl, .refl _⟩
  · refine ⟨ns.mergeSort leS, ?_, List.mergeSort_perm _ _⟩
    have e := sortD_strs h hl
    show (sortD (ns.map .str)).map D.lst = _
    rw [e]; rfl
end G

set_option Elab.async false
set_option linter.all false
set_option maxRecDepth 100000
set_option maxHeartbeats 4000001
namespace G
open PySem PySem.Spec PyProof.Rows L2 L2.TT
def Sm : Nat → D → Prop
  | 0, _ => False
  | n + 1, .lst ds => ds.length ≤ 1000 ∧ ∀ d ∈ ds, Sm n d
  | n + 1, .tup ds => ds.length ≤ 1000 ∧ ∀ d ∈ ds, Sm n d
  | _ + 1, .int _ => True
  | _ + 1, .non => True
  | _ + 1, .str x => PyData.strOk x = true
  | _ + 1, _ => False
theorem same_items {n : Nat} {ds : List D} {s0 s1 : Sl} (hs0 : s0 = .fz (.lst ds) ∨ s0 = .fz (.tup ds)) (hs1 : s1 = s0) (hl : ds.length ≤ 1000) (h : ∀ d ∈ ds, F__law_same n [d, d] = some (.v (.bl true) false)) :
    compL [2] (fun d => stS 2 d false) (notM (tv (frz (callM 2 (F__law_same n) (cnsM (op2v ixD 0 (gv 2)) (cnsM (op2v ixD 1 (gv 2)) (ret []))))))) (gv 2) (rngD 0 ds.length) [] [s0, s1, .no] = some (.ok [] [s0, s1, .no]) := by
  have e := compL_filter (vs := [2]) (gm := fun d => stS 2 d false) (mt := notM (tv (frz (callM 2 (F__law_same n) (cnsM (op2v ixD 0 (gv 2)) (cnsM (op2v ixD 1 (gv 2)) (ret []))))))) (me := gv 2) (G := [s0, s1, .no]) (p := fun _ => false) (rngD 0 ds.length) [] (by simp [rngD]; omega) (fun d hd => by
    obtain ⟨i, hi, rfl⟩ := List.mem_map.mp hd
    have hi' : i < ds.length := List.mem_range.mp hi
    have e := h ds[i] (List.getElem_mem hi')
    have eg := List.getElem?_eq_getElem hi'
    refine ⟨[s0, s1, .fz (.int (0 + (i : Nat)))], ?_, by simp⟩
    subst hs1
    rcases hs0 with rfl | rfl <;> simp [TT.atI_nat, eg, e])
  rw [e]
  simp
theorem same_ok : ∀ (n : Nat) (d : D), Sm n d → F__law_same n [d, d] = some (.v (.bl true) false)
  | 0, d, h => h.elim
  | n + 1, .int i, _ => by simp [F__law_same, fnM, e__law_same, c__law_same_0, c__law_same_1, c__law_same_2]
  | n + 1, .str x, h => by
    have hs : SeqAt.shaped (.str x) = true := by
      unfold SeqAt.shaped
      have h' : PyData.strOk x = true := h
      simp [PyData.canLay0, PyData.depth, h']
    have e : eqD (.str x) (.str x) = some (.bl true) := by
      unfold eqD eqB
      simp only [toPy, hs, and_self, if_true, PyData.eqv]
      simp
    simp [F__law_same, fnM, e__law_same, c__law_same_0, c__law_same_1, c__law_same_2, c__law_same_3, e]
  | n + 1, .lst ds, h => by
    have hr : okR (ds.length : Int) = true := okR_nat (by have := h.1; omega)
    have e := same_items (n := n) (s0 := .fz (.lst ds)) (s1 := .fz (.lst ds)) (.inl rfl) rfl h.1 fun d hd => same_ok n d (h.2 d hd)
    simp [F__law_same, fnM, e__law_same, c__law_same_0, c__law_same_1, c__law_same_2, c__law_same_3, c__law_same_4, c__law_same_5, c__law_same_6, hr, e]
  | n + 1, .tup ds, h => by
    have hr : okR (ds.length : Int) = true := okR_nat (by have := h.1; omega)
    have e := same_items (n := n) (s0 := .fz (.tup ds)) (s1 := .fz (.tup ds)) (.inr rfl) rfl h.1 fun d hd => same_ok n d (h.2 d hd)
    simp [F__law_same, fnM, e__law_same, c__law_same_0, c__law_same_1, c__law_same_2, c__law_same_3, c__law_same_4, c__law_same_5, c__law_same_6, hr, e]
  | n + 1, .non, _ => by simp [F__law_same, fnM, e__law_same, c__law_same_0]
  | n + 1, .dit _ _, h => h.elim
  | n + 1, .bl _, h => h.elim
  | n + 1, .kl _, h => h.elim
  | n + 1, .dic _ _, h => h.elim
  | n + 1, .obj _ _ _, h => h.elim
/-! ### the pool of a script -/
theorem pool_ok (ns : List Int) : ∃ p, IsPool p ∧ F__law_pool [.kl (ns.map .int)] = some (.v p true) := by
  have w := fnM_run (N := 3) (n := 1) (m := m__law_pool) (ds := [.kl (ns.map .int)]) (P := fun o => ∃ p, IsPool p ∧ o = .v p true) ?_
  · obtain ⟨o, ⟨p, a, rfl⟩, e⟩ := w
    exact ⟨p, a, e⟩
  intro Q hQ
  rw [e__law_pool]
  unfold c__law_pool_0
  refine Wp_seq ?_
  simp
  unfold c__law_pool_1
  refine Wp_seq ?_
  have ec : TT.cutD (ns.map D.int) none (some 63) = (ns.take 63).map .int := by
    have := cut_take (ns.map D.int) 63
    rw [List.map_take]
    exact this
  simp [ec]
  have em : (ns.map D.int).take 63 = (ns.take 63).map .int := by rw [List.map_take]
  first | rw [em] | skip
  refine Wp_for (stS_er 2) (fun i G => ∃ (e : Int) (s2 : Sl), 0 ≤ e ∧ e < 2147483647 ∧ stOk s2 = true ∧ G = [.fz (.kl (ns.map .int)), .fz (.int e), s2]) ((ns.take 63).map .int) 0 _ ⟨29, .no, by omega, by omega, rfl, rfl⟩ ?_ ?_
  · rintro i d G hi ⟨e, s2, h1, h2, h3, rfl⟩
    obtain ⟨v, hv, rfl⟩ := List.mem_map.mp (List.mem_of_getElem? hi)
    have q1 : (-18446744073709551616 : Int) < e := by omega
    have q2 : e < 18446744073709551616 := by omega
    simp [h3, c__law_pool_2, q1, q2]
    exact ⟨Int.emod_nonneg _ (by omega), by have := Int.emod_lt_of_pos (e * 47 + v + 11) (b := 2147483629) (by omega); omega⟩
  · rintro G ⟨e, s2, h1, h2, h3, rfl⟩
    simp [c__law_pool_3, ec]
    try rw [em]
    exact hQ _ _ rfl ⟨_, ⟨ns.take 63, 0, 0, 0, e, by omega, rfl⟩, rfl⟩
end G

set_option Elab.async false
set_option linter.all false
set_option maxRecDepth 100000
set_option maxHeartbeats 4000001
namespace G
open PySem PySem.Spec PyProof.Rows L2 L2.TT
/-! ### the same data is equal -/
@[simp] theorem eqOwnM_r (x : Str) (F : List D → Option Out) (f h : M D) (g : List Sl) : eqOwnM x F f h g = bd f (fun d => bd h fun o => if isCl x d = true ∧ isCl x o = true then bd (opt (F [d, o])) (flgM id) else fun _ => none) g := (rfl)
def Fi (n : Nat) (d : D) : Prop := sameB d d = true ∧ dep d ≤ n
theorem fi_all {n : Nat} : ∀ {ds : List D}, (∀ d ∈ ds, Fi n d) → samesB ds ds = true ∧ deps ds ≤ n
  | [], _ => ⟨by simp [samesB], by simp [deps]⟩
  | d :: ds, h => by
    obtain ⟨a, b⟩ := fi_all (ds := ds) fun z hz => h z (List.mem_cons_of_mem _ hz)
    obtain ⟨c, e⟩ := h d List.mem_cons_self
    exact ⟨by simp [samesB, a, c], by simp only [deps]; omega⟩
theorem fi_int {n : Nat} (i : Int) : Fi n (.int i) := ⟨by simp [sameB], by simp [dep]⟩
theorem fi_str {n : Nat} (i : Str) : Fi n (.str i) := ⟨by simp [sameB], by simp [dep]⟩
theorem fi_lst {n : Nat} {ds : List D} (h : ∀ d ∈ ds, Fi n d) : Fi (n + 1) (.lst ds) := by
  obtain ⟨a, b⟩ := fi_all h
  exact ⟨by simp [sameB, a], by simp only [dep]; omega⟩
theorem fi_tup {n : Nat} {ds : List D} (h : ∀ d ∈ ds, Fi n d) : Fi (n + 1) (.tup ds) := by
  obtain ⟨a, b⟩ := fi_all h
  exact ⟨by simp [sameB, a], by simp only [dep]; omega⟩
theorem fi_dic {n : Nat} {ks : List Key} {ds : List D} (h : ∀ d ∈ ds, Fi n d) : Fi (n + 1) (.dic ks ds) := by
  obtain ⟨a, b⟩ := fi_all h
  exact ⟨by simp [sameB, a], by simp only [dep]; omega⟩
theorem fi_dit {n : Nat} {ks : List (List Key)} {ds : List D} (h : ∀ d ∈ ds, Fi n d) : Fi (n + 1) (.dit ks ds) := by
  obtain ⟨a, b⟩ := fi_all h
  exact ⟨by simp [sameB, a], by simp only [dep]; omega⟩
theorem fi_kt (m : Mo) : Fi 6 m.kt := fi_dic fun d hd => by
  obtain ⟨y, _, rfl⟩ := List.mem_map.mp hd
  refine fi_tup fun d hd => ?_
  simp only [List.mem_cons, List.not_mem_nil, or_false] at hd
  rcases hd with rfl | rfl | rfl
  · exact fi_int _
  · exact fi_int _
  · refine fi_tup fun d hd => ?_
    obtain ⟨r, _, rfl⟩ := List.mem_map.mp hd
    refine fi_tup fun d hd => ?_
    obtain ⟨a, _, rfl⟩ := List.mem_map.mp hd
    refine fi_tup fun d hd => ?_
    obtain ⟨p, _, rfl⟩ := List.mem_map.mp hd
    refine fi_tup (n := 0) fun d hd => ?_
    simp only [List.mem_cons, List.not_mem_nil, or_false] at hd
    rcases hd with rfl | rfl <;> exact fi_int _
theorem fi_ru (r : List En) : Fi 2 (ruD r) := by
  unfold ruD accT
  split
  · exact fi_dic fun d hd => by cases hd
  · refine fi_dit fun d hd => ?_
    obtain ⟨e, _, rfl⟩ := List.mem_map.mp hd
    refine fi_tup fun d hd => ?_
    obtain ⟨v, _, rfl⟩ := List.mem_map.mp hd
    exact fi_int _
theorem fi_rus (rs : List (List En)) : Fi 3 (rusD rs) := fi_lst fun d hd => by
  obtain ⟨r, _, rfl⟩ := List.mem_map.mp hd
  exact fi_ru r
theorem eqS_fi {d : D} {n : Nat} (h : Fi n d) (hn : n ≤ 60) (hr : isRef d = true) : eqS d d = some (.bl true) := by
  unfold eqS
  rw [if_pos ⟨h.1, hr, by have := h.2; omega⟩]
@[simp] theorem isO_kind (m : Mo) : isO "Kind" (kindD m) = some (.bl true) := by rfl
@[simp] theorem isCl_con (m : Mo) (rs : List (List En)) : isCl "Contract" (conD m rs) = true := by rfl
@[simp] theorem isO_con (m : Mo) (rs : List (List En)) : isO "Contract" (conD m rs) = some (.bl true) := by rfl
theorem kind_eq (m : Mo) : F_Kind___eq__ [kindD m, kindD m] = some (.v (.bl true) false) := by
  have e1 := eqS_fi (fi_kt m) (by omega) rfl
  simp [F_Kind___eq__, fnM, e_Kind___eq__, c_Kind___eq___0, e1]
theorem con_eq (m : Mo) (rs : List (List En)) : F_Contract___eq__ [conD m rs, conD m rs] = some (.v (.bl true) false) := by
  have e1 := eqS_fi (fi_rus rs) (by omega) rfl
  have e2 := kind_eq m
  simp [F_Contract___eq__, fnM, e_Contract___eq__, c_Contract___eq___0, e1, e2]
end G

set_option Elab.async false
set_option linter.all false
set_option maxRecDepth 100000
set_option maxHeartbeats 4000001
namespace G
open PySem PySem.Spec PyProof.Rows L2 L2.TT
/-! ### the rules of a row of names -/
def resOf (m : Mo) (x : Str) : Nat := match dlook (keysOf m.ns) (m.ms.map Md.k) (.inr x) with
  | some (.tup [.int _, .int r, _]) => r.toNat
  | _ => 0
theorem resOf_at {m : Mo} {x : Str} {y : Md} (h : At m x y) : resOf m x = y.R := by
  unfold resOf
  rw [h.lk]
  simp [Md.k]
def enOf (m : Mo) (x : Str) : En := ⟨0, x, List.replicate (resOf m x) 0⟩
def addN (zs : List Str) (x : Str) : List Str := if x ∈ zs then zs else zs ++ [x]
def ded (zs xs : List Str) : List Str := xs.foldl addN zs
def rN (m : Mo) (zs : List Str) : List En := zs.map (enOf m)
theorem addN_nd {zs : List Str} {x : Str} (h : zs.Nodup) : (addN zs x).Nodup := by
  unfold addN
  split
  · exact h
  · rename_i n
    rw [List.nodup_append]
    exact ⟨h, by simp, fun a ha b hb e => n (by simp at hb; subst hb; subst e; exact ha)⟩
theorem addN_sub {ns zs : List Str} {x : Str} (h : ∀ z ∈ zs, z ∈ ns) (hx : x ∈ ns) : ∀ z ∈ addN zs x, z ∈ ns := by
  unfold addN
  split
  · exact h
  · intro z hz
    rcases List.mem_append.mp hz with q | q
    · exact h z q
    · simp at q; subst q; exact hx
theorem ded_nd : ∀ {xs zs : List Str}, zs.Nodup → (ded zs xs).Nodup
  | [], _, h => h
  | x :: xs, zs, h => ded_nd (xs := xs) (zs := addN zs x) (addN_nd h)
theorem ded_sub {ns : List Str} : ∀ {xs zs : List Str}, (∀ z ∈ zs, z ∈ ns) → (∀ x ∈ xs, x ∈ ns) → ∀ z ∈ ded zs xs, z ∈ ns
  | [], _, h, _ => h
  | x :: xs, zs, h, hx => ded_sub (xs := xs) (zs := addN zs x) (addN_sub h (hx x List.mem_cons_self)) fun z hz => hx z (List.mem_cons_of_mem _ hz)
theorem k_rN (m : Mo) (zs : List Str) : (rN m zs).map En.k = zs.map fun x => [.inl 0, .inr x] := by
  unfold rN
  rw [List.map_map]
  rfl
theorem kk_nd {zs : List Str} (h : zs.Nodup) : (zs.map fun x => ([.inl 0, .inr x] : List Key)).Nodup := List.Pairwise.map _ (fun a b (e : a ≠ b) z => e (by simpa using z)) h
theorem rN_nd {m : Mo} {zs : List Str} (h : zs.Nodup) : ((rN m zs).map En.k).Nodup := by rw [k_rN]; exact kk_nd h
theorem rN_ok {m : Mo} (h : MoOk m) {zs : List Str} (nd : zs.Nodup) (hs : ∀ z ∈ zs, z ∈ m.ns) : RuOk m (rN m zs) := by
  refine ⟨rN_nd nd, fun e he => ?_, ?_⟩
  · obtain ⟨x, hx, rfl⟩ := List.mem_map.mp he
    obtain ⟨y, hy⟩ := at_of h (hs x hx)
    refine ⟨by simp [enOf], ⟨y, hy, by simp [enOf, resOf_at hy]⟩, fun v hv => ?_⟩
    have := List.eq_of_mem_replicate hv
    omega
  · have := nodup_len zs m.ns nd hs
    have := h.n
    simp [rN]; omega
theorem putT_same {k : List Key} {v : D} : ∀ {ks : List (List Key)} {ds : List D}, tlook ks ds k = some v → putT ks ds k v = (ks, ds)
  | k' :: ks, d :: ds, h => by
    simp only [tlook] at h
    by_cases c : k' = k
    · rw [if_pos c] at h
      cases h
      simp only [putT, if_pos c]
    · rw [if_neg c] at h
      simp only [putT, if_neg c, putT_same h]
theorem look_rN {m : Mo} {x : Str} : ∀ {zs : List Str}, x ∈ zs → look (rN m zs) 0 x = some (List.replicate (resOf m x) 0)
  | z :: zs, h => by
    simp only [rN, List.map_cons, look]
    by_cases c : z = x
    · subst c; simp [enOf]
    · rw [if_neg (by simp [enOf, c])]
      exact look_rN ((List.mem_cons.mp h).resolve_left fun q => c q.symm)
theorem look_no {m : Mo} {x : Str} {mo : Nat} : ∀ {zs : List Str}, (x ∉ zs ∨ mo ≠ 0) → look (rN m zs) mo x = none
  | [], _ => rfl
  | z :: zs, h => by
    simp only [rN, List.map_cons, look]
    rw [if_neg (fun c => by
      rcases h with q | q
      · exact q (by rw [← c.2]; exact List.mem_cons_self)
      · exact q c.1.symm)]
    exact look_no (h.imp (fun q w => q (List.mem_cons_of_mem _ w)) id)
/-- one more name -/
theorem set_rN {m : Mo} {zs : List Str} {x : Str} (nd : zs.Nodup) (hl : zs.length ≤ 1000) : setIxD (ruD (rN m zs)) (.tup [.int 0, .str x]) (vD (List.replicate (resOf m x) 0)) = some (ruD (rN m (addN zs x))) := by
  unfold addN
  by_cases c : x ∈ zs
  · rw [if_pos c]
    have e := look_rN (m := m) c
    have e2 := tlook_ru (i := 0) (x := x) (rN m zs)
    rw [e] at e2
    have ne : ¬ (rN m zs).map En.k = [] := fun z => by
      have := ru_nil z
      unfold rN at this
      rw [List.map_eq_nil_iff] at this
      subst this; cases c
    unfold ruD accT
    rw [if_neg ne]
    have few : ((rN m zs).map En.k).length < 1000000 := by simp [rN]; omega
    have e3 := putT_same e2
    have tk : tkD (.tup [.int 0, .str x]) = some [.inl 0, .inr x] := tkD_pair 0 x
    have nd2 := rN_nd (m := m) nd
    simp only [setIxD, tk, nd2, few, and_self, if_true]
    rw [show ((0 : Nat) : Int) = 0 from rfl] at e3
    simp only [e3]
  · rw [if_neg c]
    have e := setIx_acc (k := (enOf m x).k) (v := (enOf m x).v) (ks := (rN m zs).map En.k) (ds := (rN m zs).map En.v) (by simp) (rN_nd nd) (fun z => by
      rw [k_rN] at z
      obtain ⟨w, hw, e⟩ := List.mem_map.mp z
      simp [enOf, En.k] at e
      subst e
      exact c hw) (by simp [rN]; omega)
    have : rN m (zs ++ [x]) = rN m zs ++ [enOf m x] := by simp [rN]
    rw [this]
    unfold ruD
    rw [List.map_append, List.map_append]
    exact e
theorem ruD_nil : ruD [] = .dic [] [] := by simp [ruD, accT]
/-- the dict made by going over a row's names -/
theorem dcL_names {m : Mo} {vs : List Nat} {gm : D → M Unit} {mt : M Bool} {mk mv : M D} {G : List Sl} : ∀ (xs zs : List Str), zs.Nodup → zs.length + xs.length ≤ 1000 →
    (∀ x ∈ xs, ∃ G1 G2 G3 G4, gm (.str x) G = some (.ok () G1) ∧ mt G1 = some (.ok true G2) ∧ mk G2 = some (.ok (.tup [.int 0, .str x]) G3) ∧ mv G3 = some (.ok (vD (List.replicate (resOf m x) 0)) G4) ∧ dropS vs G4 = G) →
    dcL vs gm mt mk mv (xs.map .str) (ruD (rN m zs)) G = some (.ok (ruD (rN m (ded zs xs))) G)
  | [], zs, nd, hl, h => by simp [dcL, ded]
  | x :: xs, zs, nd, hl, h => by
    have hl' : zs.length + (xs.length + 1) ≤ 1000 := hl
    obtain ⟨G1, G2, G3, G4, e1, e2, e3, e4, eg⟩ := h x List.mem_cons_self
    have ih := dcL_names (m := m) (vs := vs) (gm := gm) (mt := mt) (mk := mk) (mv := mv) (G := G) xs (addN zs x) (addN_nd nd) (by unfold addN; split <;> (try simp only [List.length_append, List.length_cons, List.length_nil]) <;> omega) (fun z hz => h z (List.mem_cons_of_mem _ hz))
    have es := set_rN (m := m) (x := x) nd (by omega)
    simp only [List.map_cons, dcL, e1, e2, e3, e4, es, eg]
    exact ih
end G

set_option Elab.async false
set_option linter.all false
set_option maxRecDepth 100000
set_option maxHeartbeats 4000001
namespace G
open PySem PySem.Spec PyProof.Rows L2 L2.TT
/-! ### only: rows of names -/
def isSq : D → Bool
  | .lst _ => true
  | .tup _ => true
  | _ => false
theorem isI2_sq {d : D} (h : noObj d = true) : isI2 "list" "tuple" d = some (.bl (isSq d)) := by
  cases d <;> first | (cases h; done) | rfl
def okN (m : Mo) : D → Bool
  | .str x => decide (x ∈ m.ns)
  | _ => false
theorem allB_map {f : D → Bool} : ∀ (ds : List D), TT.allB (ds.map fun d => .bl (f d)) = some (ds.all f)
  | [] => rfl
  | d :: ds => by simp only [List.map_cons, TT.allB, allB_map ds, Option.map_some, List.all_cons]
theorem cont_ok {m : Mo} (h : MoOk m) {d : D} (hd : noObj d = true) : F_Kind___contains__ [kindD m, d] = some (.v (.bl (okN m d)) false) := by
  rw [contains_ok h hd]
  cases d <;> rfl
abbrev ogm : D → M Unit := gtup 2 (gcons (fun d => stS 2 d false) (gcons (fun d => stS 3 d false) gnil))
theorem items_seq (c : Bool) (ds : List D) : itemsD (seqD c ds) = some ds := by cases c <;> rfl
theorem chk_row {m : Mo} (h : MoOk m) {q : D} {k : Nat} {c : Bool} {ds : List D} (hl : ds.length ≤ 1000) (hd : ∀ d ∈ ds, noObj d = true) {s2 s3 : Sl} (h2 : stOk s2 = true) (h3 : stOk s3 = true) :
    TT.stepF ogm c_only_2 (enF (seqD c ds, k)) [.fz (kindD m), .fz q, s2, s3, .no] = if ds.all (okN m) then some (.ok .nx [.fz (kindD m), .fz q, .fz (.int k), .fz (seqD c ds), .no]) else some (.er "BadContract" [("side", .int k)] [.fz (kindD m), .fz q, .fz (.int k), .fz (seqD c ds), .no]) := by
  have e1 := compL_map (vs := [4]) (gm := fun d => stS 4 d false) (mt := ret true) (me := inOwnM "Kind" id F_Kind___contains__ (gv 4) (gv 0)) (G := [.fz (kindD m), .fz q, .fz (.int k), .fz (seqD c ds), .no]) (f := fun d => .bl (okN m d)) ds [] (by simp; omega) (fun d hd' => by
    have e := cont_ok h (hd d hd')
    exact ⟨[.fz (kindD m), .fz q, .fz (.int k), .fz (seqD c ds), .fz d], by simp [e], by simp⟩)
  rw [List.nil_append] at e1
  have e2 := items_seq c ds
  generalize seqD c ds = z at e1 e2 ⊢
  cases hb : ds.all (okN m) with
  | true => simp [enF, h2, h3, c_only_2, e2, e1, allD, allB_map, hb]
  | false => simp [enF, h2, h3, c_only_2, e2, e1, allD, allB_map, hb]
/-- rows of any kind of seq -/
structure Rw where
  c : Bool
  ds : List D
def Rw.d (r : Rw) : D := seqD r.c r.ds
structure RwOk (r : Rw) : Prop where
  l : r.ds.length ≤ 1000
  n : ∀ d ∈ r.ds, noObj d = true
theorem walk_good {m : Mo} (h : MoOk m) {q : D} : ∀ (rs : List Rw) (k : Nat) (s2 s3 : Sl), stOk s2 = true → stOk s3 = true → (∀ r ∈ rs, RwOk r) → (∀ r ∈ rs, r.ds.all (okN m) = true) →
    ∃ s2' s3', stOk s2' = true ∧ stOk s3' = true ∧ ∀ tl, TT.forM ogm c_only_2 (((rs.map Rw.d).zipIdx k).map enF ++ tl) [.fz (kindD m), .fz q, s2, s3, .no] = TT.forM ogm c_only_2 tl [.fz (kindD m), .fz q, s2', s3', .no]
  | [], k, s2, s3, h2, h3, _, _ => ⟨s2, s3, h2, h3, fun tl => rfl⟩
  | r :: rs, k, s2, s3, h2, h3, ho, hg => by
    have h0 := ho r List.mem_cons_self
    have e := chk_row h (q := q) (k := k) (c := r.c) h0.l h0.n h2 h3
    rw [if_pos (hg r List.mem_cons_self)] at e
    obtain ⟨s2', s3', a1, a2, a3⟩ := walk_good h (q := q) rs (k + 1) (.fz (.int k)) (.fz r.d) rfl rfl (fun z hz => ho z (List.mem_cons_of_mem _ hz)) (fun z hz => hg z (List.mem_cons_of_mem _ hz))
    refine ⟨s2', s3', a1, a2, fun tl => ?_⟩
    rw [List.map_cons, List.zipIdx_cons, List.map_cons, List.cons_append, show r.d = seqD r.c r.ds from rfl, forM_ok e]
    exact a3 tl
theorem walk_bad {m : Mo} (h : MoOk m) {q : D} {r : Rw} {k : Nat} {s2 s3 : Sl} {tl : List D} (h2 : stOk s2 = true) (h3 : stOk s3 = true) (ho : RwOk r) (hb : r.ds.all (okN m) = false) :
    ∃ G, TT.forM ogm c_only_2 (enF (r.d, k) :: tl) [.fz (kindD m), .fz q, s2, s3, .no] = some (.er "BadContract" [("side", .int k)] G) := by
  have e := chk_row h (q := q) (k := k) (c := r.c) ho.l ho.n h2 h3
  rw [hb] at e
  exact ⟨_, forM_er (ge_tup (ge_cons (stS_er 2) (ge_cons (stS_er 3) ge_nil))) e⟩
/-- what only asks of the whole -/
theorem only_head {m : Mo} {c : Bool} {ds : List D} (hd : ∀ d ∈ ds, noObj d = true) (hl : ds.length ≤ 1000) :
    compL [3] (fun d => stS 3 d false) (ret true) (op1 (isI2 "list" "tuple") (pk 3)) ds [] [.fz (kindD m), .fz (seqD c ds), .no, .no, .no] = some (.ok (ds.map fun d => .bl (isSq d)) [.fz (kindD m), .fz (seqD c ds), .no, .no, .no]) := by
  have e1 := compL_map (vs := [3]) (gm := fun d => stS 3 d false) (mt := ret true) (me := op1 (isI2 "list" "tuple") (pk 3)) (G := [.fz (kindD m), .fz (seqD c ds), .no, .no, .no]) (f := fun d => .bl (isSq d)) ds [] (by simp; omega) (fun d hd' => by
    have e := isI2_sq (hd d hd')
    exact ⟨[.fz (kindD m), .fz (seqD c ds), .no, .fz d, .no], by simp [e], by simp⟩)
  rw [List.nil_append] at e1
  exact e1
theorem sq_all (rs : List Rw) : (rs.map Rw.d).all isSq = true := by
  rw [List.all_map, List.all_eq_true]
  intro r _
  show isSq (seqD r.c r.ds) = true
  cases r.c <;> rfl
theorem rw_noObj (r : Rw) : noObj r.d = true := noObj_seq _ _
/-- a wrong row -/
theorem only_bad {m : Mo} (h : MoOk m) {c : Bool} {pre post : List Rw} {r : Rw} (hl : pre.length + 1 + post.length ≤ 3) (ho : ∀ z ∈ pre, RwOk z) (hg : ∀ z ∈ pre, z.ds.all (okN m) = true) (hr : RwOk r) (hb : r.ds.all (okN m) = false) :
    F_only [kindD m, seqD c ((pre ++ r :: post).map Rw.d)] = some (.e "BadContract" [("side", .int pre.length)]) := by
  have e1 := is_row_eq (seqD c ((pre ++ r :: post).map Rw.d)) (noObj_seq _ _) 1 3
  have l1 : ((pre ++ r :: post).map Rw.d).length = pre.length + 1 + post.length := by simp; omega
  rw [rowB_seq, l1, decide_eq_true (by omega : (1 : Int) ≤ ((pre.length + 1 + post.length : Nat) : Int)), decide_eq_true (by omega : ((pre.length + 1 + post.length : Nat) : Int) ≤ 3), Bool.and_true] at e1
  have e2 := only_head (m := m) (c := c) (ds := (pre ++ r :: post).map Rw.d) (fun d hd => by
    obtain ⟨z, _, rfl⟩ := List.mem_map.mp hd
    exact rw_noObj z) (by omega)
  have e3 := sq_all (pre ++ r :: post)
  have e4 := allB_map (f := isSq) ((pre ++ r :: post).map Rw.d)
  rw [e3] at e4
  obtain ⟨s2, s3, a1, a2, a3⟩ := walk_good h (q := seqD c ((pre ++ r :: post).map Rw.d)) pre 0 .no .no rfl rfl ho hg
  obtain ⟨G, a4⟩ := walk_bad h (q := seqD c ((pre ++ r :: post).map Rw.d)) (k := pre.length) (tl := ((post.map Rw.d).zipIdx (pre.length + 1)).map enF) a1 a2 hr hb
  have a5 := a3 (enF (r.d, pre.length) :: ((post.map Rw.d).zipIdx (pre.length + 1)).map enF)
  rw [a4] at a5
  have e5 : ((pre ++ r :: post).map Rw.d).zipIdx.map enF = ((pre.map Rw.d).zipIdx 0).map enF ++ enF (r.d, pre.length) :: ((post.map Rw.d).zipIdx (pre.length + 1)).map enF := by
    rw [List.map_append, List.map_cons, List.zipIdx_append, List.map_append, List.zipIdx_cons, List.map_cons]
    simp
  rw [← e5] at a5
  have e6 := items_seq c ((pre ++ r :: post).map Rw.d)
  have e7 := enum_seq c ((pre ++ r :: post).map Rw.d)
  generalize seqD c ((pre ++ r :: post).map Rw.d) = q at e1 e2 e6 e7 a5 ⊢
  generalize (pre ++ r :: post).map Rw.d = ds at e2 e3 e4 e6 e7 a5 ⊢
  simp [F_only, fnM, e_only, c_only_0, c_only_1, e1, e2, e4, e6, e7, allD, a5]
/-- not a row of rows -/
theorem only_row {m : Mo} {d : D} (hd : noObj d = true) (h : rowB d 1 3 = false) : F_only [kindD m, d] = some (.e "BadContract" [("side", .int (-1))]) := by
  have e1 := is_row_eq d hd 1 3
  rw [h] at e1
  simp [F_only, fnM, e_only, c_only_0, e1]
theorem only_odd {m : Mo} {c : Bool} {ds : List D} (hd : ∀ d ∈ ds, noObj d = true) (hl : ds.length ≤ 1000) (hb : ds.all isSq = false) : F_only [kindD m, seqD c ds] = some (.e "BadContract" [("side", .int (-1))]) := by
  by_cases g : rowB (seqD c ds) 1 3 = true
  · have e1 := is_row_eq (seqD c ds) (noObj_seq _ _) 1 3
    rw [g] at e1
    have e2 := only_head (m := m) (c := c) hd hl
    have e4 := allB_map (f := isSq) ds
    rw [hb] at e4
    have e6 := items_seq c ds
    generalize seqD c ds = q at e1 e2 e6 ⊢
    simp [F_only, fnM, e_only, c_only_0, e1, e2, e4, e6, allD]
  · exact only_row (noObj_seq _ _) (by simpa using g)
end G

set_option Elab.async false
set_option linter.all false
set_option maxRecDepth 100000
set_option maxHeartbeats 4000001
namespace G
open PySem PySem.Spec PyProof.Rows L2 L2.TT
/-! ### only: the contract it makes -/
abbrev NRow := Bool × List Str
def nrw (p : NRow) : Rw := ⟨p.1, p.2.map .str⟩
def nrD (p : NRow) : D := seqD p.1 (p.2.map .str)
structure NOk (m : Mo) (p : NRow) : Prop where
  l : p.2.length ≤ 100
  n : ∀ x ∈ p.2, x ∈ m.ns
def nRu (m : Mo) (p : NRow) : List En := rN m (ded [] p.2)
theorem nOk_rw {m : Mo} {p : NRow} (h : NOk m p) : RwOk (nrw p) := ⟨by simp only [nrw, List.length_map]; have := h.l; omega, fun d hd => by
  obtain ⟨x, _, rfl⟩ := List.mem_map.mp hd
  rfl⟩
theorem nOk_all {m : Mo} {p : NRow} (h : NOk m p) : (nrw p).ds.all (okN m) = true := by
  rw [List.all_eq_true]
  intro d hd
  obtain ⟨x, hx, rfl⟩ := List.mem_map.mp hd
  exact decide_eq_true (h.n x hx)
theorem nRu_ok {m : Mo} (h : MoOk m) {p : NRow} (hp : NOk m p) : RuOk m (nRu m p) := rN_ok h (ded_nd .nil) (ded_sub (by simp) hp.n)
theorem rep0 (n : Nat) : (List.replicate n [D.int 0]).flatten = (List.replicate n 0).map nD := by
  induction n with
  | zero => rfl
  | succ n ih => rw [List.replicate_succ, List.flatten_cons, ih, List.replicate_succ]; rfl
theorem tim0 {n : Nat} (h1 : 1 ≤ n) (h4 : n ≤ 4) : timD (.tup [.int 0]) (.int n) = some (vD (List.replicate n 0)) := by
  rw [timD_ti, if_pos ⟨by simp, by simp, by omega, by omega⟩]
  rw [Int.toNat_natCast, rep0]
  rfl
def rowDc : M (D × Bool) := dcM [4] (itM (gv 3)) (fun d => stS 4 d false) (ret true) (tupM (cnsM (ret (.int 0)) (cnsM (gv 4) (ret [])))) (op2 timD (tupM (cnsM (ret (.int 0)) (ret []))) (frz (onM "Kind" "results" 1 F_Kind_results (gv 0) (cnsM (gv 4) (ret [])))))
theorem c3_eq : c_only_3 = retM (makeM "Contract" 2 F_Contract___init__ (cnsM (gv 0) (cnsM (frz (compM [3] (itM (gv 1)) (fun d => stS 3 d false) (ret true) (frz rowDc))) (ret [])))) := rfl
theorem row_rules {m : Mo} (h : MoOk m) {q s2 : Sl} {p : NRow} (hp : NOk m p) : rowDc [.fz (kindD m), q, s2, .fz (nrD p), .no] = some (.ok (ruD (nRu m p), true) [.fz (kindD m), q, s2, .fz (nrD p), .no]) := by
  have e6 := dcL_names (m := m) (vs := [4]) (gm := fun d => stS 4 d false) (mt := ret true) (mk := tupM (cnsM (ret (.int 0)) (cnsM (gv 4) (ret [])))) (mv := op2 timD (tupM (cnsM (ret (.int 0)) (ret []))) (frz (onM "Kind" "results" 1 F_Kind_results (gv 0) (cnsM (gv 4) (ret []))))) (G := [.fz (kindD m), q, s2, .fz (nrD p), .no]) p.2 [] .nil (by have := hp.l; simp; omega) (fun x hx => by
    obtain ⟨y, hy⟩ := at_of h (hp.n x hx)
    have e := results_ok h hy
    have rr := (h.md y hy.md).r
    have et := tim0 rr.1 rr.2
    have er := resOf_at hy
    rw [← er] at e et
    exact ⟨[.fz (kindD m), q, s2, .fz (nrD p), .fz (.str x)], [.fz (kindD m), q, s2, .fz (nrD p), .fz (.str x)], [.fz (kindD m), q, s2, .fz (nrD p), .fz (.str x)], [.fz (kindD m), q, s2, .fz (nrD p), .fz (.str x)], by simp, by simp, by simp, by simp [e, et, -timD_ti], by simp⟩)
  rw [show rN m [] = [] from rfl, ruD_nil] at e6
  have e7 := items_seq p.1 (p.2.map .str)
  have e7 : itemsD (nrD p) = some (p.2.map .str) := e7
  generalize nrD p = z at e6 e7 ⊢
  unfold rowDc
  simp [dcM, e6, e7]
  rfl
theorem only_ok {m : Mo} (h : MoOk m) {c : Bool} {rs : List NRow} (h1 : 1 ≤ rs.length) (h3 : rs.length ≤ 3) (hr : ∀ p ∈ rs, NOk m p) : F_only [kindD m, seqD c (rs.map nrD)] = some (.v (conD m (rs.map (nRu m))) true) := by
  have em : rs.map nrD = (rs.map nrw).map Rw.d := by rw [List.map_map]; rfl
  have e1 := is_row_eq (seqD c (rs.map nrD)) (noObj_seq _ _) 1 3
  have l1 : (rs.map nrD).length = rs.length := by simp
  rw [rowB_seq, l1, decide_eq_true (by omega : (1 : Int) ≤ ((rs.length : Nat) : Int)), decide_eq_true (by omega : ((rs.length : Nat) : Int) ≤ 3), Bool.and_true] at e1
  have e2 := only_head (m := m) (c := c) (ds := rs.map nrD) (fun d hd => by
    obtain ⟨z, _, rfl⟩ := List.mem_map.mp hd
    exact noObj_seq _ _) (by omega)
  have e3 := sq_all (rs.map nrw)
  rw [← em] at e3
  have e4 := allB_map (f := isSq) (rs.map nrD)
  rw [e3] at e4
  obtain ⟨s2, s3, a1, a2, a3⟩ := walk_good h (q := seqD c (rs.map nrD)) (rs.map nrw) 0 .no .no rfl rfl (fun z hz => by
    obtain ⟨p, hp, rfl⟩ := List.mem_map.mp hz
    exact nOk_rw (hr p hp)) (fun z hz => by
    obtain ⟨p, hp, rfl⟩ := List.mem_map.mp hz
    exact nOk_all (hr p hp))
  have a5 := a3 []
  rw [List.append_nil, ← em] at a5
  have e6 := items_seq c (rs.map nrD)
  have e7 := enum_seq c (rs.map nrD)
  have e8 := con_init h (rs := rs.map (nRu m)) (by rw [List.length_map]; exact h1) (by rw [List.length_map]; exact h3) (fun r hm => by
    obtain ⟨p, hp, rfl⟩ := List.mem_map.mp hm
    exact nRu_ok h (hr p hp))
  have e9 := compL_mapT (vs := [3]) (gm := fun d => stS 3 d false) (mt := ret true) (me := frz rowDc) (G := [.fz (kindD m), .fz (seqD c (rs.map nrD)), s2, .no, .no]) (g := nrD) (f := fun p => ruD (nRu m p)) rs [] (by simp; omega) (fun p hp => by
    have e := row_rules h (q := .fz (seqD c (rs.map nrD))) (s2 := s2) (hr p hp)
    exact ⟨[.fz (kindD m), .fz (seqD c (rs.map nrD)), s2, .fz (nrD p), .no], by simp [e], by simp⟩)
  rw [List.nil_append] at e9
  have e10 : D.lst (rs.map fun p => ruD (nRu m p)) = rusD (rs.map (nRu m)) := by unfold rusD; rw [List.map_map]; rfl
  generalize seqD c (rs.map nrD) = q at e1 e2 e6 e7 a5 e9 ⊢
  generalize rs.map nrD = ds at e2 e3 e4 e6 e7 a5 e9 ⊢
  simp [F_only, fnM, e_only, c_only_0, c_only_1, c3_eq, e1, e2, e4, e6, e7, allD, a5, e9, e10, makeD, e8]
end G

set_option Elab.async false
set_option linter.all false
set_option maxRecDepth 100000
set_option maxHeartbeats 4000001
namespace G
open PySem PySem.Spec PyProof.Rows L2 L2.TT
/-! ### free, and what is asked -/
def sNs (m : Mo) : List Str := m.ns.mergeSort leS
theorem sNs_mem {m : Mo} {x : Str} : x ∈ sNs m ↔ x ∈ m.ns := (List.mergeSort_perm m.ns leS).mem_iff
theorem sNs_len (m : Mo) : (sNs m).length = m.ns.length := (List.mergeSort_perm m.ns leS).length_eq
theorem sNs_nd {m : Mo} (h : MoOk m) : (sNs m).Nodup := (List.mergeSort_perm m.ns leS).nodup_iff.mpr h.nd
theorem nOk_free {m : Mo} (h : MoOk m) : NOk m (true, sNs m) := ⟨by have := h.n; show (sNs m).length ≤ 100; rw [sNs_len]; omega, fun x hx => sNs_mem.mp hx⟩
theorem flat_rep {α : Type} (n : Nat) (x : α) : (List.replicate n [x]).flatten = List.replicate n x := by
  induction n with
  | zero => rfl
  | succ n ih => rw [List.replicate_succ, List.flatten_cons, ih, List.replicate_succ]; rfl
theorem sides_ok {n : Nat} (h1 : 1 ≤ n) (h3 : n ≤ 3) : F_check_sides [.int n] = some (.v .non false) := by
  have e1 := is_between_eq (.int n) rfl 1 3
  have g1 : (1 : Int) ≤ n := by omega
  have g2 : (n : Int) ≤ 3 := by omega
  simp [btw, g1, g2] at e1
  simp [F_check_sides, fnM, e_check_sides, c_check_sides_0, e1]
theorem sides_no {d : D} (hd : noObj d = true) (h : btw d 1 3 = false) : F_check_sides [d] = some (.e "BadSides" []) := by
  have e1 := is_between_eq d hd 1 3
  rw [h] at e1
  simp [F_check_sides, fnM, e_check_sides, c_check_sides_0, e1]
theorem free_no {m : Mo} {d : D} (hd : noObj d = true) (h : btw d 1 3 = false) : F_free [kindD m, d] = some (.e "BadSides" []) := by
  have e1 := sides_no hd h
  simp [F_free, fnM, e_free, c_free_0, e1]
theorem free_ok {m : Mo} (h : MoOk m) {n : Nat} (h1 : 1 ≤ n) (h3 : n ≤ 3) : F_free [kindD m, .int n] = some (.v (conD m ((List.replicate n ((true, sNs m) : NRow)).map (nRu m))) true) := by
  have e1 := sides_ok h1 h3
  have e2 := knames_ok h
  have e3 := only_ok h (c := true) (rs := List.replicate n ((true, sNs m) : NRow)) (by simpa using h1) (by simpa using h3) (fun p hp => by rw [List.eq_of_mem_replicate hp]; exact nOk_free h)
  have e4 : repD (.lst [.lst ((m.ns.mergeSort leS).map .str)]) (.int n) = some (seqD true ((List.replicate n ((true, sNs m) : NRow)).map nrD)) := by
    unfold repD
    simp only
    rw [if_pos ⟨by omega, by omega, by simp⟩, Int.toNat_natCast, flat_rep, List.map_replicate]
    rfl
  generalize seqD true ((List.replicate n ((true, sNs m) : NRow)).map nrD) = q at e3 e4
  generalize conD m ((List.replicate n ((true, sNs m) : NRow)).map (nRu m)) = r at e3 ⊢
  simp [F_free, fnM, e_free, c_free_0, c_free_1, e1, e2, e4, e3]
/-! the script's asking -/
abbrev sMade : Str := ("made" : PySem.Str)
abbrev sSides : Str := ("sides" : PySem.Str)
abbrev sContract : Str := ("contract" : PySem.Str)
theorem asked_free {m : Mo} {d r : D} (e : F_free [kindD m, d] = some (.v r true)) : F__law_asked [kindD m, .int 0, d] = some (.v (.lst [.str sMade, r]) true) := by
  simp [F__law_asked, fnM, e__law_asked, c__law_asked_0, c__law_asked_1, e]
theorem asked_sides {m : Mo} {d : D} (e : F_free [kindD m, d] = some (.e "BadSides" [])) : F__law_asked [kindD m, .int 0, d] = some (.v (.lst [.str sSides, .non]) true) := by
  have x1 : exm "BadSides" "BadSides" = some true := by rfl
  simp [F__law_asked, fnM, e__law_asked, c__law_asked_0, c__law_asked_1, e, x1, pickCl, runCl, noEx, stoS]
theorem asked_only {m : Mo} {d r : D} (e : F_only [kindD m, d] = some (.v r true)) : F__law_asked [kindD m, .int 1, d] = some (.v (.lst [.str sMade, r]) true) := by
  simp [F__law_asked, fnM, e__law_asked, c__law_asked_0, c__law_asked_1, e]
theorem asked_con {m : Mo} {d : D} {i : Int} (e : F_only [kindD m, d] = some (.e "BadContract" [("side", .int i)])) : F__law_asked [kindD m, .int 1, d] = some (.v (.lst [.str sContract, .int i]) true) := by
  have x0 : xok "BadContract" "side" = true := by rfl
  have x1 : exm "BadContract" "BadSides" = some false := by rfl
  have x2 : exm "BadContract" "BadContract" = some true := by rfl
  have x3 : xfD [(("side" : Str), D.int i)] "side" = some (.int i) := by rfl
  simp [F__law_asked, fnM, e__law_asked, c__law_asked_0, c__law_asked_1, e, x0, x1, x2, x3, pickCl, runCl, noEx, stoS]
end G

set_option Elab.async false
set_option linter.all false
set_option maxRecDepth 100000
set_option maxHeartbeats 4000001
namespace G
open PySem PySem.Spec PyProof.Rows L2 L2.TT
/-! ### the rules due -/
theorem rep_int (n : Nat) : (List.range n).map (fun _ => D.int 0) = (List.replicate n 0).map nD := by
  induction n with
  | zero => rfl
  | succ n ih => rw [List.range_succ, List.map_append, ih, List.replicate_succ', List.map_append]; rfl
theorem zeros_ok {G : List Sl} {n : Nat} (hn : n ≤ 4) {md q f s3 s4 s5 : Sl} : compL [6] (fun d => stS 6 d false) (ret true) (ret (.int 0)) (rngD 0 n) [] [md, q, f, s3, s4, s5, .no] = some (.ok ((List.replicate n 0).map nD) [md, q, f, s3, s4, s5, .no]) := by
  have e := compL_map (vs := [6]) (gm := fun d => stS 6 d false) (mt := ret true) (me := ret (.int 0)) (G := [md, q, f, s3, s4, s5, .no]) (f := fun _ => .int 0) (rngD 0 n) [] (by simp [rngD]; omega) (fun d hd => ⟨[md, q, f, s3, s4, s5, .fz d], by simp, by simp⟩)
  rw [List.nil_append] at e
  rw [e, ← rep_int]
  simp [rngD, Function.comp_def]
theorem due_step {m : Mo} (h : MoOk m) {x : Str} (hx : x ∈ m.ns) {zs : List Str} (nd : zs.Nodup) (hl : zs.length ≤ 1000) {q f s3 s5 : Sl} (h5 : stOk s5 = true) :
    TT.stepF (fun d => stS 5 d false) c__law_due_4 (.str x) [.fz m.d, q, f, s3, .ow (ruD (rN m zs)), s5, .no] = some (.ok .nx [.fz m.d, q, f, s3, .ow (ruD (rN m (addN zs x))), .fz (.str x), .no]) := by
  obtain ⟨y, hy⟩ := at_of h hx
  have rr := (h.md y hy.md).r
  have e1 := set_rN (m := m) (x := x) nd hl
  have e2 := zeros_ok (G := []) rr.2 (md := .fz m.d) (q := q) (f := f) (s3 := s3) (s4 := .ow (ruD (rN m zs))) (s5 := .fz (.str x))
  have e3 : ixD m.d (.int 2) = some m.t := by rfl
  have e4 : ixD m.t (.str x) = some y.d := hy.ld
  have e5 : ixD y.d (.int 1) = some (.int y.R) := by rfl
  have hr : okR (y.R : Int) = true := okR_nat (by omega)
  rw [resOf_at hy] at e1
  have e6 : tupD (.lst ((List.replicate y.R 0).map nD)) = some (vD (List.replicate y.R 0)) := rfl
  generalize ruD (rN m zs) = d1 at e1 e2 ⊢
  generalize m.d = md at e2 e3 ⊢
  generalize (List.replicate y.R 0).map nD = l1 at e2 e6
  generalize vD (List.replicate y.R 0) = l2 at e1 e6
  simp [h5, c__law_due_4, e2, e3, e4, e5, hr, e6, ownD, reS, e1]
theorem due_row {m : Mo} (h : MoOk m) {q f s3 : Sl} : ∀ (xs zs : List Str) (s5 : Sl), stOk s5 = true → (∀ x ∈ xs, x ∈ m.ns) → zs.Nodup → zs.length + xs.length ≤ 1000 →
    ∃ s5', stOk s5' = true ∧ TT.forM (fun d => stS 5 d false) c__law_due_4 (xs.map .str) [.fz m.d, q, f, s3, .ow (ruD (rN m zs)), s5, .no] = some (.ok .nx [.fz m.d, q, f, s3, .ow (ruD (rN m (ded zs xs))), s5', .no])
  | [], zs, s5, h5, _, _, _ => ⟨s5, h5, rfl⟩
  | x :: xs, zs, s5, h5, hx, nd, hl => by
    have hl' : zs.length + (xs.length + 1) ≤ 1000 := hl
    have e := due_step h (hx x List.mem_cons_self) nd (by omega) (q := q) (f := f) (s3 := s3) h5
    obtain ⟨s5', a1, a2⟩ := due_row h (q := q) (f := f) (s3 := s3) xs (addN zs x) (.fz (.str x)) rfl (fun z hz => hx z (List.mem_cons_of_mem _ hz)) (addN_nd nd) (by unfold addN; split <;> (try simp only [List.length_append, List.length_cons, List.length_nil]) <;> omega)
    refine ⟨s5', a1, ?_⟩
    rw [List.map_cons, forM_ok e]
    exact a2
theorem due_outer {m : Mo} (h : MoOk m) {q : Sl} {p : NRow} (hp : NOk m p) {acc : List D} (ha : acc.length ≤ 1000) {s3 s4 s5 : Sl} (h3 : stOk s3 = true) (h4 : stOk s4 = true) (h5 : stOk s5 = true) :
    ∃ s5', stOk s5' = true ∧ TT.stepF (fun d => stS 3 d false) c__law_due_2 (nrD p) [.fz m.d, q, .ow (.lst acc), s3, s4, s5, .no] = some (.ok .nx [.fz m.d, q, .ow (.lst (acc ++ [ruD (nRu m p)])), .fz (nrD p), .fz (ruD (nRu m p)), s5', .no]) := by
  obtain ⟨s5', a1, a2⟩ := due_row h (q := q) (f := .ow (.lst acc)) (s3 := .fz (nrD p)) p.2 [] s5 h5 hp.n .nil (by have := hp.l; simp; omega)
  rw [show rN m [] = [] from rfl, ruD_nil] at a2
  refine ⟨s5', a1, ?_⟩
  have e7 : itemsD (nrD p) = some (p.2.map .str) := items_seq p.1 (p.2.map .str)
  have l1 : acc.length < 1000000 := by omega
  rw [show rN m (ded [] p.2) = nRu m p from rfl] at a2
  generalize ruD (nRu m p) = r at a2 ⊢
  generalize nrD p = z at a2 e7 ⊢
  simp [h3, h4, c__law_due_2, c__law_due_3, c__law_due_5, e7, a2, ownD, reS, tyD, l1]
theorem due_walk {m : Mo} (h : MoOk m) {q : Sl} : ∀ (rs : List NRow) (acc : List D) (s3 s4 s5 : Sl), (∀ p ∈ rs, NOk m p) → acc.length + rs.length ≤ 1000 → stOk s3 = true → stOk s4 = true → stOk s5 = true →
    ∃ s3' s4' s5', stOk s3' = true ∧ TT.forM (fun d => stS 3 d false) c__law_due_2 (rs.map nrD) [.fz m.d, q, .ow (.lst acc), s3, s4, s5, .no] = some (.ok .nx [.fz m.d, q, .ow (.lst (acc ++ rs.map fun p => ruD (nRu m p))), s3', s4', s5', .no])
  | [], acc, s3, s4, s5, _, _, h3, _, _ => ⟨s3, s4, s5, h3, by simp⟩
  | p :: rs, acc, s3, s4, s5, hp, hl, h3, h4, h5 => by
    have hl' : acc.length + (rs.length + 1) ≤ 1000 := hl
    obtain ⟨t5, b1, b2⟩ := due_outer h (q := q) (hp p List.mem_cons_self) (acc := acc) (by omega) h3 h4 h5
    obtain ⟨s3', s4', s5', a1, a2⟩ := due_walk h (q := q) rs (acc ++ [ruD (nRu m p)]) (.fz (nrD p)) (.fz (ruD (nRu m p))) t5 (fun z hz => hp z (List.mem_cons_of_mem _ hz)) (by simp only [List.length_append, List.length_cons, List.length_nil]; omega) rfl rfl b1
    refine ⟨s3', s4', s5', a1, ?_⟩
    rw [List.map_cons, forM_ok b2, a2]
    simp
theorem due_ok {m : Mo} (h : MoOk m) {rs : List NRow} (hp : ∀ p ∈ rs, NOk m p) (h3 : rs.length ≤ 3) : F__law_due [m.d, .lst (rs.map nrD)] = some (.v (rusD (rs.map (nRu m))) true) := by
  obtain ⟨s3', s4', s5', a1, a2⟩ := due_walk h (q := .fz (.lst (rs.map nrD))) rs [] .no .no .no hp (by simp; omega) rfl rfl rfl
  rw [List.nil_append] at a2
  have e10 : D.lst (rs.map fun p => ruD (nRu m p)) = rusD (rs.map (nRu m)) := by unfold rusD; rw [List.map_map]; rfl
  rw [e10] at a2
  generalize rs.map nrD = ds at a2 ⊢
  generalize rusD (rs.map (nRu m)) = r at a2 ⊢
  simp [F__law_due, fnM, e__law_due, c__law_due_0, c__law_due_1, c__law_due_6, a2]
end G

set_option Elab.async false
set_option linter.all false
set_option maxRecDepth 100000
set_option maxHeartbeats 4000001
namespace G
open PySem PySem.Spec PyProof.Rows L2 L2.TT
/-! ### a contract held against the rules due -/
theorem leS_tot (a b : Str) : (leS a b || leS b a) = true := by
  cases e : leS a b with
  | true => rfl
  | false =>
    rw [Bool.false_or, leS_iff]
    unfold leS at e
    exact ltC_asym (by simpa using e)
theorem leS_anti {a b : Str} (h1 : leS a b = true) (h2 : leS b a = true) : a = b := by
  rw [leS_iff] at h1 h2
  have e := ltC_anti h1 h2
  obtain ⟨⟨x⟩⟩ := a
  obtain ⟨⟨y⟩⟩ := b
  simp only at e
  rw [e]
theorem sorted_filter {ns zs : List Str} (hn : ns.Nodup) (hz : zs.Nodup) (hs : ∀ z ∈ zs, z ∈ ns) : (ns.mergeSort leS).filter (fun x => decide (x ∈ zs)) = zs.mergeSort leS := by
  refine sort_is leS_tr (fun a b => leS_tot a b) (fun a b h1 h2 => leS_anti h1 h2) ?_ ?_
  · exact (List.pairwise_mergeSort leS_tr leS_tot ns).sublist List.filter_sublist
  · refine (List.perm_ext_iff_of_nodup (((List.mergeSort_perm ns leS).nodup_iff.mpr hn).sublist List.filter_sublist) hz).mpr fun x => ?_
    rw [List.mem_filter, (List.mergeSort_perm ns leS).mem_iff]
    simp only [decide_eq_true_eq]
    exact ⟨fun q => q.2, fun q => ⟨hs x q, q⟩⟩
theorem mays0 {m : Mo} (h : MoOk m) {zs : List Str} (nd : zs.Nodup) (hs : ∀ z ∈ zs, z ∈ m.ns) : mays m (rN m zs) 0 = zs.mergeSort leS := by
  rw [← sorted_filter h.nd nd hs]
  unfold mays
  refine List.filter_congr (fun (x : Str) _ => ?_)
  by_cases c : x ∈ zs
  · rw [look_rN c]; simp [c]
  · rw [look_no (.inl c)]; simp [c]
theorem mays1 {m : Mo} {zs : List Str} {mo : Nat} (hm : mo ≠ 0) : mays m (rN m zs) mo = [] := by
  unfold mays
  rw [List.filter_eq_nil_iff]
  intro x _
  rw [look_no (.inr hm)]
  simp
theorem sm_strs {ns : List Str} (hl : ns.length ≤ 1000) (h : ∀ x ∈ ns, PyData.strOk x = true) (n : Nat) : Sm (n + 2) (.lst (ns.map .str)) := ⟨by rw [List.length_map]; exact hl, fun d hd => by
  obtain ⟨x, hx, rfl⟩ := List.mem_map.mp hd
  exact h x hx⟩
theorem sortL_strs {zs : List Str} (hl : zs.length < 64) : sortL (.lst (zs.map .str)) = some (.lst ((zs.mergeSort leS).map .str)) := by
  by_cases c : zs = []
  · subst c; simp [sortL, sortD, asInts]
  · unfold sortL
    simp only [sortD_strs c hl, Option.map_some]
theorem x_rN (m : Mo) (zs : List Str) : (rN m zs).map (fun e => D.str e.x) = zs.map .str := by
  unfold rN
  rw [List.map_map]
  rfl
theorem right_step {m : Mo} (h : MoOk m) {rs : List (List En)} {i : Nat} {zs : List Str} (hi : rs[i]? = some (rN m zs)) (nd : zs.Nodup) (hs : ∀ z ∈ zs, z ∈ m.ns) {s3 s4 : Sl} (h3 : stOk s3 = true) (h4 : stOk s4 = true) :
    ∃ s4', stOk s4' = true ∧ TT.stepF (fun d => stS 3 d false) c__law_right_2 (.int i) [.fz (kindD m), .fz (.lst [.str sMade, conD m rs]), .fz (rusD rs), s3, s4, .no] = some (.ok .nx [.fz (kindD m), .fz (.lst [.str sMade, conD m rs]), .fz (rusD rs), .fz (.int i), s4', .no]) := by
  have lz := nodup_len zs m.ns nd hs
  have hn := h.n
  have e1 := ru_at hi
  have e2 := items_ru (rN m zs)
  have e3 := compL_mapT (vs := [5]) (gm := fun d => stS 5 d false) (mt := ret true) (me := op2v ixD 5 (ret (.int 1))) (G := [.fz (kindD m), .fz (.lst [.str sMade, conD m rs]), .fz (rusD rs), .fz (.int i), s4, .no]) (g := fun e : En => tkeyD e.k) (f := fun e => .str e.x) (rN m zs) [] (by simp [rN]; omega) (fun e he => by
    have ek : ixD (tkeyD e.k) (.int 1) = some (.str e.x) := by rfl
    exact ⟨[.fz (kindD m), .fz (.lst [.str sMade, conD m rs]), .fz (rusD rs), .fz (.int i), s4, .fz (tkeyD e.k)], by simp [ek], by simp⟩)
  rw [List.nil_append, x_rN] at e3
  have e4 := sortL_strs (zs := zs) (by omega)
  have e5 : F_Contract_methods [conD m rs, .int i, .int 0] = some (.v (.lst ((zs.mergeSort leS).map .str)) true) := by
    have := methods_ok h hi (mo := 0) (by omega)
    rw [mays0 h nd hs] at this
    exact this
  have e6 : F_Contract_methods [conD m rs, .int i, .int 1] = some (.v (.lst []) true) := by
    have := methods_ok h hi (mo := 1) (by omega)
    rw [mays1 (by omega)] at this
    exact this
  have pm := List.mergeSort_perm zs leS
  have e7 := same_ok 9 (.lst ((zs.mergeSort leS).map .str)) (sm_strs (by rw [pm.length_eq]; omega) (fun x hx => nm_ok (h.nm x (hs x (pm.mem_iff.mp hx)))) 7)
  have e8 := same_ok 9 (.lst []) ⟨by simp, by simp⟩
  have e9 : ixD (.lst [.str sMade, conD m rs]) (.int 1) = some (conD m rs) := by rfl
  refine ⟨.fz (.lst ((zs.mergeSort leS).map .str)), rfl, ?_⟩
  have o1 := isOf_cmethods m rs
  generalize kindD m = kd at e3 ⊢
  generalize conD m rs = cd at e3 e5 e6 e9 o1 ⊢
  generalize rusD rs = rd at e1 e3 ⊢
  generalize ruD (rN m zs) = r at e1 e2
  generalize (rN m zs).map (fun e => tkeyD e.k) = ks at e2 e3
  generalize zs.map D.str = z1 at e3 e4
  generalize (zs.mergeSort leS).map D.str = z2 at e4 e5 e7 ⊢
  simp [h3, h4, c__law_right_2, c__law_right_3, e1, e2, e3, e4, e5, e6, e7, e8, e9, o1]
end G

set_option Elab.async false
set_option linter.all false
set_option maxRecDepth 100000
set_option maxHeartbeats 4000001
namespace G
open PySem PySem.Spec PyProof.Rows L2 L2.TT
theorem right_walk {m : Mo} (h : MoOk m) {rs : List (List En)} (hr : ∀ r ∈ rs, ∃ zs, r = rN m zs ∧ zs.Nodup ∧ ∀ z ∈ zs, z ∈ m.ns) : ∀ (n k : Nat) (s3 s4 : Sl), k + n = rs.length → stOk s3 = true → stOk s4 = true →
    ∃ s3' s4', TT.forM (fun d => stS 3 d false) c__law_right_2 ((List.range' k n).map fun i => .int (i : Nat)) [.fz (kindD m), .fz (.lst [.str sMade, conD m rs]), .fz (rusD rs), s3, s4, .no] = some (.ok .nx [.fz (kindD m), .fz (.lst [.str sMade, conD m rs]), .fz (rusD rs), s3', s4', .no])
  | 0, k, s3, s4, _, _, _ => ⟨s3, s4, rfl⟩
  | n + 1, k, s3, s4, hk, h3, h4 => by
    have lk : k < rs.length := by omega
    obtain ⟨zs, e, nd, hs⟩ := hr rs[k] (List.getElem_mem _)
    obtain ⟨t4, b1, b2⟩ := right_step h (rs := rs) (i := k) (zs := zs) (by rw [List.getElem?_eq_getElem lk, e]) nd hs h3 h4
    obtain ⟨s3', s4', a⟩ := right_walk h hr n (k + 1) (.fz (.int k)) t4 (by omega) rfl b1
    refine ⟨s3', s4', ?_⟩
    rw [List.range'_succ, List.map_cons, forM_ok b2]
    exact a
theorem rng_eq (n : Nat) : rngD 0 n = (List.range' 0 n).map fun i => .int (i : Nat) := by
  unfold rngD
  rw [List.range_eq_range']
  refine List.map_congr_left (fun (i : Nat) _ => ?_)
  simp
@[simp] theorem isMade : neD (.str sMade) (.str sMade) = some (.bl false) := by rw [neD_ss (by decide +kernel) (by decide +kernel)]; rfl
@[simp] theorem isNot_tt : isNotD (.bl true) (.bl true) = some (.bl false) := by rfl
@[simp] theorem isD_tt : isD (.bl true) (.bl true) = some (.bl true) := by rfl
theorem right_ok {m : Mo} (h : MoOk m) {rs : List (List En)} (h1 : 1 ≤ rs.length) (h3 : rs.length ≤ 3) (hr : ∀ r ∈ rs, ∃ zs, r = rN m zs ∧ zs.Nodup ∧ ∀ z ∈ zs, z ∈ m.ns) : F__law_right [kindD m, .lst [.str sMade, conD m rs], rusD rs] = some (.v (.bl true) false) := by
  obtain ⟨s3, s4, a⟩ := right_walk h hr rs.length 0 .no .no (by omega) rfl rfl
  rw [← rng_eq] at a
  have e1 := con_init h h1 h3 (fun r hm => by
    obtain ⟨zs, rfl, nd, hs⟩ := hr r hm
    exact rN_ok h nd hs)
  have e2 := con_eq m rs
  have e3 := kind_eq m
  have e4 : lenD (rusD rs) = some (.int rs.length) := by simp [rusD]
  have hr : okR (rs.length : Int) = true := okR_nat (by omega)
  have e9 : ixD (.lst [.str sMade, conD m rs]) (.int 1) = some (conD m rs) := by rfl
  have e8 : ixD (.lst [.str sMade, conD m rs]) (.int 0) = some (.str sMade) := by rfl
  have f1 := fld_csides m rs
  have f2 := fld_ckind m rs
  have c1 := isCl_con m rs
  have c2 := isCl_kind m
  generalize rusD rs = rd at a e1 e4 ⊢
  generalize conD m rs = cd at a e1 e2 e8 e9 f1 f2 c1 ⊢
  generalize kindD m = kd at a e1 e3 f2 c2 ⊢
  simp [F__law_right, fnM, e__law_right, c__law_right_0, c__law_right_1, c__law_right_4, makeD, e1, e2, e3, e4, hr, e8, e9, f1, f2, c1, c2, a]
end G

set_option Elab.async false
set_option linter.all false
set_option maxRecDepth 100000
set_option maxHeartbeats 4000001
namespace G
open PySem PySem.Spec PyProof.Rows L2 L2.TT
/-! ### what is told, compared; rows copied -/
theorem eqB_told {s : Str} (hs : PyData.strOk s = true) {d : D} (hd : d = .non ∨ ∃ i, d = .int i) : eqB (.lst [.str s, d]) (.lst [.str s, d]) = some true := by
  rcases hd with rfl | ⟨i, rfl⟩ <;> simp [eqB, toPy, toPys, SeqAt.shaped, PyData.canLay0, PyData.canLayAll0, PyData.depth, PyData.depthAll, hs, PyData.eqv, PyData.eqvAll]
theorem copied_lst {n : Nat} {ds : List D} (h : Pl (n + 1) (.lst ds)) : F__law_copied (n + 1) [.lst ds] = some (.v (.lst ds) true) := by
  have e := copied_list (n := n) (ds := ds) (fun d hd => copied_ok n d (h.2 d hd)) h.1 (.fz (.lst ds))
  simp [F__law_copied, fnM, e__law_copied, c__law_copied_0, c__law_copied_5, c__law_copied_6, c__law_copied_7, e]
theorem nm_len {x : Str} (h : Nm x) : x.length ≤ 1000000 := by
  have := h.hi
  have e : x.length = x.cps.toList.length := by simp [Str.length]
  omega
theorem pl_row {m : Mo} (h : MoOk m) {p : NRow} (hp : NOk m p) (n : Nat) : Pl (n + 2) (nrD p) ∧ Sm (n + 2) (nrD p) := by
  obtain ⟨c, xs⟩ := p
  have hl := hp.l
  cases c <;> refine ⟨⟨by rw [List.length_map]; omega, fun d hd => ?_⟩, ⟨by rw [List.length_map]; omega, fun d hd => ?_⟩⟩ <;> obtain ⟨x, hx, rfl⟩ := List.mem_map.mp hd
  · exact nm_len (h.nm x (hp.n x hx))
  · exact nm_ok (h.nm x (hp.n x hx))
  · exact nm_len (h.nm x (hp.n x hx))
  · exact nm_ok (h.nm x (hp.n x hx))
theorem copy_rows {m : Mo} (h : MoOk m) {rs : List NRow} (hp : ∀ p ∈ rs, NOk m p) (h3 : rs.length ≤ 3) : F__law_copied 9 [.lst (rs.map nrD)] = some (.v (.lst (rs.map nrD)) true) := copied_lst (n := 8) ⟨by rw [List.length_map]; omega, fun d hd => by
  obtain ⟨r, hm, rfl⟩ := List.mem_map.mp hd
  exact (pl_row h (hp r hm) 6).1⟩
theorem same_rows {m : Mo} (h : MoOk m) {rs : List NRow} (hp : ∀ p ∈ rs, NOk m p) (h3 : rs.length ≤ 3) : F__law_same 9 [.lst (rs.map nrD), .lst (rs.map nrD)] = some (.v (.bl true) false) := same_ok 9 _ ⟨by rw [List.length_map]; omega, fun d hd => by
  obtain ⟨r, hm, rfl⟩ := List.mem_map.mp hd
  exact (pl_row h (hp r hm) 6).2⟩
/-- made and held -/
theorem made_only {m : Mo} (h : MoOk m) {c : Bool} {rs : List NRow} (h1 : 1 ≤ rs.length) (h3 : rs.length ≤ 3) (hp : ∀ p ∈ rs, NOk m p) : F__law_asked [kindD m, .int 1, seqD c (rs.map nrD)] = some (.v (.lst [.str sMade, conD m (rs.map (nRu m))]) true) := asked_only (only_ok h h1 h3 hp)
theorem made_right {m : Mo} (h : MoOk m) {rs : List NRow} (h1 : 1 ≤ rs.length) (h3 : rs.length ≤ 3) (hp : ∀ p ∈ rs, NOk m p) : F__law_right [kindD m, .lst [.str sMade, conD m (rs.map (nRu m))], rusD (rs.map (nRu m))] = some (.v (.bl true) false) := right_ok h (by rw [List.length_map]; exact h1) (by rw [List.length_map]; exact h3) fun r hm => by
  obtain ⟨p, hq, rfl⟩ := List.mem_map.mp hm
  exact ⟨ded [] p.2, rfl, ded_nd .nil, ded_sub (by simp) (hp p hq).n⟩
/-- the names once for each side -/
theorem names_comp {sc pl md kd s5 s6 s8 s9 s10 s11 s12 s13 : Sl} {L : D} (n : Nat) (hn : n ≤ 3) : compL [7] (fun d => stS 7 d false) (ret true) (gv 4) (rngD 0 (1 + n : Nat)) [] [sc, pl, md, kd, .ow L, s5, s6, .no, s8, s9, s10, s11, s12, s13] = some (.ok (List.replicate (1 + n) L) [sc, pl, md, kd, .fz L, s5, s6, .no, s8, s9, s10, s11, s12, s13]) := by
  have e1 : rngD 0 (1 + n : Nat) = .int 0 :: (List.range' 1 n).map fun i => .int (i : Nat) := by
    rw [rng_eq, show 1 + n = n + 1 by omega, List.range'_succ]; rfl
  have e2 := compL_mapT (vs := [7]) (gm := fun d => stS 7 d false) (mt := ret true) (me := gv 4) (G := [sc, pl, md, kd, .fz L, s5, s6, .no, s8, s9, s10, s11, s12, s13]) (g := fun i : Nat => .int (i : Nat)) (f := fun _ => L) (List.range' 1 n) [L] (by simp; omega) (fun d hd => ⟨[sc, pl, md, kd, .fz L, s5, s6, .fz (.int d), s8, s9, s10, s11, s12, s13], by simp, by simp⟩)
  have e3 : stepC (fun d => stS 7 d false) (ret true) (gv 4) (.int 0) [sc, pl, md, kd, .ow L, s5, s6, .no, s8, s9, s10, s11, s12, s13] = some (.ok (some L) [sc, pl, md, kd, .fz L, s5, s6, .fz (.int 0), s8, s9, s10, s11, s12, s13]) := by simp
  rw [e1, compL_step e3]
  have l0 : ([] : List D).length < 1000000 := by simp
  simp only [if_pos l0, List.nil_append, dropS_cons, dropS_nil, List.set_cons_succ, List.set_cons_zero]
  rw [e2]
  have : (List.range' 1 n).map (fun _ => L) = List.replicate n L := by
    rw [List.map_const', List.length_range']
  rw [this, show 1 + n = n + 1 by omega, List.replicate_succ]
  rfl
end G

set_option Elab.async false
set_option linter.all false
set_option maxRecDepth 100000
set_option maxHeartbeats 4000001
namespace G
open PySem PySem.Spec PyProof.Rows L2 L2.TT
/-! ### the rows drawn -/
abbrev naD (m : Mo) : D := .lst ((sNs m).map .str)
def LW (sc p : D) (m : Mo) (S : Nat) (s6 s7 s8 s9 s10 s11 s12 s13 : Sl) : List Sl := [.fz sc, .ow p, .fz m.d, .fz (kindD m), .fz (naD m), .fz (.int S), s6, s7, s8, s9, s10, s11, s12, s13]
theorem one_row {m : Mo} (h : MoOk m) {sc p : D} (hp : IsPool p) {S n : Nat} (hn : n ≤ 6) {s6 s7 s12 : Sl} : ∃ (p' : D) (xs : List Str), IsPool p' ∧ xs.length ≤ 6 ∧ (∀ x ∈ xs, x ∈ m.ns) ∧
    compL [13] (fun d => stS 13 d false) (ret true) (op2v ixD 4 (frz (callPM 1 1 F__law_draw (cnsM (op1 lenD (pk 4)) (ret []))))) (rngD 0 n) [] (LW sc p m S s6 s7 .no .no .no .no s12 .no) = some (.ok (xs.map .str) (LW sc p' m S s6 s7 .no .no .no .no s12 .no)) := by
  have w := Wp_comp (vs := [13]) (gm := fun d => stS 13 d false) (mt := ret true) (me := op2v ixD 4 (frz (callPM 1 1 F__law_draw (cnsM (op1 lenD (pk 4)) (ret []))))) (Q := fun x => ∃ (p' : D) (xs : List Str), IsPool p' ∧ xs.length ≤ 6 ∧ (∀ x ∈ xs, x ∈ m.ns) ∧ x = .ok (xs.map .str) (LW sc p' m S s6 s7 .no .no .no .no s12 .no))
    (fun i acc G => ∃ (p' : D) (xs : List Str), IsPool p' ∧ xs.length = i ∧ (∀ x ∈ xs, x ∈ m.ns) ∧ acc = xs.map .str ∧ G = LW sc p' m S s6 s7 .no .no .no .no s12 .no) (rngD 0 n) 0 [] (LW sc p m S s6 s7 .no .no .no .no s12 .no) ⟨p, [], hp, rfl, by simp, rfl, rfl⟩ ?_ ?_
  · obtain ⟨x, e, p', xs, h1, h2, h3, rfl⟩ := w
    exact ⟨p', xs, h1, h2, h3, e⟩
  · rintro i d acc G hi ⟨p1, xs, q1, q2, q3, rfl, rfl⟩
    have hi' : i < n := by
      have := ((List.getElem?_eq_some_iff.mp hi).1)
      simpa [rngD] using this
    have hn := h.n
    have ln := sNs_len m
    obtain ⟨p2, k, r1, r2, r3, r4⟩ := draw_ok q1 (m := (sNs m).length) (by omega) (by omega)
    obtain ⟨k, rfl⟩ := Int.eq_ofNat_of_zero_le r2
    have hk : k < (sNs m).length := by omega
    have e1 : lenD (naD m) = some (.int (sNs m).length) := by simp [naD]
    have e2 : ixD (naD m) (.int k) = some (.str (sNs m)[k]) := ix_nat (by rw [List.getElem?_map, List.getElem?_eq_getElem hk]; rfl)
    have mem : (sNs m)[k] ∈ m.ns := sNs_mem.mp (List.getElem_mem hk)
    generalize (sNs m)[k] = x at e2 mem
    unfold LW
    generalize naD m = na at e1 e2 ⊢
    simp [e1, ownD, reS, r4, e2]
    refine ⟨by omega, p2, r1, xs ++ [x], by simp; omega, fun z hz => ?_, by simp, rfl⟩
    rcases List.mem_append.mp hz with q | q
    · exact q3 z q
    · simp at q; subst q; exact mem
  · rintro acc G ⟨p1, xs, q1, q2, q3, rfl, rfl⟩
    refine ⟨p1, xs, q1, ?_, q3, rfl⟩
    simp [rngD] at q2
    omega
theorem row_step {m : Mo} (h : MoOk m) {sc p : D} (hp : IsPool p) {S : Nat} {rs : List NRow} (hl : rs.length ≤ 3) {s7 s12 : Sl} {d : D} (h7 : stOk s7 = true) (h12 : stOk s12 = true) : ∃ (p' : D) (r : NRow), IsPool p' ∧ NOk m r ∧
    ∃ t12, stOk t12 = true ∧ TT.stepF (fun d => stS 7 d false) c_law_8 d (LW sc p m S (.ow (.lst (rs.map nrD))) s7 .no .no .no .no s12 .no) = some (.ok .nx (LW sc p' m S (.ow (.lst ((rs ++ [r]).map nrD))) (.fz d) .no .no .no .no t12 .no)) := by
  obtain ⟨p1, n, q1, q2, q3, q4⟩ := draw_ok hp (m := 6) (by omega) (by omega)
  obtain ⟨n, rfl⟩ := Int.eq_ofNat_of_zero_le q2
  obtain ⟨p2, xs, r1, r2, r3, r4⟩ := one_row h (sc := sc) q1 (S := S) (n := n) (by omega) (s6 := .ow (.lst (rs.map nrD))) (s7 := .fz d) (s12 := s12)
  obtain ⟨p3, k, t1, t2, t3, t4⟩ := draw_ok r1 (m := 2) (by omega) (by omega)
  have hr : okR (n : Int) = true := okR_nat (by omega)
  have l1 : rs.length < 1000000 := by omega
  unfold LW at r4 ⊢
  by_cases hk : k = 0
  · subst hk
    refine ⟨p3, (true, xs), t1, ⟨by simp; omega, r3⟩, .fz (.lst (xs.map .str)), rfl, ?_⟩
    have e1 : (rs ++ [((true, xs) : NRow)]).map nrD = rs.map nrD ++ [.lst (xs.map .str)] := by simp [nrD, seqD]
    rw [e1]
    have l2 : (rs.map nrD).length < 1000000 := by rw [List.length_map]; exact l1
    generalize rs.map nrD = z at r4 l2 ⊢
    generalize xs.map D.str = y at r4 ⊢
    generalize naD m = na at r4 ⊢
    generalize kindD m = kd at r4 ⊢
    generalize m.d = md at r4 ⊢
    simp [h7, h12, c_law_8, c_law_9, ownD, reS, q4, hr, r4, t4, tyD, l2]
  · have hk1 : k = 1 := by omega
    subst hk1
    refine ⟨p3, (false, xs), t1, ⟨by simp; omega, r3⟩, .fz (.lst (xs.map .str)), rfl, ?_⟩
    have e1 : (rs ++ [((false, xs) : NRow)]).map nrD = rs.map nrD ++ [.tup (xs.map .str)] := by simp [nrD, seqD]
    rw [e1]
    have l2 : (rs.map nrD).length < 1000000 := by rw [List.length_map]; exact l1
    have e2 : tupD (.lst (xs.map .str)) = some (.tup (xs.map .str)) := rfl
    generalize rs.map nrD = z at r4 l2 ⊢
    generalize xs.map D.str = y at r4 e2 ⊢
    generalize naD m = na at r4 ⊢
    generalize kindD m = kd at r4 ⊢
    generalize m.d = md at r4 ⊢
    simp [h7, h12, c_law_8, c_law_9, ownD, reS, q4, hr, r4, t4, tyD, l2, e2]
theorem rows_ok {m : Mo} (h : MoOk m) {sc : D} {S : Nat} : ∀ (ds : List D) (p : D) (rs : List NRow) (s7 s12 : Sl), IsPool p → (∀ r ∈ rs, NOk m r) → rs.length + ds.length ≤ 3 → stOk s7 = true → stOk s12 = true →
    ∃ (p' : D) (rs' : List NRow) (t7 t12 : Sl), IsPool p' ∧ (∀ r ∈ rs', NOk m r) ∧ rs'.length = rs.length + ds.length ∧ stOk t7 = true ∧ stOk t12 = true ∧
      TT.forM (fun d => stS 7 d false) c_law_8 ds (LW sc p m S (.ow (.lst (rs.map nrD))) s7 .no .no .no .no s12 .no) = some (.ok .nx (LW sc p' m S (.ow (.lst (rs'.map nrD))) t7 .no .no .no .no t12 .no))
  | [], p, rs, s7, s12, hp, hr, _, h7, h12 => ⟨p, rs, s7, s12, hp, hr, rfl, h7, h12, rfl⟩
  | d :: ds, p, rs, s7, s12, hp, hr, hl, h7, h12 => by
    have hl' : rs.length + (ds.length + 1) ≤ 3 := hl
    obtain ⟨p1, r, a1, a2, t12, a3, a4⟩ := row_step h (sc := sc) hp (S := S) (rs := rs) (by omega) (d := d) h7 h12
    obtain ⟨p', rs', u7, u12, b1, b2, b3, b4, b5, b6⟩ := rows_ok h (sc := sc) (S := S) ds p1 (rs ++ [r]) (.fz d) t12 a1 (fun z hz => by
      rcases List.mem_append.mp hz with q | q
      · exact hr z q
      · simp at q; subst q; exact a2) (by simp; omega) rfl a3
    refine ⟨p', rs', u7, u12, b1, b2, by rw [b3]; simp; omega, b4, b5, ?_⟩
    rw [forM_ok a4]
    exact b6
end G

set_option Elab.async false
set_option linter.all false
set_option maxRecDepth 100000
set_option maxHeartbeats 4000001
namespace G
open PySem PySem.Spec PyProof.Rows L2 L2.TT
/-! ### worse rows -/
@[simp] theorem callCM_r (n : Nat) (F : List D → Option Out) (is : List (Nat ⊕ Int)) (g : List Sl) : callCM n F is g = match pkC is g with
  | none => none
  | some ds => if ds.length = n ∧ ds.all noDic = true then match F ds with
    | some (.v d false) => if flatD d = true then some (.ok (d, false) g) else none
    | some (.v d true) => if flatL d = true then some (.ok (d, true) g) else none
    | _ => none else none := (rfl)
theorem split_at {α : Type} {W : List α} {i : Nat} {r : α} (h : W[i]? = some r) : W = W.take i ++ r :: W.drop (i + 1) := by
  have ⟨hi, e⟩ := List.getElem?_eq_some_iff.mp h
  conv => lhs; rw [← List.take_append_drop i W]
  rw [List.drop_eq_getElem_cons hi, e]
def badL (x0 : Str) : List (D × Bool) := [(.str ("A" : PySem.Str), false), (.str ("" : PySem.Str), false), (.non, false), (.int 0, false), (.lst [], true), (.dic [] [], true), (.tup [.str x0], false)]
theorem bad_ok {m : Mo} (h : MoOk m) {x0 : Str} {x : D × Bool} (hx : x ∈ badL x0) : noObj x.1 = true ∧ okN m x.1 = false := by
  unfold badL at hx
  simp only [List.not_mem_nil, List.mem_cons, or_false] at hx
  rcases hx with rfl | rfl | rfl | rfl | rfl | rfl | rfl <;> refine ⟨rfl, ?_⟩ <;> try rfl
  · refine decide_eq_false fun c => ?_
    have := (h.nm _ c).ab 65 (by decide +kernel)
    omega
  · refine decide_eq_false fun c => ?_
    have := (h.nm _ c).lo
    revert this
    decide +kernel
theorem list_row (p : NRow) : listD (nrD p) = some (.lst (p.2.map .str)) := by
  obtain ⟨c, xs⟩ := p
  cases c <;> rfl
theorem asked_worse {m : Mo} (h : MoOk m) {rs : List NRow} (hp : ∀ p ∈ rs, NOk m p) {W : List Rw} {i : Nat} {r : Rw} (hl : W.length = rs.length) (h3 : rs.length ≤ 3) (hi : W[i]? = some r) (ht : W.take i = (rs.map nrw).take i) (hr : RwOk r) (hb : r.ds.all (okN m) = false) :
    F__law_asked [kindD m, .int 1, .lst (W.map Rw.d)] = some (.v (.lst [.str sContract, .int i]) true) := by
  have hi' : i < W.length := (List.getElem?_eq_some_iff.mp hi).1
  have lt : (W.take i).length = i := by rw [List.length_take]; omega
  have sub : ∀ z ∈ W.take i, ∃ p ∈ rs, z = nrw p := fun z hz => by
    rw [ht] at hz
    obtain ⟨p, a, b⟩ := List.mem_map.mp (List.mem_of_mem_take hz)
    exact ⟨p, a, b.symm⟩
  have e := only_bad h (c := true) (pre := W.take i) (r := r) (post := W.drop (i + 1)) (by rw [lt, List.length_drop]; omega) (fun z hz => by
    obtain ⟨p, a, rfl⟩ := sub z hz
    exact nOk_rw (hp p a)) (fun z hz => by
    obtain ⟨p, a, rfl⟩ := sub z hz
    exact nOk_all (hp p a)) hr hb
  rw [← split_at hi, lt] at e
  exact asked_con e
theorem neg1 {m : Mo} {d : D} (e : F_only [kindD m, d] = some (.e "BadContract" [("side", .int (-1))])) : F__law_asked [kindD m, .int 1, d] = some (.v (.lst [.str sContract, .int (-1)]) true) := asked_con e
def oddL : List (D × Bool) := [(.non, false), (.int 0, false), (.dic [] [], true), (.str ("" : PySem.Str), false), (.bl true, false)]
theorem odd_ok {x : D × Bool} (hx : x ∈ oddL) : noObj x.1 = true ∧ isSq x.1 = false := by
  unfold oddL at hx
  simp only [List.not_mem_nil, List.mem_cons, or_false] at hx
  rcases hx with rfl | rfl | rfl | rfl | rfl <;> exact ⟨rfl, rfl⟩
def sidL : List (D × Bool) := [(.int 0, false), (.int 4, false), (.int (-1), false), (.non, false), (.bl true, false), (.str ("2" : PySem.Str), false), (.lst [.int 1], true), (.dic [] [], true)]
theorem sid_ok {x : D × Bool} (hx : x ∈ sidL) : noObj x.1 = true ∧ btw x.1 1 3 = false := by
  unfold sidL at hx
  simp only [List.not_mem_nil, List.mem_cons, or_false] at hx
  rcases hx with rfl | rfl | rfl | rfl | rfl | rfl | rfl | rfl <;> exact ⟨rfl, rfl⟩
def thiL (R : List D) (W : D) : List (D × Bool) := [(.non, false), (.lst [], true), (.dic [] [], true), (.lst (R ++ R ++ R ++ R), true), (.str ("a" : PySem.Str), false), (.int 0, false), (W, false)]
theorem thi_ok {m : Mo} {R W : List D} (h1 : 1 ≤ R.length) (hR : ∀ d ∈ R, noObj d = true) (hW : ∀ d ∈ W, noObj d = true) (hl : W.length ≤ 3) (hb : W.all isSq = false) {x : D × Bool} (hx : x ∈ thiL R (.lst W)) : F__law_asked [kindD m, .int 1, x.1] = some (.v (.lst [.str sContract, .int (-1)]) true) := by
  unfold thiL at hx
  simp only [List.not_mem_nil, List.mem_cons, or_false] at hx
  rcases hx with rfl | rfl | rfl | rfl | rfl | rfl | rfl
  · exact neg1 (only_row rfl rfl)
  · exact neg1 (only_row rfl rfl)
  · exact neg1 (only_row rfl rfl)
  · refine neg1 (only_row rfl ?_)
    simp [rowB, rowL]
    omega
  · exact neg1 (only_row rfl rfl)
  · exact neg1 (only_row rfl rfl)
  · exact neg1 (only_odd (c := true) hW (by omega) hb)
end G

set_option Elab.async false
set_option linter.all false
set_option maxRecDepth 100000
set_option maxHeartbeats 4000001
namespace G
open PySem PySem.Spec PyProof.Rows L2 L2.TT
section
variable {m : Mo} {sc : D} {S : Nat} {Q : Rs Fl → Prop}
theorem part21 (hQ : ∀ g, Q (.ok (.rt (.bl true) false) g)) {p : D} (hp : IsPool p) {R W : List D} (h1 : 1 ≤ R.length) (h3 : R.length ≤ 3) (hR : ∀ d ∈ R, noObj d = true) (hW : ∀ d ∈ W, noObj d = true) (hl : W.length ≤ 3) (hb : W.all isSq = false) {s7 s8 s9 s12 s13 : Sl} :
    Wp (c_law_21 (LW sc p m S (.fz (.lst R)) s7 s8 s9 (.ow (.lst W)) .no s12 s13)) Q := by
  unfold c_law_21
  refine Wp_seq ?_
  obtain ⟨p1, k, q1, q2, q3, q4⟩ := draw_ok hp (m := 7) (by omega) (by omega)
  obtain ⟨x, hx, ex⟩ := pick_at (ps := thiL R (.lst W)) q2 (by simpa [thiL] using q3)
  have e1 := thi_ok (m := m) h1 hR hW hl hb hx
  have l1 : R.length + R.length ≤ 1000000 := by omega
  have l2 : (R ++ R).length + R.length ≤ 1000000 := by simp; omega
  have l3 : (R ++ R ++ R).length + R.length ≤ 1000000 := by simp; omega
  have e2 : eqD (.lst [.str sContract, .int (-1)]) (.lst [.str sContract, .int (-1)]) = some (.bl true) := by
    unfold eqD
    rw [eqB_told (by decide +kernel) (.inr ⟨_, rfl⟩)]
    rfl
  have e3 : negI (.int 1) = some (.int (-1)) := rfl
  unfold thiL at ex
  obtain ⟨r3, er3⟩ : ∃ z, R ++ R ++ R ++ R = z := ⟨_, rfl⟩
  obtain ⟨r2, er2⟩ : ∃ z, R ++ R ++ R = z := ⟨_, rfl⟩
  obtain ⟨r1, er1⟩ : ∃ z, R ++ R = z := ⟨_, rfl⟩
  rw [er3] at ex
  rw [er2] at l3 er3
  rw [er1] at l2 er2
  have l4 : r1.length + R.length ≤ 1000000 := l2
  obtain ⟨d, o⟩ := x
  unfold LW
  generalize kindD m = kd at e1 ⊢
  generalize m.d = md
  generalize naD m = na
  obtain ⟨tl, etl⟩ : ∃ z : D, (.lst [.str sContract, .int (-1)]) = z := ⟨_, rfl⟩
  rw [etl] at e1 e2
  cases o <;> simp [ownD, reS, q4, l1, l4, l3, er1, er2, er3, ex, c_law_22, e1, e3, etl, e2, hQ, -List.append_assoc]
end
end G

set_option Elab.async false
set_option linter.all false
set_option maxRecDepth 100000
set_option maxHeartbeats 4000001
namespace G
open PySem PySem.Spec PyProof.Rows L2 L2.TT
section
variable {m : Mo} {sc : D} {S : Nat} {Q : Rs Fl → Prop}
theorem part20 (hQ : ∀ g, Q (.ok (.rt (.bl true) false) g)) {p : D} (hp : IsPool p) {R W : List D} (h1 : 1 ≤ S) (h3 : S ≤ 3) (hRl : R.length = S) (hWl : W.length = S) (hR : ∀ d ∈ R, noObj d = true) (hW : ∀ d ∈ W, noObj d = true) {s7 s8 s9 s12 s13 : Sl} :
    Wp (c_law_20 (LW sc p m S (.fz (.lst R)) s7 s8 s9 (.ow (.lst W)) .no s12 s13)) Q := by
  unfold c_law_20
  refine Wp_seq ?_
  obtain ⟨p1, k, q1, q2, q3, q4⟩ := draw_ok hp (m := 5) (by omega) (by omega)
  obtain ⟨x, hx, ex⟩ := pick_at (ps := oddL) q2 (by simpa [oddL] using q3)
  obtain ⟨o1, o2⟩ := odd_ok hx
  obtain ⟨p2, j, r1, r2, r3, r4⟩ := draw_ok q1 (m := (S : Int)) (by omega) (by omega)
  obtain ⟨j, rfl⟩ := Int.eq_ofNat_of_zero_le r2
  have hj : j < W.length := by omega
  have e1 := setIx_nat W j x.1
  rw [if_pos hj] at e1
  have fin := part21 (m := m) (sc := sc) (S := S) (Q := Q) hQ r1 (R := R) (W := W.set j x.1) (by omega) (by omega) hR (fun d hd => by
    rcases List.mem_or_eq_of_mem_set hd with q | q
    · exact hW d q
    · rw [q]; exact o1) (by rw [List.length_set]; omega) (by
    rw [List.all_eq_false]
    exact ⟨x.1, List.mem_set hj x.1, by rw [o2]; exact Bool.false_ne_true⟩) (s7 := s7) (s8 := s8) (s9 := s9) (s12 := s12) (s13 := s13)
  unfold oddL at ex
  obtain ⟨d, o⟩ := x
  unfold LW at fin ⊢
  simp only at e1 fin
  generalize W.set j d = W2 at e1 fin
  generalize kindD m = kd at fin ⊢
  generalize m.d = md at fin ⊢
  generalize naD m = na at fin ⊢
  cases o <;> simp [ownD, reS, q4, r4, ex, e1] <;> exact fin
theorem part19 (hQ : ∀ g, Q (.ok (.rt (.bl true) false) g)) {p : D} (hp : IsPool p) {R W : List D} (h1 : 1 ≤ S) (h3 : S ≤ 3) (hRl : R.length = S) (hWl : W.length = S) (hR : ∀ d ∈ R, noObj d = true) (hW : ∀ d ∈ W, noObj d = true) {i : Nat} (e : F__law_asked [kindD m, .int 1, .lst W] = some (.v (.lst [.str sContract, .int i]) true)) {s8 s9 s12 s13 : Sl} :
    Wp (c_law_19 (LW sc p m S (.fz (.lst R)) (.fz (.int i)) s8 s9 (.ow (.lst W)) .no s12 s13)) Q := by
  unfold c_law_19
  refine Wp_seq ?_
  have e2 : neD (.lst [.str sContract, .int i]) (.lst [.str sContract, .int i]) = some (.bl false) := by
    unfold neD
    rw [eqB_told (by decide +kernel) (.inr ⟨_, rfl⟩)]
    rfl
  have fin := part20 (m := m) (sc := sc) (S := S) (Q := Q) hQ hp h1 h3 hRl hWl hR hW (s7 := .fz (.int i)) (s8 := s8) (s9 := s9) (s12 := s12) (s13 := s13)
  have nk : noDic (kindD m) = true := rfl
  have n1 : noDic (.int 1) = true := rfl
  have n2 : noDic (.lst W) = true := rfl
  have fl : flatL (.lst [.str sContract, .int i]) = true := rfl
  unfold LW at fin ⊢
  generalize kindD m = kd at e fin nk ⊢
  generalize m.d = md at fin ⊢
  generalize naD m = na at fin ⊢
  simp [pkC, n1, n2, nk, e, fl, e2]
  exact fin
end
end G

set_option Elab.async false
set_option linter.all false
set_option maxRecDepth 100000
set_option maxHeartbeats 4000001
namespace G
open PySem PySem.Spec PyProof.Rows L2 L2.TT
section
variable {m : Mo} {sc : D} {rs : List NRow} {Q : Rs Fl → Prop}
theorem noObj_rows (W : List Rw) : ∀ d ∈ W.map Rw.d, noObj d = true := fun d hd => by
  obtain ⟨z, _, rfl⟩ := List.mem_map.mp hd
  exact rw_noObj z
theorem noObj_nr (rs : List NRow) : ∀ d ∈ rs.map nrD, noObj d = true := fun d hd => by
  obtain ⟨z, _, rfl⟩ := List.mem_map.mp hd
  exact noObj_seq _ _
theorem part18 (hQ : ∀ g, Q (.ok (.rt (.bl true) false) g)) (h : MoOk m) (hn : ∀ p ∈ rs, NOk m p) {p : D} (hp : IsPool p) (h1 : 1 ≤ rs.length) (h3 : rs.length ≤ 3) {W : List Rw} (hWl : W.length = rs.length) {i : Nat} {r : Rw} (hi : W[i]? = some r) (ht : W.take i = (rs.map nrw).take i) (hr : RwOk r) (hb : r.ds.all (okN m) = false) {s8 s9 s12 s13 : Sl} :
    Wp (c_law_18 (LW sc p m rs.length (.fz (.lst (rs.map nrD))) (.fz (.int i)) s8 s9 (.ow (.lst (W.map Rw.d))) .no s12 s13)) Q := by
  unfold c_law_18
  refine Wp_seq ?_
  have hi' : i < W.length := (List.getElem?_eq_some_iff.mp hi).1
  have part := fun (W : List Rw) (hWl : W.length = rs.length) (e : F__law_asked [kindD m, .int 1, .lst (W.map Rw.d)] = some (.v (.lst [.str sContract, .int i]) true)) => part19 (m := m) (sc := sc) (S := rs.length) (Q := Q) hQ hp (R := rs.map nrD) (W := W.map Rw.d) h1 h3 (by simp) (by rw [List.length_map]; exact hWl) (noObj_nr rs) (noObj_rows W) e (s8 := s8) (s9 := s9) (s12 := s12) (s13 := s13)
  by_cases c : i + 1 < rs.length
  · have c' : (i : Int) + 1 < (rs.length : Int) := by omega
    have fin := part (W.set (rs.length - 1) ⟨true, [.non]⟩) (by rw [List.length_set]; exact hWl) (asked_worse h hn (by rw [List.length_set]; exact hWl) h3 (by rw [List.getElem?_set_ne (by omega)]; exact hi) (by rw [List.take_set_of_le (by omega)]; exact ht) hr hb)
    rw [List.map_set] at fin
    have e0 : Rw.d ⟨true, [.non]⟩ = .lst [.non] := rfl
    rw [e0] at fin
    have e1 := setIx_nat (W.map Rw.d) (rs.length - 1) (.lst [.non])
    rw [if_pos (by rw [List.length_map]; omega), show ((rs.length - 1 : Nat) : Int) = (rs.length : Int) - 1 by omega] at e1
    unfold LW at fin ⊢
    generalize (W.map Rw.d).set (rs.length - 1) (.lst [.non]) = W2 at e1 fin
    generalize W.map Rw.d = W1 at e1 ⊢
    generalize kindD m = kd at fin ⊢
    generalize m.d = md at fin ⊢
    generalize naD m = na at fin ⊢
    generalize rs.map nrD = R at fin ⊢
    simp [c', ownD, reS, e1]
    exact fin
  · have c' : ¬ (i : Int) + 1 < (rs.length : Int) := by omega
    have fin := part W hWl (asked_worse h hn hWl h3 hi ht hr hb)
    unfold LW at fin ⊢
    generalize W.map Rw.d = W1 at fin ⊢
    generalize kindD m = kd at fin ⊢
    generalize m.d = md at fin ⊢
    generalize naD m = na at fin ⊢
    generalize rs.map nrD = R at fin ⊢
    simp [c']
    exact fin
theorem part16 (hQ : ∀ g, Q (.ok (.rt (.bl true) false) g)) (h : MoOk m) (hn : ∀ p ∈ rs, NOk m p) {p : D} (hp : IsPool p) (h1 : 1 ≤ rs.length) (h3 : rs.length ≤ 3) {i : Nat} (hi : i < rs.length) {s8 s9 s12 s13 : Sl} :
    Wp (c_law_16 (LW sc p m rs.length (.fz (.lst (rs.map nrD))) (.fz (.int i)) s8 s9 .no .no s12 s13)) Q := by
  unfold c_law_16
  refine Wp_seq ?_
  obtain ⟨p1, k, q1, q2, q3, q4⟩ := draw_ok hp (m := 7) (by omega) (by omega)
  have hns := h.n
  have ln := sNs_len m
  obtain ⟨x0, hx0⟩ : ∃ x, (sNs m)[0]? = some x := ⟨_, List.getElem?_eq_getElem (by omega)⟩
  have en : ixD (naD m) (.int 0) = some (.str x0) := ix_nat (i := 0) (by rw [List.getElem?_map, hx0]; rfl)
  obtain ⟨x, hx, ex⟩ := pick_at (ps := badL x0) q2 (by simpa [badL] using q3)
  obtain ⟨b1, b2⟩ := bad_ok h hx
  have er : L2.atI (rs.map nrD) (i : Int) = some (nrD rs[i]) := (TT.atI_nat _ _).trans (by rw [List.getElem?_map, List.getElem?_eq_getElem hi]; rfl)
  have hnr := hn rs[i] (List.getElem_mem hi)
  have lr := hnr.l
  have el := list_row rs[i]
  have l1 : (rs[i].2.map D.str).length + 1 ≤ 1000000 := by rw [List.length_map]; omega
  have e1 := setIx_nat (rs.map nrD) i (.lst (rs[i].2.map D.str ++ [x.1]))
  rw [if_pos (by rw [List.length_map]; exact hi)] at e1
  have hrw : RwOk ⟨true, rs[i].2.map D.str ++ [x.1]⟩ := ⟨by simp; omega, fun d hd => by
    rcases List.mem_append.mp hd with z | z
    · obtain ⟨y, _, rfl⟩ := List.mem_map.mp z
      rfl
    · simp at z; subst z; exact b1⟩
  have hb : (rs[i].2.map D.str ++ [x.1]).all (okN m) = false := by
    rw [List.all_append]
    simp [b2]
  have fin := part18 (sc := sc) (Q := Q) hQ h hn q1 h1 h3 (W := (rs.map nrw).set i ⟨true, rs[i].2.map D.str ++ [x.1]⟩) (by simp) (i := i) (r := ⟨true, rs[i].2.map D.str ++ [x.1]⟩) (by rw [List.getElem?_set_self (by rw [List.length_map]; exact hi)]) (by rw [List.take_set_of_le (Nat.le_refl _)]) hrw hb (s8 := s8) (s9 := s9) (s12 := s12) (s13 := s13)
  rw [List.map_set, show (rs.map nrw).map Rw.d = rs.map nrD by rw [List.map_map]; rfl, show Rw.d ⟨true, rs[i].2.map D.str ++ [x.1]⟩ = .lst (rs[i].2.map D.str ++ [x.1]) from rfl] at fin
  unfold badL at ex
  obtain ⟨d, o⟩ := x
  simp only at e1 fin
  unfold LW at fin ⊢
  obtain ⟨nr, enr⟩ : ∃ z, nrD rs[i] = z := ⟨_, rfl⟩
  rw [enr] at er el
  obtain ⟨xs, exs⟩ : ∃ z, rs[i].2.map D.str = z := ⟨_, rfl⟩
  rw [exs] at el l1 e1 fin
  generalize (rs.map nrD).set i (.lst (xs ++ [d])) = W2 at e1 fin
  generalize kindD m = kd at fin ⊢
  generalize m.d = md at fin ⊢
  generalize naD m = na at en fin ⊢
  generalize rs.map nrD = R at er e1 fin ⊢
  have ell : listD (.lst R) = some (.lst R) := rfl
  simp [ell]
  unfold c_law_17
  refine Wp_seq ?_
  cases o <;> simp [ownD, reS, er, el, en, q4, ex, l1, e1] <;> exact fin
end
end G

set_option Elab.async false
set_option linter.all false
set_option maxRecDepth 100000
set_option maxHeartbeats 4000001
namespace G
open PySem PySem.Spec PyProof.Rows L2 L2.TT
section
variable {m : Mo} {sc : D} {rs : List NRow} {Q : Rs Fl → Prop}
theorem part13 (hQ : ∀ g, Q (.ok (.rt (.bl true) false) g)) (h : MoOk m) (hn : ∀ p ∈ rs, NOk m p) {p : D} (hp : IsPool p) (h1 : 1 ≤ rs.length) (h3 : rs.length ≤ 3) {s7 s8 s12 s13 : Sl} (h7 : stOk s7 = true) :
    Wp (c_law_13 (LW sc p m rs.length (.fz (.lst (rs.map nrD))) s7 s8 .no .no .no s12 s13)) Q := by
  unfold c_law_13
  refine Wp_seq ?_
  obtain ⟨p1, k, q1, q2, q3, q4⟩ := draw_ok hp (m := 8) (by omega) (by omega)
  obtain ⟨x, hx, ex⟩ := pick_at (ps := sidL) q2 (by simpa [sidL] using q3)
  obtain ⟨b1, b2⟩ := sid_ok hx
  have e1 := asked_sides (free_no (m := m) b1 b2)
  have e2 : neD (.lst [.str sSides, .non]) (.lst [.str sSides, .non]) = some (.bl false) := by
    unfold neD
    rw [eqB_told (by decide +kernel) (.inl rfl)]
    rfl
  have e3 : negI (.int 1) = some (.int (-1)) := rfl
  have fin : ∀ s9, Wp (c_law_15 (LW sc p1 m rs.length (.fz (.lst (rs.map nrD))) s7 s8 s9 .no .no s12 s13)) Q := fun s9 => by
    unfold c_law_15
    refine Wp_seq ?_
    obtain ⟨p2, j, r1, r2, r3, r4⟩ := draw_ok q1 (m := (rs.length : Int)) (by omega) (by omega)
    obtain ⟨j, rfl⟩ := Int.eq_ofNat_of_zero_le r2
    have fin := part16 (sc := sc) hQ h hn r1 h1 h3 (i := j) (by omega) (s8 := s8) (s9 := s9) (s12 := s12) (s13 := s13)
    unfold LW at fin ⊢
    generalize kindD m = kd at fin ⊢
    generalize m.d = md at fin ⊢
    generalize naD m = na at fin ⊢
    generalize rs.map nrD = R at fin ⊢
    simp [ownD, reS, r4, h7]
    exact fin
  unfold sidL at ex
  obtain ⟨d, o⟩ := x
  unfold LW at fin ⊢
  simp only at e1
  generalize kindD m = kd at e1 fin ⊢
  generalize m.d = md at fin ⊢
  generalize naD m = na at fin ⊢
  generalize rs.map nrD = R at fin ⊢
  obtain ⟨tl, etl⟩ : ∃ z : D, (.lst [.str sSides, .non]) = z := ⟨_, rfl⟩
  rw [etl] at e1 e2
  cases o <;> simp [ownD, reS, q4, ex, e3] <;> unfold c_law_14 <;> refine Wp_seq ?_ <;> simp [ownD, reS, e1, etl, e2] <;> exact fin _
theorem part11 (hQ : ∀ g, Q (.ok (.rt (.bl true) false) g)) (h : MoOk m) (hn : ∀ p ∈ rs, NOk m p) {p : D} (hp : IsPool p) (h1 : 1 ≤ rs.length) (h3 : rs.length ≤ 3) {s7 s12 s13 : Sl} (h7 : stOk s7 = true) :
    Wp (c_law_10 (LW sc p m rs.length (.ow (.lst (rs.map nrD))) s7 .no .no .no .no s12 s13)) Q := by
  have fin := part13 (sc := sc) (s8 := .fz (.lst (rs.map nrD))) hQ h hn hp h1 h3 h7 (s12 := s12) (s13 := s13)
  have e1 := copy_rows h hn h3
  have e2 := made_only h h1 h3 hn (c := true)
  have e3 := made_only h h1 h3 hn (c := false)
  have e4 := due_ok h hn h3
  have e5 := made_right h h1 h3 hn
  have e6 := same_rows h hn h3
  have e7 : tupD (.lst (rs.map nrD)) = some (seqD false (rs.map nrD)) := rfl
  rw [show seqD true (rs.map nrD) = .lst (rs.map nrD) from rfl] at e2
  obtain ⟨tu, etu⟩ : ∃ z, seqD false (rs.map nrD) = z := ⟨_, rfl⟩
  rw [etu] at e3 e7
  unfold LW at fin ⊢
  generalize kindD m = kd at e2 e3 e5 fin ⊢
  generalize m.d = md at e4 fin ⊢
  generalize naD m = na at fin ⊢
  generalize rs.map nrD = R at e1 e2 e4 e6 e7 fin ⊢
  generalize conD m (rs.map (nRu m)) = cd at e2 e3 e5
  generalize rusD (rs.map (nRu m)) = rd at e4 e5
  obtain ⟨tl, etl⟩ : ∃ z : D, (.lst [.str sMade, cd]) = z := ⟨_, rfl⟩
  rw [etl] at e2 e3 e5
  unfold c_law_10
  refine Wp_seq ?_
  simp [e1]
  unfold c_law_11
  refine Wp_seq ?_
  simp [ownD, reS, e2, e4, e5, e6]
  unfold c_law_12
  refine Wp_seq ?_
  simp [ownD, reS, e7, e3, e4, e5]
  exact fin
theorem keyD_keys (ns : List Str) : (keysOf ns).map keyD = ns.map .str := by
  unfold keysOf
  rw [List.map_map]
  rfl
end
theorem math (ns : List Int) (hl : ns.length ≤ 63) : F_law [.kl (ns.map .int)] = some (.v (.bl true) false) := by
  have w := fnM_run (N := 14) (n := 1) (m := m_law) (ds := [.kl (ns.map .int)]) (P := fun o => o = .v (.bl true) false) ?_
  · obtain ⟨o, rfl, e⟩ := w
    exact e
  intro Q hQ
  rw [e_law]
  obtain ⟨p, hp, e0⟩ := pool_ok ns
  unfold c_law_0
  refine Wp_seq ?_
  generalize D.kl (ns.map .int) = sc at e0
  simp [e0]
  unfold c_law_1
  refine Wp_seq ?_
  obtain ⟨p1, m, q1, h, q3⟩ := model_ok hp
  have ek := law_kind_ok h
  have hn := h.n
  obtain ⟨p2, s, r1, r2, r3, r4⟩ := draw_ok q1 (m := 3) (by omega) (by omega)
  obtain ⟨s, rfl⟩ := Int.eq_ofNat_of_zero_le r2
  have e2 : ixD m.d (.int 2) = some m.t := by rfl
  have e3 : listD m.t = some (.lst (m.ns.map .str)) := by
    unfold Mo.t
    rw [listD_d, keyD_keys]
  have e4 : sortL (.lst (m.ns.map .str)) = some (naD m) := sortL_strs (by omega)
  have ei : (1 : Int) + (s : Int) = ((1 + s : Nat) : Int) := by omega
  have rsO : ∀ z ∈ List.replicate (1 + s) ((true, sNs m) : NRow), NOk m z := fun z hz => by
    rw [List.eq_of_mem_replicate hz]; exact nOk_free h
  have e5 := asked_free (free_ok h (n := 1 + s) (by omega) (by omega))
  have e6 := due_ok h rsO (by rw [List.length_replicate]; omega)
  have e7 := made_right h (by rw [List.length_replicate]; omega) (by rw [List.length_replicate]; omega) rsO
  have e8 := names_comp (sc := .fz sc) (pl := .ow p2) (md := .fz m.d) (kd := .fz (kindD m)) (s5 := .fz (.int (1 + s : Nat))) (s6 := .no) (s8 := .no) (s9 := .no) (s10 := .no) (s11 := .no) (s12 := .no) (s13 := .no) (L := naD m) s (by omega)
  have e9 : D.lst (List.replicate (1 + s) (naD m)) = .lst ((List.replicate (1 + s) ((true, sNs m) : NRow)).map nrD) := by
    rw [List.map_replicate]; rfl
  have hr : okR ((1 + s : Nat) : Int) = true := okR_nat (by omega)
  obtain ⟨p', rs, t7, t12, a1, a2, a3, a4, a5, a6⟩ := rows_ok h (sc := sc) (S := 1 + s) (rngD 0 (1 + s : Nat)) p2 [] .no .no r1 (by simp) (by simp [rngD]; omega) rfl rfl
  have lrs : rs.length = 1 + s := by rw [a3]; simp [rngD]
  have fin := part11 (sc := sc) (Q := Q) (fun g => hQ _ _ rfl rfl) h a2 a1 (by omega) (by omega) a4 (s12 := t12) (s13 := .no)
  rw [lrs] at fin
  obtain ⟨na, ena⟩ : ∃ z, naD m = z := ⟨_, rfl⟩
  obtain ⟨kd, ekd⟩ : ∃ z, kindD m = z := ⟨_, rfl⟩
  obtain ⟨md, emd⟩ : ∃ z, m.d = z := ⟨_, rfl⟩
  obtain ⟨mt, emt⟩ : ∃ z, m.t = z := ⟨_, rfl⟩
  obtain ⟨nl, enl⟩ : ∃ z, (D.lst (m.ns.map .str)) = z := ⟨_, rfl⟩
  obtain ⟨cd, ecd⟩ : ∃ z, conD m ((List.replicate (1 + s) ((true, sNs m) : NRow)).map (nRu m)) = z := ⟨_, rfl⟩
  obtain ⟨rd, erd⟩ : ∃ z, rusD ((List.replicate (1 + s) ((true, sNs m) : NRow)).map (nRu m)) = z := ⟨_, rfl⟩
  obtain ⟨fl, efl⟩ : ∃ z, (D.lst ((List.replicate (1 + s) ((true, sNs m) : NRow)).map nrD)) = z := ⟨_, rfl⟩
  obtain ⟨tl, etl⟩ : ∃ z : D, (.lst [.str sMade, cd]) = z := ⟨_, rfl⟩
  obtain ⟨nr, enr⟩ : ∃ z, List.replicate (1 + s) (naD m) = z := ⟨_, rfl⟩
  obtain ⟨N, eN⟩ : ∃ z : Int, ((1 + s : Nat) : Int) = z := ⟨_, rfl⟩
  obtain ⟨rg, erg⟩ : ∃ z, rngD 0 (1 + s : Nat) = z := ⟨_, rfl⟩
  unfold LW at fin a6
  rw [efl] at e6 e9
  rw [ecd] at e5 e7
  rw [erd] at e6 e7
  rw [etl] at e5 e7
  rw [ekd] at ek e5 e7 e8 fin a6
  rw [emd] at q3 ek e2 e6 e8 fin a6
  rw [emt] at e2 e3
  rw [enl] at e3 e4
  rw [enr] at e8 e9
  rw [ena] at e4 e8 fin a6
  rw [eN] at ei e5 e8 fin a6 hr
  rw [erg] at e8 a6
  have erN : rngD 0 N.toNat = rg := by rw [← eN, Int.toNat_natCast]; exact erg
  rw [List.map_nil] at a6
  simp [ownD, reS, q3]
  unfold c_law_2
  refine Wp_seq ?_
  simp [ek]
  unfold c_law_3
  refine Wp_seq ?_
  simp [e2, e3, e4]
  unfold c_law_4
  refine Wp_seq ?_
  simp [ownD, reS, r4, ei]
  unfold c_law_5
  refine Wp_seq ?_
  simp [e5, hr, erN, e8, e9, e6, e7]
  unfold c_law_6
  refine Wp_seq ?_
  simp [ownD, reS]
  unfold c_law_7
  refine Wp_seq ?_
  simp [hr, erN, a6]
  exact fin
end G


theorem PySem.Challenge.cw_towerup_k27_free_and_only_holds : PySem.Challenge.rw_towerup_k27_free_and_only.Holds := by
  exact holds_of fun ns hn => G.math ns hn
