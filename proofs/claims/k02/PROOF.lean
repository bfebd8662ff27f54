import PyProof.Rows.All
import Wide.All
import OpenK.AllK
import Wide.FinOn
import HandS.ForMost
import HandS.Exc
import HandS.ExcOwn
import HandS.ExcInit
import HandS.TupAny
import HandS.TupMul
import HandS.Wide
import HandS.IsInst
import HandS.Gcd
import HandS.Conv
import HandS.Flow
import HandS.Style
import HandS.WordsExc
import HandS.TryOnly
import HandS.EndBits
import PySem.Challenge.RW_timesfloor_k02_what_any_value_is
section
set_option Elab.async false
set_option linter.all false
set_option maxRecDepth 100000
set_option maxHeartbeats 1000000
/-! the data layer: values as plain data, a store of things that change -/
namespace DL
open PySem PySem.Spec PyProof.Rows L2

inductive D where
  | non | bl (b : Bool) | int (i : Int) | str (x : Str) | ty (n : String) | obj (a : Addr)
  | lst (ds : List D) | fz (ds : List D) | tup (ds : List D) | ft (ds : List D) | dic (ks : List Key) (ds : List D) | ins (C : Addr) (fn : List Str) (ds : List D)
  | ptr (n : Nat)

/-- what stands in the store: a thing that may change, or one that is fixed from now on -/
inductive MO where
  | lst (ds : List D)
  | frz (d : D)

abbrev Sto := List MO
abbrev Env := List (Option D)

mutual
def Rep (K : PySem.W.Frag) (G : Hp) (ps : List Addr) : D → V → Prop
  | .non, v => v = .non
  | .bl b, v => v = .bl b
  | .int i, v => v = .int i
  | .str x, v => v = .str x
  | .ty n, v => v = .ty n
  | .obj a, v => v = .ref a
  | .lst ds, v => ∃ a xs, v = .ref a ∧ G a = some (.lst xs) ∧ Reps K G ps ds xs
  | .fz ds, v => ∃ a xs, v = .ref a ∧ SqL K G a xs ∧ Reps K G ps ds xs
  | .tup ds, v => ∃ a xs, v = .ref a ∧ G a = some (.tup xs) ∧ Reps K G ps ds xs
  | .ft ds, v => ∃ a xs, v = .ref a ∧ SqT K G a xs ∧ Reps K G ps ds xs
  | .dic ks ds, v => ∃ a kvs, v = .ref a ∧ G a = some (.dK kvs) ∧ kvs.map (·.1) = ks ∧ Reps K G ps ds (kvs.map (·.2))
  | .ins C fn ds, v => ∃ a dx kvs, v = .ref a ∧ G a = some (.ins C dx kvs) ∧ G dx = some (.own a) ∧ kvs.map (·.1) = fn ∧ Reps K G ps ds (kvs.map (·.2))
  | .ptr n, v => ∃ a, v = .ref a ∧ ps[n]? = some a
def Reps (K : PySem.W.Frag) (G : Hp) (ps : List Addr) : List D → List V → Prop
  | [], xs => xs = []
  | d :: ds, xs => ∃ x r, xs = x :: r ∧ Rep K G ps d x ∧ Reps K G ps ds r
end

/-- the fixed heap and the pointers grow -/
structure Ext (G : Hp) (ps : List Addr) (G' : Hp) (ps' : List Addr) : Prop where
  sub : ∀ a o, G a = some o → G' a = some o
  pre : ∃ more, ps' = ps ++ more
theorem Ext.refl {G : Hp} {ps : List Addr} : Ext G ps G ps := ⟨fun _ _ h => h, [], by simp⟩
theorem Ext.trans {G G1 G2 : Hp} {p p1 p2 : List Addr} (x : Ext G p G1 p1) (y : Ext G1 p1 G2 p2) : Ext G p G2 p2 :=
  ⟨fun a o h => y.sub a o (x.sub a o h), let ⟨m, e⟩ := x.pre; let ⟨m', e'⟩ := y.pre; ⟨m ++ m', by rw [e', e, List.append_assoc]⟩⟩
theorem Ext.ptr {G G' : Hp} {p p' : List Addr} (x : Ext G p G' p') {n : Nat} {a : Addr} (h : p[n]? = some a) : p'[n]? = some a := by
  obtain ⟨m, e⟩ := x.pre
  rw [e, List.getElem?_append_left (List.getElem?_eq_some_iff.mp h).1]
  exact h
theorem Ext.seqL {K : PySem.W.Frag} {G G' : Hp} {p p' : List Addr} (x : Ext G p G' p') {a : Addr} {xs : List V} (h : SqL K G a xs) : SqL K G' a xs := by
  rcases h with (h | ⟨o, h⟩) | h
  · exact .inl (.inl (x.sub _ _ h))
  · exact .inl (.inr ⟨o, x.sub _ _ h⟩)
  · exact .inr h
theorem Ext.seqT {K : PySem.W.Frag} {G G' : Hp} {p p' : List Addr} (x : Ext G p G' p') {a : Addr} {xs : List V} (h : SqT K G a xs) : SqT K G' a xs := by
  rcases h with (h | ⟨o, h⟩) | h
  · exact .inl (.inl (x.sub _ _ h))
  · exact .inl (.inr ⟨o, x.sub _ _ h⟩)
  · exact .inr h
section
variable {K : PySem.W.Frag} {G G' : Hp} {p p' : List Addr}
mutual
theorem Rep.mono (x : Ext G p G' p') : ∀ {d : D} {v : V}, Rep K G p d v → Rep K G' p' d v
  | .non, _, h => by unfold Rep at h ⊢; exact h
  | .bl _, _, h => by unfold Rep at h ⊢; exact h
  | .int _, _, h => by unfold Rep at h ⊢; exact h
  | .str _, _, h => by unfold Rep at h ⊢; exact h
  | .ty _, _, h => by unfold Rep at h ⊢; exact h
  | .obj _, _, h => by unfold Rep at h ⊢; exact h
  | .lst ds, _, h => by unfold Rep at h ⊢; obtain ⟨a, xs, e, s, r⟩ := h; exact ⟨a, xs, e, x.sub _ _ s, Reps.mono x r⟩
  | .fz ds, _, h => by unfold Rep at h ⊢; obtain ⟨a, xs, e, s, r⟩ := h; exact ⟨a, xs, e, x.seqL s, Reps.mono x r⟩
  | .tup ds, _, h => by unfold Rep at h ⊢; obtain ⟨a, xs, e, s, r⟩ := h; exact ⟨a, xs, e, x.sub _ _ s, Reps.mono x r⟩
  | .ft ds, _, h => by unfold Rep at h ⊢; obtain ⟨a, xs, e, s, r⟩ := h; exact ⟨a, xs, e, x.seqT s, Reps.mono x r⟩
  | .dic ks ds, _, h => by unfold Rep at h ⊢; obtain ⟨a, kvs, e, s, k, r⟩ := h; exact ⟨a, kvs, e, x.sub _ _ s, k, Reps.mono x r⟩
  | .ins C fn ds, _, h => by unfold Rep at h ⊢; obtain ⟨a, dx, kvs, e, s, o, k, r⟩ := h; exact ⟨a, dx, kvs, e, x.sub _ _ s, x.sub _ _ o, k, Reps.mono x r⟩
  | .ptr n, _, h => by unfold Rep at h ⊢; obtain ⟨a, e, s⟩ := h; exact ⟨a, e, x.ptr s⟩
theorem Reps.mono (x : Ext G p G' p') : ∀ {ds : List D} {vs : List V}, Reps K G p ds vs → Reps K G' p' ds vs
  | [], _, h => by unfold Reps at h ⊢; exact h
  | d :: ds, _, h => by unfold Reps at h ⊢; obtain ⟨y, r, e, a, b⟩ := h; exact ⟨y, r, e, Rep.mono x a, Reps.mono x b⟩
end
theorem Reps.nil : Reps K G p [] [] := by unfold Reps; rfl
theorem Reps.cons {d : D} {ds : List D} {v : V} {vs : List V} (a : Rep K G p d v) (b : Reps K G p ds vs) : Reps K G p (d :: ds) (v :: vs) := by
  unfold Reps; exact ⟨v, vs, rfl, a, b⟩
theorem Reps.len : ∀ {ds : List D} {vs : List V}, Reps K G p ds vs → ds.length = vs.length
  | [], _, h => by unfold Reps at h; subst h; rfl
  | d :: ds, _, h => by unfold Reps at h; obtain ⟨y, r, e, _, b⟩ := h; subst e; rw [List.length_cons, List.length_cons, Reps.len b]
theorem Reps.get : ∀ {ds : List D} {vs : List V} {i : Nat} {d : D}, Reps K G p ds vs → ds[i]? = some d → ∃ v, vs[i]? = some v ∧ Rep K G p d v
  | [], _, _, _, _, e => by simp at e
  | d :: ds, _, 0, _, h, e => by
    unfold Reps at h; obtain ⟨y, r, e', a, _⟩ := h; subst e'
    simp only [List.getElem?_cons_zero, Option.some.injEq] at e; subst e
    exact ⟨y, rfl, a⟩
  | d :: ds, _, i + 1, _, h, e => by
    unfold Reps at h; obtain ⟨y, r, e', _, b⟩ := h; subst e'
    exact Reps.get (i := i) b (by simpa using e)
theorem Reps.append : ∀ {ds es : List D} {vs us : List V}, Reps K G p ds vs → Reps K G p es us → Reps K G p (ds ++ es) (vs ++ us)
  | [], _, _, _, h, h' => by unfold Reps at h; subst h; exact h'
  | d :: ds, _, _, _, h, h' => by
    unfold Reps at h; obtain ⟨y, r, e, a, b⟩ := h; subst e
    exact Reps.cons a (Reps.append b h')
theorem Reps.take : ∀ {ds : List D} {vs : List V} (n : Nat), Reps K G p ds vs → Reps K G p (ds.take n) (vs.take n)
  | _, _, 0, _ => by rw [List.take_zero, List.take_zero]; exact Reps.nil
  | [], _, n + 1, h => by unfold Reps at h; subst h; rw [List.take_nil, List.take_nil]; exact Reps.nil
  | d :: ds, _, n + 1, h => by
    unfold Reps at h; obtain ⟨y, r, e, a, b⟩ := h; subst e
    exact Reps.cons a (Reps.take n b)
theorem Reps.drop : ∀ {ds : List D} {vs : List V} (n : Nat), Reps K G p ds vs → Reps K G p (ds.drop n) (vs.drop n)
  | _, _, 0, h => h
  | [], _, n + 1, h => by unfold Reps at h; subst h; rw [List.drop_nil, List.drop_nil]; exact Reps.nil
  | d :: ds, _, n + 1, h => by
    unfold Reps at h; obtain ⟨y, r, e, a, b⟩ := h; subst e
    exact Reps.drop n b
theorem Reps.set : ∀ {ds : List D} {vs : List V} (n : Nat) {d : D} {v : V}, Reps K G p ds vs → Rep K G p d v → Reps K G p (ds.set n d) (vs.set n v)
  | [], _, _, _, _, h, _ => by unfold Reps at h; subst h; exact Reps.nil
  | d :: ds, _, 0, _, _, h, h' => by
    unfold Reps at h; obtain ⟨y, r, e, a, b⟩ := h; subst e
    exact Reps.cons h' b
  | d :: ds, _, n + 1, _, _, h, h' => by
    unfold Reps at h; obtain ⟨y, r, e, a, b⟩ := h; subst e
    exact Reps.cons a (Reps.set n b h')
theorem Reps.one {d : D} {vs : List V} (h : Reps K G p [d] vs) : ∃ v, vs = [v] ∧ Rep K G p d v := by
  unfold Reps at h; obtain ⟨y, r, e, a, b⟩ := h; unfold Reps at b; subst b; exact ⟨y, e, a⟩
theorem Reps.two {d e : D} {vs : List V} (h : Reps K G p [d, e] vs) : ∃ v u, vs = [v, u] ∧ Rep K G p d v ∧ Rep K G p e u := by
  unfold Reps at h; obtain ⟨y, r, q, a, b⟩ := h; obtain ⟨u, q', c⟩ := Reps.one b; subst q'; exact ⟨y, u, q, a, c⟩
theorem Reps.uncons {d : D} {ds : List D} {vs : List V} (h : Reps K G p (d :: ds) vs) : ∃ v r, vs = v :: r ∧ Rep K G p d v ∧ Reps K G p ds r := by
  unfold Reps at h; exact h
theorem Reps.ints : ∀ (ns : List Int), Reps K G p (ns.map D.int) (ns.map V.int)
  | [] => Reps.nil
  | n :: ns => Reps.cons (by unfold Rep; rfl) (Reps.ints ns)
end

/-! ### the store and the slots -/
def MOk (K : PySem.W.Frag) (G : Hp) (ps : List Addr) (H : Hp) (n : Nat) : MO → Prop
  | .lst ds => ∃ a xs, ps[n]? = some a ∧ G a = none ∧ H a = some (.lst xs) ∧ Reps K G ps ds xs
  | .frz d => ∃ a, ps[n]? = some a ∧ Rep K G ps d (.ref a)
/-- the store stands in the heap -/
structure Sto0 (K : PySem.W.Frag) (G : Hp) (ps : List Addr) (M : Sto) (H : Hp) : Prop where
  sub : ∀ a o, G a = some o → H a = some o
  mem : ∀ n mo, M[n]? = some mo → MOk K G ps H n mo
  nd : ps.Nodup
  len : ps.length = M.length
  old : ∀ (n : Nat) a, ps[n]? = some a → H a ≠ none
def Slots (K : PySem.W.Frag) (G : Hp) (ps : List Addr) (ρ : Env) (σ : L2.St) : Prop :=
  ∀ (i : Nat) d, ρ[i]? = some (some d) → ∃ v, σ[i]? = some (some v) ∧ Rep K G ps d v
structure Sta (K : PySem.W.Frag) (G : Hp) (ps : List Addr) (M : Sto) (ρ : Env) (σ : L2.St) (H : Hp) : Prop where
  sto : Sto0 K G ps M H
  env : Slots K G ps ρ σ
theorem Slots.mono {K : PySem.W.Frag} {G G' : Hp} {p p' : List Addr} {ρ : Env} {σ : L2.St} (x : Ext G p G' p') (h : Slots K G p ρ σ) : Slots K G' p' ρ σ :=
  fun i d e => let ⟨v, a, b⟩ := h i d e; ⟨v, a, b.mono x⟩

/-! ### outcomes -/
inductive Res (α : Type) where
  | ok (a : α) (M : Sto)
  | err (C : Addr) (fn : List Str) (ds : List D) (M : Sto)
  | bad
abbrev C (α : Type) := Sto → Res α
@[inline] def C.pure {α : Type} (a : α) : C α := fun M => .ok a M
@[inline] def Res.bind {α β : Type} : Res α → (α → C β) → Res β
  | .ok a M, f => f a M
  | .err c n d M, _ => .err c n d M
  | .bad, _ => .bad
@[inline] def C.bind {α β : Type} (x : C α) (f : α → C β) : C β := fun M => (x M).bind f
@[inline] def C.bad {α : Type} : C α := fun _ => .bad
/-- o or nothing -/
@[inline] def C.of {α : Type} : Option α → C α
  | some a => C.pure a
  | none => C.bad

/-- an exception at dd: its own dict -/
def ErrAt (K : PySem.W.Frag) (G : Hp) (ps : List Addr) (H : Hp) (dd : Addr) (fn : List Str) (ds : List D) : Prop :=
  ∃ kvs, H dd = some (.xd kvs) ∧ kvs.map (·.1) = fn ∧ Reps K G ps ds (kvs.map (·.2))

/-- a step: the fixed heap and the pointers grow; what is neither stays as it is -/
structure Stp (G : Hp) (ps : List Addr) (H G' : Hp) (ps' : List Addr) (H' : Hp) : Prop where
  ext : Ext G ps G' ps'
  keep : ∀ a o, H a = some o → a ∉ ps → H' a = some o
  fresh : ∀ a ∈ ps', a ∈ ps ∨ H a = none
  newG : ∀ a o, G' a = some o → G a = some o ∨ H a = none ∨ a ∈ ps
theorem Stp.refl {G : Hp} {ps : List Addr} {H : Hp} : Stp G ps H G ps H := ⟨Ext.refl, fun _ _ h _ => h, fun _ h => .inl h, fun _ _ h => .inl h⟩
theorem Stp.trans {G G1 G2 H H1 H2 : Hp} {p p1 p2 : List Addr} (x : Stp G p H G1 p1 H1) (y : Stp G1 p1 H1 G2 p2 H2) : Stp G p H G2 p2 H2 where
  ext := x.ext.trans y.ext
  keep := fun a o h n => y.keep a o (x.keep a o h n) fun z => (x.fresh a z).elim n fun q => by rw [q] at h; cases h
  fresh := fun a h => by
    rcases y.fresh a h with z | z
    · exact x.fresh a z
    · cases q : H a with
      | none => exact .inr rfl
      | some o =>
        by_cases m : a ∈ p
        · exact .inl m
        · rw [x.keep a o q m] at z; cases z
  newG := fun a o h => by
    rcases y.newG a o h with z | z | z
    · exact x.newG a o z
    · cases q : H a with
      | none => exact .inr (.inl rfl)
      | some o' =>
        by_cases m : a ∈ p
        · exact .inr (.inr m)
        · rw [x.keep a o' q m] at z; cases z
    · rcases x.fresh a z with m | m
      · exact .inr (.inr m)
      · exact .inr (.inl m)

/-- what is wanted behind an outcome -/
def Post {α : Type} (K : PySem.W.Frag) (W : WX) (σ : L2.St) (P : α → Hp → List Addr → Sto → Hp → Prop) (G : Hp) (ps : List Addr) (H : Hp) : Res α → Prop
  | .ok a M => ∀ G' ps' H', Stp G ps H G' ps' H' → Sto0 K G' ps' M H' → P a G' ps' M H'
  | .err c fn ds M => ∀ dd G' ps' H', Stp G ps H G' ps' H' → Sto0 K G' ps' M H' → ErrAt K G' ps' H' dd fn ds → W (.ref c) (some dd) σ H'
  | .bad => False
theorem Post.ext {α : Type} {K : PySem.W.Frag} {W : WX} {σ : L2.St} {P : α → Hp → List Addr → Sto → Hp → Prop} {G G' H H' : Hp} {ps ps' : List Addr} (x : Stp G ps H G' ps' H') : ∀ {r : Res α}, Post K W σ P G ps H r → Post K W σ P G' ps' H' r
  | .ok a M, h => fun G1 p1 H1 y z => h G1 p1 H1 (x.trans y) z
  | .err c fn ds M, h => fun dd G1 p1 H1 y z => h dd G1 p1 H1 (x.trans y) z
  | .bad, h => h
abbrev PP (α : Type) := α → Hp → List Addr → Sto → Hp → Prop
/-- a computation that hangs on the slots -/
def TDp {α : Type} (K : PySem.W.Frag) (W : WX) (P : PP α) (f : Env → C α) (σ : L2.St) (H : Hp) : Prop :=
  ∃ ρ G ps M, Sto0 K G ps M H ∧ Slots K G ps ρ σ ∧ Post K W σ P G ps H (f ρ M)
def PD (K : PySem.W.Frag) (Q : VK) : PP D := fun d G ps _ H => ∀ v, Rep K G ps d v → Q v H
def PDs (K : PySem.W.Frag) (Q : List V → Hp → Prop) : PP (List D) := fun ds G ps _ H => ∀ vs, Reps K G ps ds vs → Q vs H
def PB (Q : Bool → Hp → Prop) : PP Bool := fun b _ _ _ H => Q b H
abbrev TD (K : PySem.W.Frag) (W : WX) (f : Env → C D) : TE := fun σ H Q => TDp K W (PD K Q) f σ H
abbrev TDs (K : PySem.W.Frag) (W : WX) (f : Env → C (List D)) : TA := fun σ H Q => TDp K W (PDs K Q) f σ H
abbrev TB (K : PySem.W.Frag) (W : WX) (f : Env → C Bool) : TT := fun σ H Q => TDp K W (PB Q) f σ H
section
variable {α : Type} {K : PySem.W.Frag} {W : WX} {P : PP α} {σ : L2.St} {H : Hp}
def At1 (K : PySem.W.Frag) (W : WX) (P : PP α) (k : Env → D → C α) (σ : L2.St) (v : V) (H : Hp) : Prop :=
  ∃ ρ G ps M x, Sto0 K G ps M H ∧ Slots K G ps ρ σ ∧ Rep K G ps x v ∧ Post K W σ P G ps H (k ρ x M)
def At2 (K : PySem.W.Frag) (W : WX) (P : PP α) (k : Env → D → D → C α) (σ : L2.St) (v u : V) (H : Hp) : Prop :=
  ∃ ρ G ps M x y, Sto0 K G ps M H ∧ Slots K G ps ρ σ ∧ Rep K G ps x v ∧ Rep K G ps y u ∧ Post K W σ P G ps H (k ρ x y M)
def At3 (K : PySem.W.Frag) (W : WX) (P : PP α) (k : Env → D → D → D → C α) (σ : L2.St) (v u t : V) (H : Hp) : Prop :=
  ∃ ρ G ps M x y z, Sto0 K G ps M H ∧ Slots K G ps ρ σ ∧ Rep K G ps x v ∧ Rep K G ps y u ∧ Rep K G ps z t ∧ Post K W σ P G ps H (k ρ x y z M)
def AtL (K : PySem.W.Frag) (W : WX) (P : PP α) (k : Env → List D → C α) (σ : L2.St) (vs : List V) (H : Hp) : Prop :=
  ∃ ρ G ps M xs, Sto0 K G ps M H ∧ Slots K G ps ρ σ ∧ Reps K G ps xs vs ∧ Post K W σ P G ps H (k ρ xs M)
/-- one after another -/
theorem post_bind {β : Type} {R : PP β} {G : Hp} {ps : List Addr} {r : Res β} {k : β → C α} (h : Post K W σ P G ps H (r.bind k))
    (hk : ∀ a M G' ps' H', r = .ok a M → Stp G ps H G' ps' H' → Sto0 K G' ps' M H' → Post K W σ P G' ps' H' (k a M) → R a G' ps' M H') : Post K W σ R G ps H r := by
  cases r with
  | ok a M => exact fun G' ps' H' x s => hk a M G' ps' H' rfl x s (Post.ext x h)
  | err c fn ds M => exact h
  | bad => exact h
theorem seq1 {f : Env → C D} {k : Env → D → C α} (h : TDp K W P (fun ρ => C.bind (f ρ) (k ρ)) σ H) : TD K W f σ H (At1 K W P k σ) := by
  obtain ⟨ρ, G, ps, M, s, e, p⟩ := h
  exact ⟨ρ, G, ps, M, s, e, post_bind (k := k ρ) p fun a M' G' ps' H' _ x s' q v r => ⟨ρ, G', ps', M', a, s', e.mono x.ext, r, q⟩⟩
theorem seqL {f : Env → C (List D)} {k : Env → List D → C α} (h : TDp K W P (fun ρ => C.bind (f ρ) (k ρ)) σ H) : TDs K W f σ H (AtL K W P k σ) := by
  obtain ⟨ρ, G, ps, M, s, e, p⟩ := h
  exact ⟨ρ, G, ps, M, s, e, post_bind (k := k ρ) p fun a M' G' ps' H' _ x s' q v r => ⟨ρ, G', ps', M', a, s', e.mono x.ext, r, q⟩⟩
theorem seqB {f : Env → C Bool} {k : Env → Bool → C α} (h : TDp K W P (fun ρ => C.bind (f ρ) (k ρ)) σ H) : TB K W f σ H (fun b H1 => TDp K W P (fun ρ => k ρ b) σ H1) := by
  obtain ⟨ρ, G, ps, M, s, e, p⟩ := h
  exact ⟨ρ, G, ps, M, s, e, post_bind (k := k ρ) p fun a M' G' ps' H' _ x s' q => ⟨ρ, G', ps', M', s', e.mono x.ext, q⟩⟩
theorem At1.next {g : Env → C D} {k : Env → D → D → C α} {v : V} (h : At1 K W P (fun ρ x => C.bind (g ρ) (k ρ x)) σ v H) : TD K W g σ H (At2 K W P k σ v) := by
  obtain ⟨ρ, G, ps, M, x, s, e, r, p⟩ := h
  exact ⟨ρ, G, ps, M, s, e, post_bind (k := k ρ x) p fun a M' G' ps' H' _ y s' q v' r' => ⟨ρ, G', ps', M', x, a, s', e.mono y.ext, r.mono y.ext, r', q⟩⟩
theorem At1.nextB {g : Env → C Bool} {k : Env → D → Bool → C α} {v : V} (h : At1 K W P (fun ρ x => C.bind (g ρ) (k ρ x)) σ v H) : TB K W g σ H (fun b H1 => At1 K W P (fun ρ x => k ρ x b) σ v H1) := by
  obtain ⟨ρ, G, ps, M, x, s, e, r, p⟩ := h
  exact ⟨ρ, G, ps, M, s, e, post_bind (k := k ρ x) p fun a M' G' ps' H' _ y s' q => ⟨ρ, G', ps', M', x, s', e.mono y.ext, r.mono y.ext, q⟩⟩
theorem At1.nextL {g : Env → C (List D)} {k : Env → D → List D → C α} {v : V} (h : At1 K W P (fun ρ x => C.bind (g ρ) (k ρ x)) σ v H) :
    TDs K W g σ H (fun us H2 => ∃ ρ G ps M x ys, Sto0 K G ps M H2 ∧ Slots K G ps ρ σ ∧ Rep K G ps x v ∧ Reps K G ps ys us ∧ Post K W σ P G ps H2 (k ρ x ys M)) := by
  obtain ⟨ρ, G, ps, M, x, s, e, r, p⟩ := h
  exact ⟨ρ, G, ps, M, s, e, post_bind (k := k ρ x) p fun a M' G' ps' H' _ y s' q v' r' => ⟨ρ, G', ps', M', x, a, s', e.mono y.ext, r.mono y.ext, r', q⟩⟩
theorem At1.go {k : Env → D → C α} {v : V} (h : At1 K W P k σ v H) : ∃ x, TDp K W P (fun ρ => k ρ x) σ H := by
  obtain ⟨ρ, G, ps, M, x, s, e, r, p⟩ := h
  exact ⟨x, ρ, G, ps, M, s, e, p⟩
theorem At2.next {g : Env → C D} {k : Env → D → D → D → C α} {v u : V} (h : At2 K W P (fun ρ x y => C.bind (g ρ) (k ρ x y)) σ v u H) : TD K W g σ H (At3 K W P k σ v u) := by
  obtain ⟨ρ, G, ps, M, x, y, s, e, r, r2, p⟩ := h
  exact ⟨ρ, G, ps, M, s, e, post_bind (k := k ρ x y) p fun a M' G' ps' H' _ z s' q v' r' => ⟨ρ, G', ps', M', x, y, a, s', e.mono z.ext, r.mono z.ext, r2.mono z.ext, r', q⟩⟩
end

/-! ### the judgements -/
abbrev DE (X : Cx) (W : WX) (e : Expr) (f : Env → C D) : Prop := PE X e (TD X.K W f)
abbrev DA (X : Cx) (W : WX) (es : List Expr) (f : Env → C (List D)) : Prop := PA X es (TDs X.K W f)
abbrev DT (X : Cx) (W : WX) (e : Expr) (f : Env → C Bool) : Prop := PT X e (TB X.K W f)
theorem pe_imp {X : Cx} {e : Expr} {t t' : TE} (h : PE X e t) (i : ∀ σ H Q, t' σ H Q → t σ H Q) : PE X e t' := ⟨fun pins s σ H Q I q => h.run pins s σ H Q I (i σ H Q q)⟩
theorem pa_imp {X : Cx} {e : List Expr} {t t' : TA} (h : PA X e t) (i : ∀ σ H Q, t' σ H Q → t σ H Q) : PA X e t' := ⟨fun po pins s σ H Q I q => h.run po pins s σ H Q I (i σ H Q q)⟩
theorem pt_imp {X : Cx} {e : Expr} {t t' : TT} (h : PT X e t) (i : ∀ σ H Q, t' σ H Q → t σ H Q) : PT X e t' := ⟨fun pins s σ H Q I q => h.run pins s σ H Q I (i σ H Q q)⟩
theorem pw_imp {X : Cx} {e : Expr} {t t' : TT} (h : PW X e t) (i : ∀ σ H Q, t' σ H Q → t σ H Q) : PW X e t' := ⟨fun wh pins s σ H Q I q => h.run wh pins s σ H Q I (i σ H Q q)⟩
theorem ps_imp {X : Cx} {e : Stmt} {t t' : TS} (h : PS X e t) (i : ∀ D σ H, t' D σ H → t D σ H) : PS X e t' := ⟨fun pins s σ H D I q => h.run pins s σ H D I (i D σ H q)⟩
theorem pss_imp {X : Cx} {e : List Stmt} {t t' : TS} (h : PSs X e t) (i : ∀ D σ H, t' D σ H → t D σ H) : PSs X e t' := ⟨fun pins s σ H D I q => h.run pins s σ H D I (i D σ H q)⟩

/-! ### names, constants -/
def dVar (i : Nat) : Env → C D := fun ρ => C.of ((ρ[i]?).join)
def dC (d : D) : Env → C D := fun _ => C.pure d
section
variable {X : Cx} {W : WX}
theorem dVar_imp {i : Nat} : ∀ σ H Q, TD X.K W (dVar i) σ H Q → tVar i σ H Q := fun σ H Q h => by
  obtain ⟨ρ, G, ps, M, s, e, p⟩ := h
  unfold dVar at p
  cases q : (ρ[i]?).join with
  | none => rw [q] at p; exact p.elim
  | some d =>
    rw [q] at p
    obtain ⟨v, hv, r⟩ := e i d (by
      cases z : ρ[i]? with
      | none => rw [z] at q; cases q
      | some o => rw [z] at q; exact congrArg some q)
    exact ⟨v, hv, p G ps H Stp.refl s v r⟩
theorem de_var (i : Nat) {x : Str} {pos : Pos} (hN : X.N[i]? = some x := by rfl) (hv : Vis X.env.scope x := by first | exact Or.inl rfl | exact Or.inr (Or.inl rfl) | exact Or.inr (Or.inr rfl)) (hd : (x == ("__debug__" : Str)) = false := by decide)
    (hcd : (x == ("__classdict__" : Str)) = false := by decide) : DE X W (.Name x pos) (dVar i) := pe_imp (pe_var hN hv hd hcd) dVar_imp
theorem dC_imp {d : D} {v : V} (r : ∀ G ps, Rep X.K G ps d v) : ∀ σ H Q, TD X.K W (dC d) σ H Q → tC v σ H Q := fun σ H Q h => by
  obtain ⟨ρ, G, ps, M, s, e, p⟩ := h
  exact p G ps H Stp.refl s v (r G ps)
theorem de_int {i j pos} : DE X W (.Constant (.int i) j pos) (dC (.int i)) := pe_imp pe_int (dC_imp fun _ _ => by unfold Rep; rfl)
theorem de_bl {i j pos} : DE X W (.Constant (.bool i) j pos) (dC (.bl i)) := pe_imp pe_bl (dC_imp fun _ _ => by unfold Rep; rfl)
theorem de_str {i j pos} : DE X W (.Constant (.str i) j pos) (dC (.str i)) := pe_imp pe_str (dC_imp fun _ _ => by unfold Rep; rfl)
theorem de_non {j pos} : DE X W (.Constant .none j pos) (dC .non) := pe_imp pe_non (dC_imp fun _ _ => by unfold Rep; rfl)
/-- a module's constant, a class, a def -/
theorem de_glob {x : Str} {d : D} {v : V} {u : Value} {pos : Pos} (hg : Gl X x) (hm : X.mg x = some u) (q : RelV v u) (r : ∀ G ps, Rep X.K G ps d v) (hd : (x == ("__debug__" : Str)) = false := by decide) : DE X W (.Name x pos) (dC d) :=
  pe_imp (pe_glob hg hm q hd) (dC_imp r)
theorem de_kint {x : Str} {i : Int} {pos : Pos} (hg : Gl X x) (hm : ∃ t, X.mg x = some (.int i t)) (hd : (x == ("__debug__" : Str)) = false := by decide) : DE X W (.Name x pos) (dC (.int i)) := by
  obtain ⟨t, e⟩ := hm
  exact de_glob (v := .int i) hg e ⟨t, rfl⟩ (fun _ _ => by unfold Rep; rfl) hd
theorem de_ty {x : Str} {n : String} {pos : Pos} (hg : Gl X x) (hm : X.mg x = none) (hv : bootBuiltins x = some (.type n)) (hn : x ≠ "__name__" := by decide) (hd : (x == ("__debug__" : Str)) = false := by decide) : DE X W (.Name x pos) (dC (.ty n)) :=
  pe_imp (pe_bltn (v := .ty n) hg hm hv rfl hn hd) (dC_imp fun _ _ => by unfold Rep; rfl)

/-! ### operators -/
def dB (k : D → D → C D) (f g : Env → C D) : Env → C D := fun ρ => C.bind (f ρ) fun x => C.bind (g ρ) fun y => k x y
def dU (k : D → C D) (f : Env → C D) : Env → C D := fun ρ => C.bind (f ρ) k
/-- what an operator's rule asks, from what the data say -/
def OpD (X : Cx) (W : WX) (k : D → D → C D) (r : R2) : Prop := ∀ σ v u H Q, At2 X.K W (PD X.K Q) (fun _ => k) σ v u H → r v u H Q
def UnD (X : Cx) (W : WX) (k : D → C D) (r : V → Hp → VK → Prop) : Prop := ∀ σ v H Q, At1 X.K W (PD X.K Q) (fun _ => k) σ v H → r v H Q
variable {a b : Expr} {f g : Env → C D} {pos : Pos} {k : D → D → C D} {r : R2}
theorem tdp_mono {α : Type} {K : PySem.W.Frag} {W : WX} {P P' : PP α} {f : Env → C α} {σ : L2.St} {H : Hp} (h : TDp K W P f σ H) (i : ∀ a G ps M H', P a G ps M H' → P' a G ps M H') : TDp K W P' f σ H := by
  obtain ⟨ρ, G, ps, M, s, e, p⟩ := h
  refine ⟨ρ, G, ps, M, s, e, ?_⟩
  cases q : f ρ M with
  | ok a M' => rw [q] at p; exact fun G' ps' H' x s' => i _ _ _ _ _ (p G' ps' H' x s')
  | err c fn ds M' => rw [q] at p; exact p
  | bad => rw [q] at p; exact p
theorem td_mono {K : PySem.W.Frag} {W : WX} {Q Q' : VK} {f : Env → C D} {σ : L2.St} {H : Hp} (h : TD K W f σ H Q) (i : ∀ v H', Q v H' → Q' v H') : TD K W f σ H Q' :=
  tdp_mono h fun _ _ _ _ H' q v r => i v H' (q v r)
theorem tOp_of (hk : OpD X W k r) : ∀ σ H Q, TD X.K W (dB k f g) σ H Q → tOp r (TD X.K W f) (TD X.K W g) σ H Q := fun σ H Q h =>
  td_mono (seq1 (k := fun ρ x => C.bind (g ρ) fun y => k x y) h) fun v H1 h2 => td_mono (At1.next (k := fun _ x y => k x y) h2) fun u H2 h3 => hk σ v u H2 Q h3
theorem de_op {op : Operator} (ho : OpR X (binaryOp op) r) (hk : OpD X W k r) (ha : DE X W a f) (hb : DE X W b g) : DE X W (.BinOp a op b pos) (dB k f g) := pe_imp (pe_op ho ha hb) (tOp_of hk)
theorem de_cmp {op : CmpOp} (ho : OpR X (compareOp op) r) (hk : OpD X W k r) (ha : DE X W a f) (hb : DE X W b g) (hm : behindInMarks op b = false := by first | exact nomark _ | rfl) : DE X W (.Compare a [op] [b] pos) (dB k f g) := pe_imp (pe_cmpR ho ha hb hm) (tOp_of hk)
theorem de_un {op : UnaryOp} {k : D → C D} {r : V → Hp → VK → Prop} (ho : UnR X (unaryOp op) r) (hk : UnD X W k r) (ha : DE X W a f) : DE X W (.UnaryOp op a pos) (dU k f) :=
  pe_imp (pe_un ho ha) fun σ H Q h => td_mono (seq1 (k := fun _ x => k x) h) fun v H1 h2 => hk σ v H1 Q h2
end
end DL
end
section
set_option Elab.async false
set_option linter.all false
set_option maxRecDepth 100000
set_option maxHeartbeats 1000000
namespace DL
open PySem PySem.Spec PyProof.Rows L2
/-! ### the store's turns -/
section
variable {K : PySem.W.Frag} {G : Hp} {ps : List Addr} {M : Sto} {H : Hp}
theorem Sto0.gnone (s : Sto0 K G ps M H) {p : Addr} (h : H p = none) : G p = none := by
  cases q : G p with
  | none => rfl
  | some o => have := s.sub p o q; rw [h] at this; cases this
theorem Sto0.pne (s : Sto0 K G ps M H) {p : Addr} (h : H p = none) {n : Nat} {a : Addr} (e : ps[n]? = some a) : a ≠ p := fun z => s.old n a e (z ▸ h)
theorem ext_new {o : HO} {p : Addr} (h : G p = none) : Ext G ps (upd G p o) ps :=
  ⟨fun a u e => by rw [upd_ne (ne_of_none e h)]; exact e, [], by simp⟩
theorem Sto0.stp {o : HO} {p : Addr} (s : Sto0 K G ps M H) (h : H p = none) : Stp G ps H (upd G p o) ps (upd H p o) :=
  ⟨ext_new (s.gnone h), fun a u e _ => by rw [upd_ne (ne_of_none e h)]; exact e, fun _ h => .inl h, fun a u e => by
    by_cases z : a = p
    · subst z; exact .inr (.inl h)
    · rw [upd_ne z] at e; exact .inl e⟩
theorem Sto0.stpP {o : HO} {p : Addr} (s : Sto0 K G ps M H) (h : H p = none) : Stp G ps H G (ps ++ [p]) (upd H p o) :=
  ⟨⟨fun _ _ h => h, [p], rfl⟩, fun a u e _ => by rw [upd_ne (ne_of_none e h)]; exact e, fun a m => (List.mem_append.mp m).elim .inl fun z => .inr (by rw [List.mem_singleton.mp z]; exact h), fun _ _ e => .inl e⟩
theorem Sto0.stpJ {o : HO} {p : Addr} (s : Sto0 K G ps M H) (h : H p = none) : Stp G ps H G ps (upd H p o) :=
  ⟨Ext.refl, fun a u e _ => by rw [upd_ne (ne_of_none e h)]; exact e, fun _ h => .inl h, fun _ _ e => .inl e⟩
theorem Sto0.stpS {o : HO} {n : Nat} {a : Addr} (s : Sto0 K G ps M H) (h : ps[n]? = some a) : Stp G ps H G ps (upd H a o) :=
  ⟨Ext.refl, fun b u e m => by rw [upd_ne fun z => m (by rw [z]; exact List.mem_of_getElem? h)]; exact e, fun _ h => .inl h, fun _ _ e => .inl e⟩
theorem ext_ptr {p : Addr} : Ext G ps G (ps ++ [p]) := ⟨fun _ _ h => h, [p], rfl⟩
theorem MOk.mono {G' : Hp} {ps' : List Addr} {H' : Hp} {n : Nat} {mo : MO} (x : Ext G ps G' ps') (hg : ∀ a, ps[n]? = some a → G a = none → G' a = none) (hh : ∀ a o, ps[n]? = some a → H a = some o → H' a = some o) (m : MOk K G ps H n mo) : MOk K G' ps' H' n mo := by
  cases mo with
  | lst ds => obtain ⟨a, xs, e, g, h, r⟩ := m; exact ⟨a, xs, x.ptr e, hg a e g, hh a _ e h, r.mono x⟩
  | frz d => obtain ⟨a, e, r⟩ := m; exact ⟨a, x.ptr e, r.mono x⟩
/-- a new fixed thing -/
theorem Sto0.new {o : HO} {p : Addr} (s : Sto0 K G ps M H) (h : H p = none) : Sto0 K (upd G p o) ps M (upd H p o) where
  sub := fun a u e => by
    by_cases z : a = p
    · subst z; rw [upd_same] at e ⊢; exact e
    · rw [upd_ne z] at e ⊢; exact s.sub a u e
  mem := fun n mo e => (s.mem n mo e).mono (ext_new (s.gnone h)) (fun a e2 g => by rw [upd_ne (s.pne h e2)]; exact g) (fun a u e2 q => by rw [upd_ne (s.pne h e2)]; exact q)
  nd := s.nd
  len := s.len
  old := fun n a e => by rw [upd_ne (s.pne h e)]; exact s.old n a e
/-- a new thing that nobody asks -/
theorem Sto0.junk {o : HO} {p : Addr} (s : Sto0 K G ps M H) (h : H p = none) : Sto0 K G ps M (upd H p o) where
  sub := fun a u e => by rw [upd_ne (ne_of_none (s.sub a u e) h)]; exact s.sub a u e
  mem := fun n mo e => (s.mem n mo e).mono Ext.refl (fun _ _ g => g) (fun a u e2 q => by rw [upd_ne (s.pne h e2)]; exact q)
  nd := s.nd
  len := s.len
  old := fun n a e => by rw [upd_ne (s.pne h e)]; exact s.old n a e
theorem Sto0.lt (s : Sto0 K G ps M H) {n : Nat} {a : Addr} (e : ps[n]? = some a) : n < M.length := by
  rw [← s.len]; exact (List.getElem?_eq_some_iff.mp e).1
/-- a new list that may change -/
theorem Sto0.newM {p : Addr} {xs : List V} {ds : List D} (s : Sto0 K G ps M H) (h : H p = none) (r : Reps K G ps ds xs) : Sto0 K G (ps ++ [p]) (M ++ [.lst ds]) (upd H p (.lst xs)) where
  sub := fun a u e => by rw [upd_ne (ne_of_none (s.sub a u e) h)]; exact s.sub a u e
  mem := fun n mo e => by
    by_cases z : n < M.length
    · rw [List.getElem?_append_left z] at e
      exact (s.mem n mo e).mono ext_ptr (fun _ _ g => g) (fun a u e2 q => by rw [upd_ne (s.pne h e2)]; exact q)
    · have e' : n = M.length := by
        have := (List.getElem?_eq_some_iff.mp e).1
        rw [List.length_append, List.length_singleton] at this
        omega
      subst e'
      rw [List.getElem?_append_right (Nat.le_refl _), Nat.sub_self] at e
      have e2 : MO.lst ds = mo := by simpa using e
      subst e2
      refine ⟨p, xs, ?_, s.gnone h, upd_same, r.mono ext_ptr⟩
      rw [← s.len, List.getElem?_append_right (Nat.le_refl _), Nat.sub_self]
      rfl
  nd := by
    rw [List.nodup_append]
    refine ⟨s.nd, by simp, fun a ha b hb => ?_⟩
    have hb' : b = p := by simpa using hb
    subst hb'
    obtain ⟨i, hi⟩ := List.getElem?_of_mem ha
    exact s.pne h hi
  len := by rw [List.length_append, List.length_append, s.len]; rfl
  old := fun n a e => by
    by_cases z : a = p
    · subst z; rw [upd_same]; simp
    · rw [upd_ne z]
      have := List.mem_of_getElem? e
      rcases List.mem_append.mp this with q | q
      · obtain ⟨i, hi⟩ := List.getElem?_of_mem q
        exact s.old i a hi
      · exact absurd (by simpa using q) z
theorem nd_ix {n m : Nat} {a : Addr} (nd : ps.Nodup) (e : ps[n]? = some a) (e' : ps[m]? = some a) : n = m := by
  obtain ⟨h1, e1⟩ := List.getElem?_eq_some_iff.mp e
  obtain ⟨h2, e2⟩ := List.getElem?_eq_some_iff.mp e'
  exact (List.getElem_inj nd).mp (e1.trans e2.symm)
/-- a list is changed -/
theorem Sto0.set {n : Nat} {a : Addr} {xs' : List V} {ds ds' : List D} (s : Sto0 K G ps M H) (hm : M[n]? = some (.lst ds)) (hp : ps[n]? = some a) (r : Reps K G ps ds' xs') : Sto0 K G ps (M.set n (.lst ds')) (upd H a (.lst xs')) := by
  obtain ⟨a', xs0, e, g, h, _⟩ := s.mem n _ hm
  have ea : a' = a := Option.some.inj (e.symm.trans hp)
  subst ea
  refine ⟨fun b u q => ?_, fun m mo q => ?_, s.nd, by rw [List.length_set]; exact s.len, fun m b q => ?_⟩
  · have : b ≠ a' := fun z => by rw [z, g] at q; cases q
    rw [upd_ne this]; exact s.sub b u q
  · by_cases z : m = n
    · subst z
      rw [List.getElem?_set_self (List.getElem?_eq_some_iff.mp hm).1] at q
      cases q
      exact ⟨a', xs', e, g, upd_same, r⟩
    · rw [List.getElem?_set_ne (Ne.symm z)] at q
      exact (s.mem m mo q).mono Ext.refl (fun _ _ g => g) (fun b u e2 q2 => by
        have : b ≠ a' := fun w => z (nd_ix s.nd e2 (w ▸ e))
        rw [upd_ne this]; exact q2)
  · by_cases z : b = a'
    · subst z; rw [upd_same]; simp
    · rw [upd_ne z]; exact s.old m b q
/-- a list is fixed from now on -/
theorem Sto0.freeze {n : Nat} {ds : List D} (s : Sto0 K G ps M H) (hm : M[n]? = some (.lst ds)) : ∃ a G', ps[n]? = some a ∧ Stp G ps H G' ps H ∧ Sto0 K G' ps (M.set n (.frz (.lst ds))) H ∧ Rep K G' ps (.lst ds) (.ref a) := by
  obtain ⟨a, xs, e, g, h, r⟩ := s.mem n _ hm
  have x : Ext G ps (upd G a (.lst xs)) ps := ext_new g
  have rr : Rep K (upd G a (.lst xs)) ps (.lst ds) (.ref a) := by unfold Rep; exact ⟨a, xs, rfl, upd_same, r.mono x⟩
  refine ⟨a, upd G a (.lst xs), e, ⟨x, fun _ _ h _ => h, fun _ h => .inl h, fun b u q => by
    by_cases z : b = a
    · subst z; exact .inr (.inr (List.mem_of_getElem? e))
    · rw [upd_ne z] at q; exact .inl q⟩, ⟨fun b u q => ?_, fun m mo q => ?_, s.nd, by rw [List.length_set]; exact s.len, s.old⟩, rr⟩
  · by_cases z : b = a
    · subst z; rw [upd_same] at q; cases q; exact h
    · rw [upd_ne z] at q; exact s.sub b u q
  · by_cases z : m = n
    · subst z
      rw [List.getElem?_set_self (List.getElem?_eq_some_iff.mp hm).1] at q
      cases q
      exact ⟨a, e, rr⟩
    · rw [List.getElem?_set_ne (Ne.symm z)] at q
      exact (s.mem m mo q).mono x (fun b e2 g2 => by
        have : b ≠ a := fun w => z (nd_ix s.nd e2 (w ▸ e))
        rw [upd_ne this]; exact g2) (fun b u e2 q2 => q2)
end

/-! ### what is read off a value -/
def asSeq (M : Sto) : D → Option (List D)
  | .lst ds => some ds
  | .fz ds => some ds
  | .tup ds => some ds
  | .ft ds => some ds
  | .ptr n => match M[n]? with
    | some (.lst ds) => some ds
    | some (.frz (.lst ds)) => some ds
    | _ => none
  | _ => none
def isLst : D → Bool
  | .lst _ => true | .fz _ => true | .ptr _ => true | _ => false
section
variable {K : PySem.W.Frag} {G : Hp} {ps : List Addr} {M : Sto} {H : Hp}
theorem Sto0.seqL (s : Sto0 K G ps M H) {a : Addr} {xs : List V} (h : SqL K G a xs) : SqL K H a xs := by
  rcases h with (h | ⟨o, h⟩) | h
  · exact .inl (.inl (s.sub _ _ h))
  · exact .inl (.inr ⟨o, s.sub _ _ h⟩)
  · exact .inr h
theorem Sto0.seqT (s : Sto0 K G ps M H) {a : Addr} {xs : List V} (h : SqT K G a xs) : SqT K H a xs := by
  rcases h with (h | ⟨o, h⟩) | h
  · exact .inl (.inl (s.sub _ _ h))
  · exact .inl (.inr ⟨o, s.sub _ _ h⟩)
  · exact .inr h
theorem asSeq_tup {d : D} {ds : List D} (s : Sto0 K G ps M H) {v : V} (r : Rep K G ps d v) (e : asSeq M d = some ds) (hl : isLst d = false) : ∃ a xs, v = .ref a ∧ SqT K H a xs ∧ Reps K G ps ds xs := by
  cases d with
  | tup es => cases e; unfold Rep at r; obtain ⟨a, xs, e, q, r⟩ := r; exact ⟨a, xs, e, .inl (.inl (s.sub _ _ q)), r⟩
  | ft es => cases e; unfold Rep at r; obtain ⟨a, xs, e, q, r⟩ := r; exact ⟨a, xs, e, s.seqT q, r⟩
  | lst _ => cases hl
  | fz _ => cases hl
  | ptr _ => cases hl
  | _ => cases e
theorem asSeq_lst {d : D} {ds : List D} (s : Sto0 K G ps M H) {v : V} (r : Rep K G ps d v) (e : asSeq M d = some ds) (hl : isLst d = true) : ∃ a xs, v = .ref a ∧ SqL K H a xs ∧ Reps K G ps ds xs := by
  cases d with
  | lst es => cases e; unfold Rep at r; obtain ⟨a, xs, e, q, r⟩ := r; exact ⟨a, xs, e, .inl (.inl (s.sub _ _ q)), r⟩
  | fz es => cases e; unfold Rep at r; obtain ⟨a, xs, e, q, r⟩ := r; exact ⟨a, xs, e, s.seqL q, r⟩
  | ptr n =>
    unfold Rep at r; obtain ⟨a, e', q⟩ := r
    dsimp only [asSeq] at e
    cases z : M[n]? with
    | none => rw [z] at e; cases e
    | some mo =>
      rw [z] at e
      cases mo with
      | lst es =>
        cases e
        obtain ⟨a', xs, e2, _, h, r⟩ := s.mem n _ z
        have : a' = a := Option.some.inj (e2.symm.trans q)
        subst this
        exact ⟨a', xs, e', .inl (.inl h), r⟩
      | frz d' =>
        cases d' with
        | lst es =>
          cases e
          obtain ⟨a', e2, r⟩ := s.mem n _ z
          have : a' = a := Option.some.inj (e2.symm.trans q)
          subst this
          unfold Rep at r
          obtain ⟨b, xs, e3, g, r⟩ := r
          have : b = a' := (V.ref.inj e3).symm
          subst this
          exact ⟨b, xs, e', .inl (.inl (s.sub _ _ g)), r⟩
        | _ => cases e
  | _ => first | cases hl | cases e
/-- a sequence is read -/
theorem asSeq_rep {d : D} {ds : List D} (s : Sto0 K G ps M H) {v : V} (r : Rep K G ps d v) (e : asSeq M d = some ds) : ∃ a xs, v = .ref a ∧ (SqL K H a xs ∨ SqT K H a xs) ∧ Reps K G ps ds xs := by
  cases h : isLst d with
  | true => obtain ⟨a, xs, e, q, r⟩ := asSeq_lst s r e h; exact ⟨a, xs, e, .inl q, r⟩
  | false => obtain ⟨a, xs, e, q, r⟩ := asSeq_tup s r e h; exact ⟨a, xs, e, .inr q, r⟩
end

/-! ### what a primitive does -/
def primI (g : Int → Int → D) (c : Int → Int → Bool) : D → D → C D
  | .int i, .int j => if c i j then C.pure (g i j) else C.bad
  | _, _ => C.bad
section
variable {X : Cx} {W : WX}
theorem At2.out {α : Type} {K : PySem.W.Frag} {P : PP α} {k : D → D → C α} {σ : L2.St} {v u : V} {H : Hp} (h : At2 K W P (fun _ => k) σ v u H) : ∃ G ps M x y, Sto0 K G ps M H ∧ Rep K G ps x v ∧ Rep K G ps y u ∧ Post K W σ P G ps H (k x y M) := by
  obtain ⟨ρ, G, ps, M, x, y, s, e, r1, r2, p⟩ := h
  exact ⟨G, ps, M, x, y, s, r1, r2, p⟩
theorem At1.out {α : Type} {K : PySem.W.Frag} {P : PP α} {k : D → C α} {σ : L2.St} {v : V} {H : Hp} (h : At1 K W P (fun _ => k) σ v H) : ∃ G ps M x, Sto0 K G ps M H ∧ Rep K G ps x v ∧ Post K W σ P G ps H (k x M) := by
  obtain ⟨ρ, G, ps, M, x, s, e, r1, p⟩ := h
  exact ⟨G, ps, M, x, s, r1, p⟩
/-- ints -/
theorem primI_of {c : Int → Int → Bool} {C' : Int → Int → Prop} {g : Int → Int → D} {g' : Int → Int → V} (hc : ∀ i j, c i j = true → C' i j) (hg : ∀ i j G ps, Rep X.K G ps (g i j) (g' i j)) : OpD X W (primI g c) (rI C' g') := fun σ v u H Q h => by
  obtain ⟨G, ps, M, x, y, s, r1, r2, p⟩ := h.out
  unfold primI at p
  split at p
  · rename_i i j
    unfold Rep at r1 r2
    split at p
    · rename_i hcc
      exact ⟨i, j, r1, r2, hc i j hcc, p G ps H Stp.refl s _ (hg i j G ps)⟩
    · exact p.elim
  · exact p.elim
def dSub := primI (fun i j => .int (i - j)) (fun _ _ => true)
theorem op_subD : OpD X W dSub (rI0 fun i j => .int (i - j)) := fun σ v u H Q h => by
  obtain ⟨i, j, a, b, _, q⟩ := primI_of (X := X) (W := W) (C' := fun _ _ => True) (g' := fun i j => .int (i - j)) (fun _ _ _ => trivial) (fun i j G ps => by unfold Rep; rfl) σ v u H Q h
  exact ⟨i, j, a, b, q⟩
/-- log2 as a bound that is reckoned -/
def small2 (n : Nat) (i : Int) : Bool := decide (i.natAbs.log2 < n)
def dFdiv := primI (fun i j => .int (i / j)) (fun _ j => decide (0 < j) && small2 9000 j)
theorem op_fdivD : OpD X W dFdiv (rI CDivW fun i j => .int (i / j)) := primI_of (fun i j h => by
  simp only [Bool.and_eq_true, decide_eq_true_eq, small2] at h; exact h) (fun i j G ps => by unfold Rep; rfl)
def dMod := primI (fun i j => .int (i % j)) (fun _ j => decide (0 < j))
theorem op_modD : OpD X W dMod (rI (fun _ j => 0 < j) fun i j => .int (i % j)) := primI_of (fun i j h => of_decide_eq_true h) (fun i j G ps => by unfold Rep; rfl)
def dPow := primI (fun i j => .int (i ^ j.toNat)) (fun i j => decide (0 ≤ j ∧ j ≤ 1000000 ∧ i.natAbs < 2 ^ 64))
theorem op_powD : OpD X W dPow (rI CPow fun i j => .int (i ^ j.toNat)) := primI_of (fun i j h => by simp only [decide_eq_true_eq] at h; exact h) (fun i j G ps => by unfold Rep; rfl)
def dLt := primI (fun i j => .bl (decide (i < j))) (fun _ _ => true)
def dLe := primI (fun i j => .bl (decide (i ≤ j))) (fun _ _ => true)
def dGt := primI (fun i j => .bl (decide (j < i))) (fun _ _ => true)
def dGe := primI (fun i j => .bl (decide (j ≤ i))) (fun _ _ => true)
theorem rI_of0 {g : Int → Int → D} {g' : Int → Int → V} (hg : ∀ i j G ps, Rep X.K G ps (g i j) (g' i j)) : OpD X W (primI g fun _ _ => true) (rI0 g') := fun σ v u H Q h => by
  obtain ⟨i, j, a, b, _, q⟩ := primI_of (X := X) (W := W) (C' := fun _ _ => True) (g' := g') (fun _ _ _ => trivial) hg σ v u H Q h
  exact ⟨i, j, a, b, q⟩
theorem op_ltD : OpD X W dLt (rI0 fun i j => .bl (decide (i < j))) := rI_of0 fun i j G ps => by unfold Rep; rfl
theorem op_leD : OpD X W dLe (rI0 fun i j => .bl (decide (i ≤ j))) := rI_of0 fun i j G ps => by unfold Rep; rfl
theorem op_gtD : OpD X W dGt (rI0 fun i j => .bl (decide (j < i))) := rI_of0 fun i j G ps => by unfold Rep; rfl
theorem op_geD : OpD X W dGe (rI0 fun i j => .bl (decide (j ≤ i))) := rI_of0 fun i j G ps => by unfold Rep; rfl

/-! + -/
def dAdd : D → D → C D
  | .int i, .int j => C.pure (.int (i + j))
  | .str x, .str y => if x.length + y.length ≤ sizeLine then C.pure (.str (x ++ y)) else C.bad
  | .lst x, .lst y => if x.length + y.length ≤ sizeLine then C.pure (.lst (x ++ y)) else C.bad
  | .tup x, .tup y => if x.length + y.length ≤ sizeLine then C.pure (.tup (x ++ y)) else C.bad
  | .int i, .bl k => C.pure (.int (i + b2i k))
  | _, _ => C.bad
abbrev rAddA (K : PySem.W.Frag) : R2 := fun x y H Q => (rI0 (fun i j => V.int (i + j)) x y H Q) ∨ (∃ i j, x = .str i ∧ y = .str j ∧ i.length + j.length ≤ sizeLine ∧ Q (.str (i ++ j)) H) ∨ rCat x y H Q ∨ rCatA K x y H Q ∨ (∃ i k, x = .int i ∧ y = .bl k ∧ Q (.int (i + b2i k)) H)
theorem or_addA : OpR X (binaryOp .Add) (rAddA X.K) := op_add.or (op_add_str.or (op_cat.or (op_catA.or op_add_ib)))
theorem op_addD : OpD X W dAdd (rAddA X.K) := fun σ v u H Q h => by
  obtain ⟨G, ps, M, x, y, s, r1, r2, p⟩ := h.out
  unfold dAdd at p
  split at p
  · unfold Rep at r1 r2
    exact .inl ⟨_, _, r1, r2, p G ps H Stp.refl s _ (by unfold Rep; rfl)⟩
  · unfold Rep at r1 r2
    split at p
    · rename_i hz
      exact .inr (.inl ⟨_, _, r1, r2, hz, p G ps H Stp.refl s _ (by unfold Rep; rfl)⟩)
    · exact p.elim
  · unfold Rep at r1 r2
    split at p
    · rename_i hz
      obtain ⟨a, xs, e1, g1, q1⟩ := r1
      obtain ⟨b, ys, e2, g2, q2⟩ := r2
      refine .inr (.inr (.inl ⟨a, b, xs, ys, e1, e2, s.sub _ _ g1, s.sub _ _ g2, by rw [← q1.len, ← q2.len]; exact hz, fun l hl => ?_⟩))
      have x := s.stp (o := .lst (xs ++ ys)) hl
      exact p _ ps _ x (s.new hl) _ (by unfold Rep; exact ⟨l, _, rfl, upd_same, (q1.mono x.ext).append (q2.mono x.ext)⟩)
    · exact p.elim
  · unfold Rep at r1 r2
    split at p
    · rename_i hz
      obtain ⟨a, xs, e1, g1, q1⟩ := r1
      obtain ⟨b, ys, e2, g2, q2⟩ := r2
      refine .inr (.inr (.inr (.inl ⟨a, b, xs, ys, e1, e2, .inl (.inl (s.sub _ _ g1)), .inl (.inl (s.sub _ _ g2)), by rw [← q1.len, ← q2.len]; exact hz, fun e => ?_, fun nx e => ?_, fun _ _ l hl => ?_⟩)))
      · subst e
        refine p G ps H Stp.refl s _ ?_
        rename_i ds es
        have e0 : ds = [] := List.length_eq_zero_iff.mp (by simpa using q1.len)
        subst e0
        rw [List.nil_append]
        unfold Rep
        exact ⟨b, ys, rfl, g2, q2⟩
      · subst e
        refine p G ps H Stp.refl s _ ?_
        rename_i ds es
        have e0 : es = [] := List.length_eq_zero_iff.mp (by simpa using q2.len)
        subst e0
        rw [List.append_nil]
        unfold Rep
        exact ⟨a, xs, rfl, g1, q1⟩
      · have x := s.stp (o := .tup (xs ++ ys)) hl
        exact p _ ps _ x (s.new hl) _ (by unfold Rep; exact ⟨l, _, rfl, upd_same, (q1.mono x.ext).append (q2.mono x.ext)⟩)
    · exact p.elim
  · unfold Rep at r1 r2
    exact .inr (.inr (.inr (.inr ⟨_, _, r1, r2, p G ps H Stp.refl s _ (by unfold Rep; rfl)⟩)))
  · exact p.elim
end
end DL
end
section
set_option Elab.async false
set_option linter.all false
set_option maxRecDepth 100000
set_option maxHeartbeats 1000000
namespace DL
open PySem PySem.Spec PyProof.Rows L2
/-! ### as plain data of the library -/
mutual
def py0 : D → Option PyData
  | .non => some .none
  | .bl b => some (.bool b)
  | .int i => some (.int i)
  | .str x => some (.str x)
  | .lst ds => (py0s ds).map .list
  | .fz ds => (py0s ds).map .list
  | .tup ds => (py0s ds).map .tuple
  | .ft ds => (py0s ds).map .tuple
  | _ => none
def py0s : List D → Option (List PyData)
  | [] => some []
  | d :: ds => match py0 d, py0s ds with
    | some x, some xs => some (x :: xs)
    | _, _ => none
end
def pyM (M : Sto) (d : D) : Option PyData :=
  match d with
  | .ptr n => match M[n]? with
    | some (.lst ds) => (py0s ds).map .list
    | some (.frz (.lst ds)) => (py0s ds).map .list
    | _ => none
  | d => py0 d
section
variable {K : PySem.W.Frag} {G : Hp} {ps : List Addr} {M : Sto} {H : Hp}
mutual
theorem Rep.dp (s : Sto0 K G ps M H) : ∀ {d : D} {v : V} {q : PyData}, Rep K G ps d v → py0 d = some q → Dp K H v q
  | .non, _, _, h, e => by unfold Rep at h; subst h; simp only [py0, Option.some.injEq] at e; subst e; exact .non
  | .bl b, _, _, h, e => by unfold Rep at h; subst h; simp only [py0, Option.some.injEq] at e; subst e; exact .bl b
  | .int i, _, _, h, e => by unfold Rep at h; subst h; simp only [py0, Option.some.injEq] at e; subst e; exact .int i
  | .str x, _, _, h, e => by unfold Rep at h; subst h; simp only [py0, Option.some.injEq] at e; subst e; exact .str x
  | .lst ds, _, _, h, e => by
    unfold Rep at h; obtain ⟨a, xs, e1, g, r⟩ := h; subst e1
    simp only [py0, Option.map_eq_some_iff] at e; obtain ⟨qs, e2, e3⟩ := e; subst e3
    exact .lst (.inl (.inl (s.sub _ _ g))) (Reps.dp s r e2)
  | .fz ds, _, _, h, e => by
    unfold Rep at h; obtain ⟨a, xs, e1, g, r⟩ := h; subst e1
    simp only [py0, Option.map_eq_some_iff] at e; obtain ⟨qs, e2, e3⟩ := e; subst e3
    exact .lst (s.seqL g) (Reps.dp s r e2)
  | .tup ds, _, _, h, e => by
    unfold Rep at h; obtain ⟨a, xs, e1, g, r⟩ := h; subst e1
    simp only [py0, Option.map_eq_some_iff] at e; obtain ⟨qs, e2, e3⟩ := e; subst e3
    exact .tup (.inl (.inl (s.sub _ _ g))) (Reps.dp s r e2)
  | .ft ds, _, _, h, e => by
    unfold Rep at h; obtain ⟨a, xs, e1, g, r⟩ := h; subst e1
    simp only [py0, Option.map_eq_some_iff] at e; obtain ⟨qs, e2, e3⟩ := e; subst e3
    exact .tup (s.seqT g) (Reps.dp s r e2)
  | .ty _, _, _, _, e => by simp [py0] at e
  | .obj _, _, _, _, e => by simp [py0] at e
  | .dic _ _, _, _, _, e => by simp [py0] at e
  | .ins _ _ _, _, _, _, e => by simp [py0] at e
  | .ptr _, _, _, _, e => by simp [py0] at e
theorem Reps.dp (s : Sto0 K G ps M H) : ∀ {ds : List D} {vs : List V} {qs : List PyData}, Reps K G ps ds vs → py0s ds = some qs → DpAll K H vs qs
  | [], _, _, h, e => by unfold Reps at h; subst h; simp only [py0s, Option.some.injEq] at e; subst e; exact .nil
  | d :: ds, _, _, h, e => by
    unfold Reps at h; obtain ⟨y, r, e1, a, b⟩ := h; subst e1
    simp only [py0s] at e
    cases q1 : py0 d with
    | none => rw [q1] at e; simp at e
    | some x =>
      cases q2 : py0s ds with
      | none => rw [q1, q2] at e; simp at e
      | some xs =>
        rw [q1, q2] at e; simp only [Option.some.injEq] at e; subst e
        exact .cons (Rep.dp s a q1) (Reps.dp s b q2)
end
theorem Rep.dpM (s : Sto0 K G ps M H) {d : D} {v : V} {q : PyData} (r : Rep K G ps d v) (e : pyM M d = some q) : Dp K H v q := by
  unfold pyM at e
  split at e
  · rename_i n
    split at e
    · rename_i ds z
      obtain ⟨qs, e2, e3⟩ := Option.map_eq_some_iff.mp e; subst e3
      unfold Rep at r; obtain ⟨a, e', hp⟩ := r; subst e'
      obtain ⟨a', xs, p2, _, h, rr⟩ := s.mem n _ z
      have : a' = a := Option.some.inj (p2.symm.trans hp)
      subst this
      exact .lst (.inl (.inl h)) (Reps.dp s rr e2)
    · rename_i ds z
      obtain ⟨qs, e2, e3⟩ := Option.map_eq_some_iff.mp e; subst e3
      unfold Rep at r; obtain ⟨a, e', hp⟩ := r; subst e'
      obtain ⟨a', p2, rr⟩ := s.mem n _ z
      have : a' = a := Option.some.inj (p2.symm.trans hp)
      subst this
      exact Rep.dp s rr (by simp only [py0, e2, Option.map_some])
    · cases e
  · exact Rep.dp s r e
end

/-! ### == and != -/
def dEqv (neg : Bool) : D → D → C D
  | .str a, .str b => C.pure (.bl (if neg then !decide (a = b) else decide (a = b)))
  | x, y => fun M => match pyM M x, pyM M y with
    | some a, some b => if SeqAt.shaped a && SeqAt.shaped b then .ok (.bl (if neg then !PyData.eqv a b else PyData.eqv a b)) M else .bad
    | _, _ => .bad
section
variable {X : Cx} {W : WX}
abbrev rEqA (K : PySem.W.Frag) : R2 := fun x y H Q => rEqD K x y H Q ∨ rEq x y H Q
abbrev rNeA (K : PySem.W.Frag) : R2 := fun x y H Q => rNeD K x y H Q ∨ rNe x y H Q
theorem op_eqA (hu : X.A.units + 64 < cLine) : OpR X (compareOp .Eq) (rEqA X.K) := fun pins s σ H x y v u Q I rx ry h => h.elim (fun h => op_eqD hu pins s σ H x y v u Q I rx ry h) fun h => op_eq pins s σ H x y v u Q I rx ry h
theorem op_neA (hu : X.A.units + 64 < cLine) : OpR X (compareOp .NotEq) (rNeA X.K) := fun pins s σ H x y v u Q I rx ry h => h.elim (fun h => op_neD hu pins s σ H x y v u Q I rx ry h) fun h => op_ne pins s σ H x y v u Q I rx ry h
theorem dec_strV {a b : Str} : decide (V.str a = V.str b) = decide (a = b) := by
  rw [Bool.eq_iff_iff]; simp
theorem eqv_of {σ : L2.St} {v u : V} {H : Hp} {Q : VK} {neg : Bool} (h : At2 X.K W (PD X.K Q) (fun _ => dEqv neg) σ v u H) :
    (∃ d e, Dp X.K H v d ∧ Dp X.K H u e ∧ SeqAt.shaped d = true ∧ SeqAt.shaped e = true ∧ Q (.bl (if neg then !PyData.eqv d e else PyData.eqv d e)) H) ∨ (scal v u = true ∧ Q (.bl (if neg then !decide (v = u) else decide (v = u))) H) := by
  obtain ⟨G, ps, M, x, y, s, r1, r2, p⟩ := h.out
  unfold dEqv at p
  split at p
  · unfold Rep at r1 r2; subst r1; subst r2
    refine .inr ⟨rfl, ?_⟩
    rw [dec_strV]
    exact p G ps H Stp.refl s _ (by unfold Rep; rfl)
  · dsimp only at p
    split at p
    · rename_i a b ea eb
      split at p
      · rename_i hs
        simp only [Bool.and_eq_true] at hs
        exact .inl ⟨a, b, r1.dpM s ea, r2.dpM s eb, hs.1, hs.2, p G ps H Stp.refl s _ (by unfold Rep; rfl)⟩
      · exact p.elim
    · exact p.elim
theorem op_eqDD : OpD X W (dEqv false) (rEqA X.K) := fun σ v u H Q h => eqv_of h
theorem op_neDD : OpD X W (dEqv true) (rNeA X.K) := fun σ v u H Q h => eqv_of h
/-- is None -/
def isNon : D → Bool
  | .non => true
  | _ => false
def dIsN (neg : Bool) : D → D → C D
  | x, .non => C.pure (.bl (if neg then !isNon x else isNon x))
  | _, _ => C.bad
theorem Rep.non_iff {K : PySem.W.Frag} {G : Hp} {ps : List Addr} {d : D} {v : V} (r : Rep K G ps d v) : decide (v = .non) = isNon d := by
  cases d <;> unfold Rep at r <;> first
    | (subst r; rfl)
    | (obtain ⟨a, dx, kvs, e, _⟩ := r; subst e; rfl)
    | (obtain ⟨a, xs, e, _⟩ := r; subst e; rfl)
    | (obtain ⟨a, e, _⟩ := r; subst e; rfl)
theorem isN_of {σ : L2.St} {v u : V} {H : Hp} {Q : VK} {neg : Bool} (h : At2 X.K W (PD X.K Q) (fun _ => dIsN neg) σ v u H) : u = .non ∧ Q (.bl (if neg then !decide (v = .non) else decide (v = .non))) H := by
  obtain ⟨G, ps, M, x, y, s, r1, r2, p⟩ := h.out
  unfold dIsN at p
  split at p
  · unfold Rep at r2
    refine ⟨r2, ?_⟩
    rw [r1.non_iff]
    exact p G ps H Stp.refl s _ (by unfold Rep; rfl)
  · exact p.elim
theorem op_isND : OpD X W (dIsN false) (fun x y H Q => y = .non ∧ Q (.bl (decide (x = .non))) H) := fun σ v u H Q h => isN_of h
theorem op_notND : OpD X W (dIsN true) (fun x y H Q => y = .non ∧ Q (.bl (!decide (x = .non))) H) := fun σ v u H Q h => isN_of h
/-! * -/
def mulOk (i j : Int) : Bool := decide (-(2 ^ 64) < i ∧ i < 2 ^ 64) || decide (-(2 ^ 64) < j ∧ j < 2 ^ 64) || decide (i.natAbs.log2 + j.natAbs.log2 < 1000000)
def dMul : D → D → C D
  | .int i, .int j => if mulOk i j = true then C.pure (.int (i * j)) else C.bad
  | .lst ds, .int k => if -(2 ^ 63) ≤ k ∧ k < 2 ^ 63 ∧ ds.length * k.toNat ≤ sizeLine then C.pure (.lst (List.replicate k.toNat ds).flatten) else C.bad
  | .tup ds, .int k => if ds ≠ [] ∧ 2 ≤ k ∧ k ≤ 1000 ∧ ds.length ≤ 1000 then C.pure (.tup (List.replicate k.toNat ds).flatten) else C.bad
  | _, _ => C.bad
theorem Reps.rep {K : PySem.W.Frag} {G : Hp} {ps : List Addr} {ds : List D} {xs : List V} (r : Reps K G ps ds xs) : ∀ n : Nat, Reps K G ps (List.replicate n ds).flatten (List.replicate n xs).flatten
  | 0 => Reps.nil
  | n + 1 => by
    rw [List.replicate_succ, List.replicate_succ, List.flatten_cons, List.flatten_cons]
    exact r.append (Reps.rep r n)
abbrev rMulA (K : PySem.W.Frag) : R2 := fun x y H Q => (rI CMulW (fun i j => V.int (i * j)) x y H Q) ∨ (rI CMul (fun i j => V.int (i * j)) x y H Q) ∨ rRep x y H Q ∨ rRepT K x y H Q
theorem or_mulA : OpR X (binaryOp .Mult) (rMulA X.K) := op_mulW.or (op_mul.or (op_rep.or op_repT))
theorem ne_nil_of {K : PySem.W.Frag} {G : Hp} {ps : List Addr} {ds : List D} {xs : List V} (r : Reps K G ps ds xs) (h : ds ≠ []) : xs ≠ [] := fun e => by
  subst e
  exact h (List.length_eq_zero_iff.mp (by simpa using r.len))
theorem op_mulD : OpD X W dMul (rMulA X.K) := fun σ v u H Q h => by
  obtain ⟨G, ps, M, x, y, s, r1, r2, p⟩ := h.out
  unfold dMul at p
  split at p
  · unfold Rep at r1 r2
    split at p
    · rename_i hz
      have fin := p G ps H Stp.refl s _ (by unfold Rep; rfl)
      unfold mulOk at hz
      simp only [Bool.or_eq_true, decide_eq_true_eq] at hz
      rcases hz with (hz | hz) | hz
      · exact .inr (.inl ⟨_, _, r1, r2, .inl hz, fin⟩)
      · exact .inr (.inl ⟨_, _, r1, r2, .inr hz, fin⟩)
      · exact .inl ⟨_, _, r1, r2, hz, fin⟩
    · exact p.elim
  · unfold Rep at r1 r2
    split at p
    · rename_i ds k hz
      obtain ⟨a, xs, e1, g1, q1⟩ := r1
      refine .inr (.inr (.inl ⟨a, _, xs, e1, r2, s.sub _ _ g1, hz.1, hz.2.1, by rw [← q1.len]; exact hz.2.2, fun l hl => ?_⟩))
      have z := s.stp (o := .lst (List.replicate (Int.toNat k) xs).flatten) hl
      exact p _ ps _ z (s.new hl) _ (by unfold Rep; exact ⟨l, _, rfl, upd_same, (q1.mono z.ext).rep _⟩)
    · exact p.elim
  · unfold Rep at r1 r2
    split at p
    · rename_i ds k hz
      obtain ⟨a, xs, e1, g1, q1⟩ := r1
      refine .inr (.inr (.inr ⟨a, _, xs, e1, r2, .inl (.inl (s.sub _ _ g1)), ne_nil_of q1 hz.1, hz.2.1, hz.2.2.1, by rw [← q1.len]; exact hz.2.2.2, fun l hl => ?_⟩))
      have z := s.stp (o := .tup (List.replicate (Int.toNat k) xs).flatten) hl
      exact p _ ps _ z (s.new hl) _ (by unfold Rep; exact ⟨l, _, rfl, upd_same, (q1.mono z.ext).rep _⟩)
    · exact p.elim
  · exact p.elim
/-! ### unary -/
def dNeg : D → C D
  | .int i => C.pure (.int (-i))
  | _ => C.bad
theorem un_negD : UnD X W dNeg (rU fun i => .int (-i)) := fun σ v H Q h => by
  obtain ⟨G, ps, M, x, s, r1, p⟩ := h.out
  unfold dNeg at p
  split at p
  · unfold Rep at r1
    exact ⟨_, r1, p G ps H Stp.refl s _ (by unfold Rep; rfl)⟩
  · exact p.elim

/-! ### tests -/
def asB : D → C Bool
  | .bl b => C.pure b
  | _ => C.bad
def tV (f : Env → C D) : Env → C Bool := fun ρ => C.bind (f ρ) asB
def tNotD (f : Env → C Bool) : Env → C Bool := fun ρ => C.bind (f ρ) fun b => C.pure (!b)
def tAndD (f g : Env → C Bool) : Env → C Bool := fun ρ => C.bind (f ρ) fun b => if b = true then g ρ else C.pure false
def tOrD (f g : Env → C Bool) : Env → C Bool := fun ρ => C.bind (f ρ) fun b => if b = true then C.pure true else g ρ
theorem asB_out {K : PySem.W.Frag} {Q : Bool → Hp → Prop} {σ : L2.St} {v : V} {H : Hp} (h : At1 K W (PB Q) (fun _ => asB) σ v H) : ∃ b, v = .bl b ∧ Q b H := by
  obtain ⟨G, ps, M, x, s, r1, p⟩ := h.out
  unfold asB at p
  split at p
  · unfold Rep at r1
    exact ⟨_, r1, p G ps H Stp.refl s⟩
  · exact p.elim
theorem tb_mono {K : PySem.W.Frag} {Q Q' : Bool → Hp → Prop} {f : Env → C Bool} {σ : L2.St} {H : Hp} (h : TB K W f σ H Q) (i : ∀ v H', Q v H' → Q' v H') : TB K W f σ H Q' :=
  tdp_mono h fun b _ _ _ H' q => i b H' q
theorem tb_pure {K : PySem.W.Frag} {Q : Bool → Hp → Prop} {b : Bool} {σ : L2.St} {H : Hp} (h : TDp K W (PB Q) (fun _ => C.pure b) σ H) : Q b H := by
  obtain ⟨ρ, G, ps, M, s, e, p⟩ := h
  exact p G ps H Stp.refl s
variable {a b : Expr} {f g : Env → C D} {t u : Env → C Bool} {pos : Pos} {rest : List Expr}
theorem dt_cmp {k : D → D → C D} {r : R2} {op : CmpOp} (ho : OpR X (compareOp op) r) (hk : OpD X W k r) (ha : DE X W a f) (hb : DE X W b g) (hm : behindInMarks op b = false := by first | exact nomark _ | rfl) : DT X W (.Compare a [op] [b] pos) (tV (dB k f g)) :=
  pt_imp (pt_cmpR ho ha hb hm) fun σ H Q h => tOp_of hk σ H _ (td_mono (seq1 (k := fun _ x => asB x) h) fun v H1 h2 => asB_out h2)
theorem dt_val {e : Expr} (h : DE X W e f) (he : ∀ whole, isTrue e X.env whole = (do let v ← whole; standAt e.pos; holding [v] (truthy v)) := by intro _; rfl) : DT X W e (tV f) :=
  pt_imp (pt_val h he) fun σ H Q h => td_mono (seq1 (k := fun _ x => asB x) h) fun v H1 h2 => asB_out h2
theorem dt_not (ha : DT X W a t) : DT X W (.UnaryOp .Not a pos) (tNotD t) :=
  pt_imp (pt_not ha) fun σ H Q h => tb_mono (seqB (k := fun _ b => C.pure (!b)) h) fun b H1 h2 => tb_pure h2
abbrev DW (X : Cx) (W : WX) (e : Expr) (f : Env → C Bool) : Prop := PW X e (TB X.K W f)
theorem dw_and1 (ha : DT X W a t) : DW X W (.BoolOp .And [a] pos) t := pw_and1 ha
theorem dw_or1 (ha : DT X W a t) : DW X W (.BoolOp .Or [a] pos) t := pw_or1 ha
theorem dw_and (ha : DT X W a t) (hb : DW X W (.BoolOp .And (b :: rest) pos) u) : DW X W (.BoolOp .And (a :: b :: rest) pos) (tAndD t u) :=
  pw_imp (pw_and ha hb) fun σ H Q h => tb_mono (seqB (k := fun ρ b => if b = true then u ρ else C.pure false) h) fun b H1 h2 => by
    cases b with
    | true => simp only [if_true] at h2 ⊢; exact h2
    | false => simp only [Bool.false_eq_true, if_false] at h2 ⊢; exact tb_pure h2
theorem dw_or (ha : DT X W a t) (hb : DW X W (.BoolOp .Or (b :: rest) pos) u) : DW X W (.BoolOp .Or (a :: b :: rest) pos) (tOrD t u) :=
  pw_imp (pw_or ha hb) fun σ H Q h => tb_mono (seqB (k := fun ρ b => if b = true then C.pure true else u ρ) h) fun b H1 h2 => by
    cases b with
    | true => simp only [if_true] at h2 ⊢; exact tb_pure h2
    | false => simp only [Bool.false_eq_true, if_false] at h2 ⊢; exact h2
theorem dw_t (h : DW X W a t) : DT X W a t := h.pt
/-! .. as values -/
def vAnd (f g : Env → C D) : Env → C D := fun ρ => C.bind (tV f ρ) fun b => if b = true then g ρ else C.pure (.bl false)
def vOr (f g : Env → C D) : Env → C D := fun ρ => C.bind (tV f ρ) fun b => if b = true then C.pure (.bl true) else g ρ
def vNot (f : Env → C D) : Env → C D := fun ρ => C.bind (tV f ρ) fun b => C.pure (.bl (!b))
theorem C.bind_assoc {α β γ : Type} {x : C α} {f : α → C β} {g : β → C γ} : C.bind (C.bind x f) g = C.bind x fun a => C.bind (f a) g := by
  funext M
  unfold C.bind
  cases x M <;> rfl
theorem tV_seq {α : Type} {K : PySem.W.Frag} {P : PP α} {k : Env → Bool → C α} {σ : L2.St} {H : Hp} (h : TDp K W P (fun ρ => C.bind (tV f ρ) (k ρ)) σ H) : TD K W f σ H (fun v H1 => ∃ b, v = .bl b ∧ TDp K W P (fun ρ => k ρ b) σ H1) := by
  have h0 : TDp K W P (fun ρ => C.bind (f ρ) fun x => C.bind (asB x) (k ρ)) σ H := by
    have e : (fun ρ => C.bind (tV f ρ) (k ρ)) = fun ρ => C.bind (f ρ) fun x => C.bind (asB x) (k ρ) := funext fun ρ => C.bind_assoc
    rw [← e]; exact h
  refine td_mono (seq1 (k := fun ρ x => C.bind (asB x) (k ρ)) h0) fun v H1 h2 => ?_
  obtain ⟨ρ, G, ps, M, x, s, e, r1, p⟩ := h2
  replace p : Post K W σ P G ps H1 ((asB x M).bind (k ρ)) := p
  unfold asB at p
  split at p
  · rename_i b
    unfold Rep at r1
    exact ⟨b, r1, ρ, G, ps, M, s, e, p⟩
  · exact p.elim
theorem td_pure {K : PySem.W.Frag} {Q : VK} {d : D} {v : V} {σ : L2.St} {H : Hp} (h : TDp K W (PD K Q) (fun _ => C.pure d) σ H) (r : ∀ G ps, Rep K G ps d v) : Q v H := by
  obtain ⟨ρ, G, ps, M, s, e, p⟩ := h
  exact p G ps H Stp.refl s v (r G ps)
theorem de_and (ha : DE X W a f) (hb : DE X W (.BoolOp .And (b :: rest) pos) g) : DE X W (.BoolOp .And (a :: b :: rest) pos) (vAnd f g) :=
  pe_imp (pe_and ha hb) fun σ H Q h => td_mono (tV_seq (k := fun ρ b => if b = true then g ρ else C.pure (D.bl false)) h) fun v H1 ⟨b, e, h2⟩ => ⟨b, e, by
    cases b with
    | true => simp only [if_true] at h2 ⊢; exact h2
    | false => simp only [Bool.false_eq_true, if_false] at h2 ⊢; exact td_pure h2 fun _ _ => by unfold Rep; rfl⟩
theorem de_or (ha : DE X W a f) (hb : DE X W (.BoolOp .Or (b :: rest) pos) g) : DE X W (.BoolOp .Or (a :: b :: rest) pos) (vOr f g) :=
  pe_imp (pe_or ha hb) fun σ H Q h => td_mono (tV_seq (k := fun ρ b => if b = true then C.pure (D.bl true) else g ρ) h) fun v H1 ⟨b, e, h2⟩ => ⟨b, e, by
    cases b with
    | true => simp only [if_true] at h2 ⊢; exact td_pure h2 fun _ _ => by unfold Rep; rfl
    | false => simp only [Bool.false_eq_true, if_false] at h2 ⊢; exact h2⟩
theorem de_one {op} (ha : DE X W a f) : DE X W (.BoolOp op [a] pos) f := pe_one ha
theorem de_not (ha : DE X W a f) : DE X W (.UnaryOp .Not a pos) (vNot f) :=
  pe_imp (pe_not ha) fun σ H Q h => td_mono (tV_seq (k := fun ρ b => C.pure (D.bl (!b))) h) fun v H1 ⟨b, e, h2⟩ => ⟨b, e, td_pure h2 fun _ _ => by unfold Rep; rfl⟩
def vIf (t : Env → C Bool) (f g : Env → C D) : Env → C D := fun ρ => C.bind (t ρ) fun b => if b = true then f ρ else g ρ
theorem de_if {c : Expr} (hc : DT X W c t) (ha : DE X W a f) (hb : DE X W b g) : DE X W (.IfExp c a b pos) (vIf t f g) :=
  pe_imp (pe_ifExp hc ha hb) fun σ H Q h => tb_mono (seqB (k := fun ρ b => if b = true then f ρ else g ρ) h) fun b H1 h2 => by
    cases b with
    | true => simp only [if_true] at h2 ⊢; exact h2
    | false => simp only [Bool.false_eq_true, if_false] at h2 ⊢; exact h2

/-! ### argument lists, displays -/
def aNil : Env → C (List D) := fun _ => C.pure []
def aCons (f : Env → C D) (g : Env → C (List D)) : Env → C (List D) := fun ρ => C.bind (f ρ) fun x => C.bind (g ρ) fun xs => C.pure (x :: xs)
theorem da_nil : DA X W [] aNil := pa_imp pa_nil fun σ H Q h => by
  obtain ⟨ρ, G, ps, M, s, e, p⟩ := h
  exact p G ps H Stp.refl s [] Reps.nil
variable {es : List Expr} {h : Env → C (List D)}
theorem tds_mono {K : PySem.W.Frag} {Q Q' : List V → Hp → Prop} {f : Env → C (List D)} {σ : L2.St} {H : Hp} (h : TDs K W f σ H Q) (i : ∀ v H', Q v H' → Q' v H') : TDs K W f σ H Q' :=
  tdp_mono h fun _ _ _ _ H' q v r => i v H' (q v r)
theorem da_cons (ha : DE X W a f) (hb : DA X W es h) (hs : starEach (a :: es) X.env = (false, eval a X.env) :: starEach es X.env := by rfl) : DA X W (a :: es) (aCons f h) :=
  pa_imp (pa_cons ha hb hs) fun σ H Q q => td_mono (seq1 (k := fun ρ x => C.bind (h ρ) fun xs => C.pure (x :: xs)) q) fun v H1 h2 =>
    tds_mono (At1.nextL (k := fun _ x xs => C.pure (x :: xs)) h2) fun us H2 ⟨ρ, G, ps, M, x, ys, s, e, r, rs, p⟩ => p G ps H2 Stp.refl s _ (Reps.cons r rs)
def dTup (g : Env → C (List D)) : Env → C D := fun ρ => C.bind (g ρ) fun xs => if xs.length ≤ sizeLine then C.pure (.tup xs) else C.bad
def dLst (g : Env → C (List D)) : Env → C D := fun ρ => C.bind (g ρ) fun xs => if xs.length ≤ sizeLine then C.pure (.lst xs) else C.bad
/-- a display that may change -/
def allocL (ds : List D) : C D := fun M => .ok (.ptr M.length) (M ++ [.lst ds])
def dLstM (g : Env → C (List D)) : Env → C D := fun ρ => C.bind (g ρ) fun xs => if xs.length ≤ sizeLine then allocL xs else C.bad
theorem AtL.out {α : Type} {K : PySem.W.Frag} {P : PP α} {k : List D → C α} {σ : L2.St} {vs : List V} {H : Hp} (h : AtL K W P (fun _ => k) σ vs H) : ∃ G ps M xs, Sto0 K G ps M H ∧ Reps K G ps xs vs ∧ Post K W σ P G ps H (k xs M) := by
  obtain ⟨ρ, G, ps, M, x, s, e, r1, p⟩ := h
  exact ⟨G, ps, M, x, s, r1, p⟩
theorem de_tup {n : Nat} (ha : DA X W es h) : DE X W (.Tuple es n pos) (dTup h) := pe_imp (pe_tup ha) fun σ H Q q =>
  tds_mono (seqL (k := fun _ xs => if xs.length ≤ sizeLine then C.pure (D.tup xs) else C.bad) q) fun us H1 h2 => by
    obtain ⟨G, ps, M, xs, s, r, p⟩ := h2.out
    split at p
    · rename_i hz
      refine ⟨by rw [← r.len]; exact hz, fun l hl => ?_⟩
      have z := s.stp (o := .tup us) hl
      exact p _ ps _ z (s.new hl) _ (by unfold Rep; exact ⟨l, _, rfl, upd_same, r.mono z.ext⟩)
    · exact p.elim
theorem de_lst (ha : DA X W es h) : DE X W (.List es pos) (dLst h) := pe_imp (pe_lst ha) fun σ H Q q =>
  tds_mono (seqL (k := fun _ xs => if xs.length ≤ sizeLine then C.pure (D.lst xs) else C.bad) q) fun us H1 h2 => by
    obtain ⟨G, ps, M, xs, s, r, p⟩ := h2.out
    split at p
    · rename_i hz
      refine ⟨by rw [← r.len]; exact hz, fun l hl => ?_⟩
      have z := s.stp (o := .lst us) hl
      exact p _ ps _ z (s.new hl) _ (by unfold Rep; exact ⟨l, _, rfl, upd_same, r.mono z.ext⟩)
    · exact p.elim
theorem de_lstM (ha : DA X W es h) : DE X W (.List es pos) (dLstM h) := pe_imp (pe_lst ha) fun σ H Q q =>
  tds_mono (seqL (k := fun _ xs => if xs.length ≤ sizeLine then allocL xs else C.bad) q) fun us H1 h2 => by
    obtain ⟨G, ps, M, xs, s, r, p⟩ := h2.out
    split at p
    · rename_i hz
      refine ⟨by rw [← r.len]; exact hz, fun l hl => ?_⟩
      refine p _ _ _ (s.stpP hl) (s.newM hl r) _ ?_
      unfold Rep
      refine ⟨l, rfl, ?_⟩
      rw [← s.len, List.getElem?_append_right (Nat.le_refl _), Nat.sub_self]
      rfl
    · exact p.elim
def dDic0 : Env → C D := fun _ => C.pure (.dic [] [])
theorem de_dic0 : DE X W (.Dict [] [] pos) dDic0 := pe_imp pe_dnewK fun σ H Q q l hl => by
  obtain ⟨ρ, G, ps, M, s, e, p⟩ := q
  have z := s.stp (o := .dK []) hl
  exact p _ ps _ z (s.new hl) _ (by unfold Rep; exact ⟨l, [], rfl, upd_same, rfl, Reps.nil⟩)
end
end DL
end
section
set_option Elab.async false
set_option linter.all false
set_option maxRecDepth 100000
set_option maxHeartbeats 1000000
namespace DL
open PySem PySem.Spec PyProof.Rows L2
section
variable {X : Cx} {W : WX}
/-! ### built-in functions -/
def CallD (X : Cx) (W : WX) (k : List D → C D) (r : List V → Hp → VK → Prop) : Prop := ∀ σ vs H Q, AtL X.K W (PD X.K Q) (fun _ => k) σ vs H → r vs H Q
def cB (k : List D → C D) (g : Env → C (List D)) : Env → C D := fun ρ => C.bind (g ρ) k
variable {x : Str} {p pos : Pos} {e : Expr} {es : List Expr} {g : Env → C (List D)} {id T : String} {r : List V → Hp → VK → Prop} {k : List D → C D}
theorem tCB_of (hk : CallD X W k r) : ∀ σ H Q, TD X.K W (cB k g) σ H Q → tCB r (TDs X.K W g) σ H Q := fun σ H Q h => tds_mono (seqL (k := fun _ xs => k xs) h) fun vs H1 h2 => hk σ vs H1 Q h2
theorem de_callB (hc : CallR X (.builtin id) r) (hk : CallD X W k r) (ha : DA X W (e :: es) g) (hg : Gl X x) (hm : X.mg x = none) (hv : bootBuiltins x = some (.builtin id)) (hn : x ≠ "__name__" := by decide) (hdb : (x == ("__debug__" : Str)) = false := by decide)
    (he : starEach (e :: es) X.env = (false, eval e X.env) :: starEach es X.env := by rfl) (hpl : (backTo pos (starEach es X.env)).any (·.1) = false := by rfl) : DE X W (.Call (.Name x p) (e :: es) [] pos) (cB k g) :=
  pe_imp (pe_callB hc hg hm hv ha hn hdb he hpl) (tCB_of hk)
theorem de_callT (hc : CallR X (.type T) r) (hk : CallD X W k r) (ha : DA X W (e :: es) g) (hg : Gl X x) (hm : X.mg x = none) (hv : bootBuiltins x = some (.type T)) (hn : x ≠ "__name__" := by decide) (hdb : (x == ("__debug__" : Str)) = false := by decide)
    (he : starEach (e :: es) X.env = (false, eval e X.env) :: starEach es X.env := by rfl) (hpl : (backTo pos (starEach es X.env)).any (·.1) = false := by rfl) : DE X W (.Call (.Name x p) (e :: es) [] pos) (cB k g) :=
  pe_imp (pe_callTy hc hg hm hv ha hn hdb he hpl) (tCB_of hk)
theorem de_callF (hc : CallR X (.builtin id) r) (hk : CallD X W k r) (ha : DA X W (e :: es) g) (hg : Gl X x) (hm : X.mg x = some (.builtin id)) (hdb : (x == ("__debug__" : Str)) = false := by decide)
    (he : starEach (e :: es) X.env = (false, eval e X.env) :: starEach es X.env := by rfl) (hpl : (backTo pos (starEach es X.env)).any (·.1) = false := by rfl) : DE X W (.Call (.Name x p) (e :: es) [] pos) (cB k g) :=
  pe_imp (pe_callBfun hc hg hm ha hdb he hpl) (tCB_of hk)
/-- one value -/
theorem Rep.int_of {K : PySem.W.Frag} {G : Hp} {ps : List Addr} {i : Int} : Rep K G ps (.int i) (.int i) := by unfold Rep; rfl
theorem Rep.bl_of {K : PySem.W.Frag} {G : Hp} {ps : List Addr} {i : Bool} : Rep K G ps (.bl i) (.bl i) := by unfold Rep; rfl
theorem Rep.str_of {K : PySem.W.Frag} {G : Hp} {ps : List Addr} {i : Str} : Rep K G ps (.str i) (.str i) := by unfold Rep; rfl
theorem Rep.non_of {K : PySem.W.Frag} {G : Hp} {ps : List Addr} : Rep K G ps .non .non := by unfold Rep; rfl
def dInt : List D → C D
  | [.int i] => C.pure (.int i)
  | [.bl b] => C.pure (.int (if b then 1 else 0))
  | _ => C.bad
theorem int_D : CallD X W dInt (fun xs H Q => (∃ i, xs = [.int i] ∧ Q (.int i) H) ∨ ∃ k, xs = [.bl k] ∧ Q (.int (if k then 1 else 0)) H) := fun σ vs H Q h => by
  obtain ⟨G, ps, M, xs, s, r, p⟩ := h.out
  unfold dInt at p
  split at p
  · obtain ⟨v, e, r1⟩ := r.one; subst e; unfold Rep at r1; subst r1
    exact .inl ⟨_, rfl, p G ps H Stp.refl s _ Rep.int_of⟩
  · obtain ⟨v, e, r1⟩ := r.one; subst e; unfold Rep at r1; subst r1
    exact .inr ⟨_, rfl, p G ps H Stp.refl s _ Rep.int_of⟩
  · exact p.elim
def dAbs : List D → C D
  | [.int i] => C.pure (.int (if i < 0 then -i else i))
  | _ => C.bad
theorem abs_D : CallD X W dAbs (fun xs H Q => ∃ i, xs = [.int i] ∧ Q (.int (if i < 0 then -i else i)) H) := fun σ vs H Q h => by
  obtain ⟨G, ps, M, xs, s, r, p⟩ := h.out
  unfold dAbs at p
  split at p
  · obtain ⟨v, e, r1⟩ := r.one; subst e; unfold Rep at r1; subst r1
    exact ⟨_, rfl, p G ps H Stp.refl s _ Rep.int_of⟩
  · exact p.elim
def dGcd : List D → C D
  | [.int i, .int j] => C.pure (.int ((Nat.gcd i.natAbs j.natAbs : Nat) : Int))
  | _ => C.bad
theorem gcd_D : CallD X W dGcd rGcd := fun σ vs H Q h => by
  obtain ⟨G, ps, M, xs, s, r, p⟩ := h.out
  unfold dGcd at p
  split at p
  · obtain ⟨v, u, e, r1, r2⟩ := r.two; subst e; unfold Rep at r1 r2; subst r1; subst r2
    exact ⟨_, _, rfl, p G ps H Stp.refl s _ Rep.int_of⟩
  · exact p.elim
/-- read as a sequence -/
def withSeq (d : D) (k : List D → C D) : C D := fun M => match asSeq M d with
  | some ds => k ds M
  | none => .bad
theorem withSeq_out {K : PySem.W.Frag} {P : PP D} {σ : L2.St} {G : Hp} {ps : List Addr} {M : Sto} {d : D} {k : List D → C D} {H : Hp} (h : Post K W σ P G ps H (withSeq d k M)) : ∃ ds, asSeq M d = some ds ∧ Post K W σ P G ps H (k ds M) := by
  unfold withSeq at h
  split at h
  · exact ⟨_, by assumption, h⟩
  · exact h.elim
def dLen : List D → C D
  | [.str y] => if y.length ≤ sizeLine then C.pure (.int y.length) else C.bad
  | [d] => withSeq d fun ds => C.pure (.int ds.length)
  | _ => C.bad
theorem len_D : CallD X W dLen (fun xs H Q => ∃ x n, xs = [x] ∧ LenV X.K x H n ∧ Q (.int n) H) := fun σ vs H Q h => by
  obtain ⟨G, ps, M, xs, s, r, p⟩ := h.out
  unfold dLen at p
  split at p
  · obtain ⟨v, e, r1⟩ := r.one; subst e; unfold Rep at r1; subst r1
    split at p
    · rename_i hz
      exact ⟨_, _, rfl, ⟨hz, rfl⟩, p G ps H Stp.refl s _ Rep.int_of⟩
    · exact p.elim
  · obtain ⟨v, e, r1⟩ := r.one; subst e
    obtain ⟨ds, q, p⟩ := withSeq_out p
    obtain ⟨a, xs, e, hs, rr⟩ := asSeq_rep s r1 q
    subst e
    refine ⟨_, xs.length, rfl, ?_, ?_⟩
    · rcases hs with hs | hs
      · exact .inl ⟨xs, hs, rfl⟩
      · exact .inr ⟨xs, hs, rfl⟩
    · rw [← rr.len]
      exact p G ps H Stp.refl s _ Rep.int_of
  · exact p.elim
def dTupOf : List D → C D
  | [.ft _] => C.bad
  | [d] => withSeq d fun ds => C.pure (.tup ds)
  | _ => C.bad
theorem tuple_D : CallD X W dTupOf (fun xs H Q => ∃ p ys, xs = [.ref p] ∧ ((SqL X.K H p ys ∧ ∀ l, H l = none → Q (.ref l) (upd H l (.tup ys))) ∨ (SqT X.K H p ys ∧ Q (.ref p) H))) := fun σ vs H Q h => by
  obtain ⟨G, ps, M, xs, s, r, p⟩ := h.out
  unfold dTupOf at p
  split at p
  · exact p.elim
  · rename_i d hft
    obtain ⟨v, e, r1⟩ := r.one; subst e
    obtain ⟨ds, q, p⟩ := withSeq_out p
    cases hl : isLst d with
    | true =>
      obtain ⟨a, ys, e, hs, rr⟩ := asSeq_lst s r1 q hl
      subst e
      refine ⟨a, ys, rfl, .inl ⟨hs, fun l hn => ?_⟩⟩
      have z := s.stp (o := .tup ys) hn
      exact p _ ps _ z (s.new hn) _ (by unfold Rep; exact ⟨l, ys, rfl, upd_same, rr.mono z.ext⟩)
    | false =>
      cases d with
      | tup es =>
        cases q
        have r2 := r1
        unfold Rep at r1
        obtain ⟨a, ys, e, hs, rr⟩ := r1
        subst e
        exact ⟨a, ys, rfl, .inr ⟨.inl (.inl (s.sub _ _ hs)), p G ps H Stp.refl s _ r2⟩⟩
      | ft es => exact (hft es rfl).elim
      | lst _ => cases hl
      | fz _ => cases hl
      | ptr _ => cases hl
      | _ => cases q
  · exact p.elim
def dLstOf : List D → C D
  | [d] => withSeq d fun ds => C.pure (.lst ds)
  | _ => C.bad
theorem list_D : CallD X W dLstOf (fun xs H Q => ∃ p ys, xs = [.ref p] ∧ (SqL X.K H p ys ∨ SqT X.K H p ys) ∧ ∀ l, H l = none → Q (.ref l) (upd H l (.lst ys))) := fun σ vs H Q h => by
  obtain ⟨G, ps, M, xs, s, r, p⟩ := h.out
  unfold dLstOf at p
  split at p
  · rename_i d
    obtain ⟨v, e, r1⟩ := r.one; subst e
    obtain ⟨ds, q, p⟩ := withSeq_out p
    obtain ⟨a, ys, e, hs, rr⟩ := asSeq_rep s r1 q
    subst e
    refine ⟨a, ys, rfl, hs, fun l hn => ?_⟩
    have z := s.stp (o := .lst ys) hn
    exact p _ ps _ z (s.new hn) _ (by unfold Rep; exact ⟨l, ys, rfl, upd_same, rr.mono z.ext⟩)
  · exact p.elim

/-! isinstance -/
def tyName (M : Sto) : D → Option String
  | .non => some "NoneType"
  | .bl _ => some "bool"
  | .int _ => some "int"
  | .str _ => some "str"
  | .lst _ => some "list"
  | .fz _ => some "list"
  | .tup _ => some "tuple"
  | .ft _ => some "tuple"
  | .dic _ _ => some "dict"
  | .ptr n => match M[n]? with
    | some (.lst _) => some "list"
    | some (.frz (.lst _)) => some "list"
    | _ => none
  | _ => none
theorem sqL_ty {K : PySem.W.Frag} {H : Hp} {a : Addr} {xs : List V} (h : SqL K H a xs) : TyX K H (.ref a) (.type "list") := by
  rcases h with (h | ⟨o, h⟩) | ⟨o, its, n, hk, hc, _⟩
  · exact .base (.lst h)
  · exact .base (.frz h)
  · exact .kList hk hc
theorem sqT_ty {K : PySem.W.Frag} {H : Hp} {a : Addr} {xs : List V} (h : SqT K H a xs) : TyX K H (.ref a) (.type "tuple") := by
  rcases h with (h | ⟨o, h⟩) | ⟨o, its, n, hk, hc, _⟩
  · exact .base (.tup h)
  · exact .fTuple h
  · exact .kTuple hk hc
theorem tyName_of {K : PySem.W.Frag} {G : Hp} {ps : List Addr} {M : Sto} {H : Hp} (s : Sto0 K G ps M H) {d : D} {v : V} {n : String} (r : Rep K G ps d v) (e : tyName M d = some n) : TyX K H v (.type n) := by
  cases d with
  | non => unfold Rep at r; cases e; subst r; exact .base .non
  | bl b => unfold Rep at r; cases e; subst r; exact .base (.bl b)
  | int i => unfold Rep at r; cases e; subst r; exact .base (.int i)
  | str y => unfold Rep at r; cases e; subst r; exact .base (.str y)
  | lst ds => unfold Rep at r; cases e; obtain ⟨a, xs, e1, g, _⟩ := r; subst e1; exact .base (.lst (s.sub _ _ g))
  | fz ds => unfold Rep at r; cases e; obtain ⟨a, xs, e1, g, _⟩ := r; subst e1; exact sqL_ty (s.seqL g)
  | tup ds => unfold Rep at r; cases e; obtain ⟨a, xs, e1, g, _⟩ := r; subst e1; exact .base (.tup (s.sub _ _ g))
  | ft ds => unfold Rep at r; cases e; obtain ⟨a, xs, e1, g, _⟩ := r; subst e1; exact sqT_ty (s.seqT g)
  | dic ks ds => unfold Rep at r; cases e; obtain ⟨a, kvs, e1, g, _⟩ := r; subst e1; exact .base (.dK (s.sub _ _ g))
  | ptr m =>
    dsimp only [tyName] at e
    have q : ∃ ds, asSeq M (.ptr m) = some ds ∧ n = "list" := by
      dsimp only [asSeq]
      split at e <;> first
        | (cases e; exact ⟨_, rfl, rfl⟩)
        | (cases e; rename_i z; rw [z]; exact ⟨_, rfl, rfl⟩)
        | cases e
    obtain ⟨ds, q, e2⟩ := q
    subst e2
    obtain ⟨a, xs, e1, hs, _⟩ := asSeq_lst s r q rfl
    subst e1
    exact sqL_ty hs
  | ty _ => cases e
  | obj _ => cases e
  | ins _ _ _ => cases e
def tyNames : List D → Option (List String)
  | [] => some []
  | .ty b :: r => (tyNames r).map (b :: ·)
  | _ :: _ => none
def kitBs (a : String) : List String → Option Bool
  | [] => some false
  | b :: r => match kitB a b with
    | some true => some true
    | some false => kitBs a r
    | none => none
def isiB (n : String) : D → Option Bool
  | .ty c => kitB n c
  | .tup cs => (tyNames cs).bind (kitBs n)
  | _ => none
def dIsi : List D → C D
  | [x, c] => fun M => match (tyName M x).bind fun n => isiB n c with
    | some b => .ok (.bl b) M
    | none => .bad
  | _ => C.bad
theorem tyNames_of {K : PySem.W.Frag} {G : Hp} {ps : List Addr} : ∀ {cs : List D} {xs : List V} {ns : List String}, Reps K G ps cs xs → tyNames cs = some ns → Paired ClsV xs (ns.map Value.type)
  | [], xs, ns, r, e => by unfold Reps at r; subst r; cases e; exact .nil
  | c :: cs, xs, ns, r, e => by
    obtain ⟨v, r', e1, r1, r2⟩ := r.uncons
    subst e1
    cases c with
    | ty m =>
      unfold Rep at r1
      subst r1
      obtain ⟨ms, q, e⟩ := Option.map_eq_some_iff.mp e
      subst e
      exact .cons (.ty m) (tyNames_of r2 q)
    | _ => cases e
theorem kitBs_of {K : PySem.W.Frag} {n : String} : ∀ {ns : List String} {b : Bool}, kitBs n ns = some b → PySem.W.kitAny K (.type n) (ns.map Value.type) = some b
  | [], b, e => by cases e; exact kitAny_nil
  | m :: ns, b, e => by
    dsimp only [kitBs] at e
    cases q : kitB n m with
    | none => rw [q] at e; cases e
    | some c =>
      rw [q] at e
      cases c with
      | true => cases e; exact kitAny_cons (kit_ty q) (fun z => nomatch z) (fun _ => rfl)
      | false => exact kitAny_cons (kit_ty q) (fun _ => kitBs_of e) (fun z => nomatch z)
abbrev rIsiA (K : PySem.W.Frag) : List V → Hp → VK → Prop := fun xs H Q => rIsi K xs H Q ∨ rIsiT K xs H Q
theorem call_isiA : CallR X (.builtin "isinstance") (rIsiA X.K) := fun pins s σ H vs us Q I r q => by
  rcases q with q | q
  · exact call_isi pins s σ H vs us Q I r q
  · exact call_isiT pins s σ H vs us Q I r q
theorem isi_D : CallD X W dIsi (rIsiA X.K) := fun σ vs H Q h => by
  obtain ⟨G, ps, M, xs, s, r, p⟩ := h.out
  unfold dIsi at p
  split at p
  · rename_i d c
    obtain ⟨v, u, e, r1, r2⟩ := r.two; subst e
    split at p
    · rename_i b q
      obtain ⟨n, q1, q2⟩ := Option.bind_eq_some_iff.mp q
      have ty := tyName_of s r1 q1
      have fin := p G ps H Stp.refl s (.bl b) Rep.bl_of
      cases c with
      | ty m =>
        unfold Rep at r2; subst r2
        exact .inl ⟨v, .ty m, _, _, b, rfl, .ty m, ty, kit_ty q2, fin⟩
      | tup cs =>
        unfold Rep at r2
        obtain ⟨a, ys, e, hs, rr⟩ := r2
        subst e
        obtain ⟨ns, q3, q4⟩ := Option.bind_eq_some_iff.mp q2
        exact .inr ⟨v, a, ys, _, _, b, rfl, s.sub _ _ hs, tyNames_of rr q3, ty, kitBs_of q4, fin⟩
      | _ => cases q2
    · exact p.elim
  · exact p.elim

/-! repr -/
def reprOk (q : PyData) : Bool := q.showable && !q.hasDict && decide (q.depth ≤ 60) && decide (q.shown.length ≤ sizeLine)
def rReprD (K : PySem.W.Frag) : List V → Hp → VK → Prop := fun xs H Q => (∃ x q, xs = [x] ∧ Dp K H x q ∧ reprOk q = true ∧ Q (.str q.shown) H) ∨ (∃ a, xs = [.ref a] ∧ H a = some (.dK []) ∧ Q (.str "{}") H)
theorem call_reprD (hg : X.A.guards = some []) (hu : X.A.units + 64 < cLine) : CallR X (.builtin "repr") (rReprD X.K) := fun pins s σ H vs us Q I r q => by
  rcases q with ⟨x, d, rfl, dp, ok, q⟩ | ⟨a, rfl, ha, q⟩
  · obtain ⟨u, rfl, ru⟩ := vals1 r
    unfold reprOk at ok
    simp only [Bool.and_eq_true, decide_eq_true_eq, Bool.not_eq_true'] at ok
    obtain ⟨⟨⟨o1, o2⟩, o3⟩, o4⟩ := ok
    obtain ⟨as, rd⟩ := dp.reads I d x u ru
    have big : ∀ a, u = .ref a → wpAny (model X.prog X.w) X.A (call (.builtin "repr") [u]) (EP X pins σ Q) X.xe s := fun a e => by
      subst e
      exact repr_of_reads' rd o1 (PyData.noDict_hsm o2) hg (by omega) (fun _ _ e => e) (fun h' t tk hk => ⟨.str d.shown, H, I.kept hk, ⟨t, rfl⟩, q⟩) o4
    cases d with
    | none => cases rd; exact P.repr_of_none ⟨.str _, H, I.tok _, ⟨_, rfl⟩, q⟩
    | bool b => cases rd; exact P.repr_of_bool ⟨.str _, H, I.tok _, ⟨_, rfl⟩, q⟩
    | int i => cases rd; exact P.repr_of_int (by simpa [PyData.showable] using o1) ⟨.str _, H, I.tok _, ⟨_, rfl⟩, q⟩
    | str y => cases rd; exact P.repr_of_str ⟨.str _, H, I.tok _, ⟨_, rfl⟩, q⟩ o4
    | list ds => cases rd; exact big _ rfl
    | tuple ds => cases rd; exact big _ rfl
    | dict _ => simp [PyData.hasDict] at o2
  · obtain ⟨u, rfl, ru⟩ := vals1 r
    cases ru
    obtain ⟨_, hsy, kv, hkv, o, es, ep, h1, h2, h3, h4, h5, _⟩ := (show ObjOk X.prog X.w H s.heap a (.dK []) from I.hok a _ ha)
    cases hkv
    have hes : es = #[] := by simpa using h5.length
    subst hes
    have rd : Reads s.heap (.ref a) (.dict []) [a] := Reads.dict (as := []) (bs := []) h1 h2.1 h3 .nil .nil
    exact repr_of_reads' rd rfl (fun _ => by simpa using (beq_eq_false_iff_ne.mp hsy).symm) hg (Nat.lt_of_le_of_lt (Nat.add_le_add_left (show (PyData.dict []).depth + 1 ≤ 64 by decide) _) hu) (fun _ _ e => e) (fun h' t tk hk => ⟨.str _, H, I.kept hk, ⟨t, rfl⟩, q⟩) (by decide +kernel)
def dRepr : List D → C D
  | [.dic [] []] => C.pure (.str "{}")
  | [d] => fun M => match pyM M d with
    | some q => if reprOk q = true then .ok (.str q.shown) M else .bad
    | none => .bad
  | _ => C.bad
theorem repr_D : CallD X W dRepr (rReprD X.K) := fun σ vs H Q h => by
  obtain ⟨G, ps, M, xs, s, r, p⟩ := h.out
  unfold dRepr at p
  split at p
  · obtain ⟨v, e, r1⟩ := r.one; subst e; unfold Rep at r1
    obtain ⟨a, kvs, e, g, e2, _⟩ := r1
    subst e
    have e3 : kvs = [] := List.map_eq_nil_iff.mp e2
    subst e3
    exact .inr ⟨a, rfl, s.sub _ _ g, p G ps H Stp.refl s _ Rep.str_of⟩
  · obtain ⟨v, e, r1⟩ := r.one; subst e
    dsimp only at p
    split at p
    · rename_i q hq
      split at p
      · rename_i ok
        exact .inl ⟨v, q, rfl, r1.dpM s hq, ok, p G ps H Stp.refl s _ Rep.str_of⟩
      · exact p.elim
    · exact p.elim
  · exact p.elim
end
end DL
end
section
set_option Elab.async false
set_option linter.all false
set_option maxRecDepth 100000
set_option maxHeartbeats 1000000
namespace DL
open PySem PySem.Spec PyProof.Rows L2
/-! ### places and slices -/
theorem Reps.atI {K : PySem.W.Frag} {G : Hp} {ps : List Addr} {ds : List D} {xs : List V} {i : Int} {d : D} (r : Reps K G ps ds xs) (h : L2.atI ds i = some d) : ∃ v, L2.atI xs i = some v ∧ Rep K G ps d v := by
  unfold L2.atI at h ⊢
  rw [← r.len]
  obtain ⟨j, e, h⟩ := Option.bind_eq_some_iff.mp h
  rw [e]
  exact r.get h
/-- a value's item, where there is one -/
def C.opt (o : Option D) : C D := C.of o
def dIx : D → D → C D
  | .str z, .int i => if z.length ≤ sizeLine then C.of ((L2.atI z.cps.toList i).map fun c => .str ⟨#[c]⟩) else C.bad
  | d, .int i => withSeq d fun ds => C.of (L2.atI ds i)
  | _, _ => C.bad
/-- xs[lo:hi] -/
def cut (ds : List D) (lo hi : Option Int) : List D := (ds.drop (HT.sIx ds.length 0 lo)).take (HT.sIx ds.length ds.length hi - HT.sIx ds.length 0 lo)
theorem Reps.cut {K : PySem.W.Frag} {G : Hp} {ps : List Addr} {ds : List D} {xs : List V} (r : Reps K G ps ds xs) (lo hi : Option Int) : Reps K G ps (DL.cut ds lo hi) (cutV xs lo hi) := by
  unfold DL.cut cutV
  rw [← r.len]
  exact (r.drop _).take _
def dSl (d : D) (lo hi : Option Int) : C D :=
  match d with
  | .str z => if z.length ≤ sizeLine then C.pure (.str (cutS z lo hi)) else C.bad
  | .tup ds => C.pure (.tup (cut ds lo hi))
  | .ft _ => C.bad
  | d => withSeq d fun ds => C.pure (.lst (cut ds lo hi))
section
variable {X : Cx} {W : WX} {a b : Expr} {f g : Env → C D} {pos p2 : Pos}
theorem post_of {K : PySem.W.Frag} {P : PP D} {σ : L2.St} {G : Hp} {ps : List Addr} {H : Hp} {M : Sto} {o : Option D} (h : Post K W σ P G ps H (C.of o M)) : ∃ d, o = some d ∧ Post K W σ P G ps H (C.pure d M) := by
  cases o with
  | none => exact h.elim
  | some d => exact ⟨d, rfl, h⟩
theorem ix_D : OpD X W dIx (rIx X.K) := fun σ v u H Q h => by
  obtain ⟨G, ps, M, x, y, s, r1, r2, p⟩ := h.out
  unfold dIx at p
  split at p
  · unfold Rep at r1 r2; subst r1; subst r2
    split at p
    · rename_i hz
      obtain ⟨d, e, p⟩ := post_of p
      obtain ⟨c, e1, e2⟩ := Option.map_eq_some_iff.mp e
      subst e2
      exact .inr (.inr ⟨_, _, c, rfl, rfl, hz, e1, p G ps H Stp.refl s _ Rep.str_of⟩)
    · exact p.elim
  · unfold Rep at r2; subst r2
    obtain ⟨ds, q, p⟩ := withSeq_out p
    obtain ⟨d, e, p⟩ := post_of p
    obtain ⟨a, xs, e1, hs, rr⟩ := asSeq_rep s r1 q
    obtain ⟨w, e2, rw'⟩ := rr.atI e
    have fin := p G ps H Stp.refl s w rw'
    rcases hs with hs | hs
    · exact .inl ⟨a, xs, _, w, e1, rfl, hs, e2, fin⟩
    · exact .inr (.inl ⟨a, xs, _, w, e1, rfl, hs, e2, fin⟩)
  · exact p.elim
theorem de_ix (ha : DE X W a f) (hb : DE X W b g) (hs : PlainIx b := by exact fun _ _ => rfl) : DE X W (.Subscript a b pos) (dB dIx f g) := pe_imp (pe_ix ix_seq ha hb hs) (tOp_of ix_D)
/-- a part of a slice -/
abbrev DPt (X : Cx) (W : WX) (e : Option Expr) (f : Env → C (Option Int)) : Prop := PO X e fun σ H Q => TDp X.K W (fun o _ _ _ H' => Q o H') f σ H
def pNo : Env → C (Option Int) := fun _ => C.pure none
def asIo : D → C (Option Int)
  | .int i => C.pure (some i)
  | _ => C.bad
def pSo (f : Env → C D) : Env → C (Option Int) := fun ρ => C.bind (f ρ) asIo
theorem po_imp {e : Option Expr} {t t' : TO} (h : PO X e t) (i : ∀ σ H Q, t' σ H Q → t σ H Q) : PO X e t' := ⟨fun pins s σ H Q I q => h.run pins s σ H Q I (i σ H Q q)⟩
theorem dp_no : DPt X W none pNo := po_imp po_none fun σ H Q h => by
  obtain ⟨ρ, G, ps, M, s, e, p⟩ := h
  exact p G ps H Stp.refl s
theorem dp_so (ha : DE X W a f) : DPt X W (some a) (pSo f) := po_imp (po_some ha) fun σ H Q h => td_mono (seq1 (k := fun _ x => asIo x) h) fun v H1 h2 => by
  obtain ⟨G, ps, M, x, s, r1, p⟩ := h2.out
  unfold asIo at p
  split at p
  · unfold Rep at r1
    exact ⟨_, r1, p G ps H1 Stp.refl s⟩
  · exact p.elim
abbrev rSlAll (K : PySem.W.Frag) : V → Option Int → Option Int → Hp → VK → Prop := fun x lo hi H Q => rSlA K x lo hi H Q ∨ rSlL K x lo hi H Q ∨ rSlS x lo hi H Q
theorem sl_all : SlR X (rSlAll X.K) := sl_tupA.or (sl_list.or sl_str)
def dSlice (f : Env → C D) (l u : Env → C (Option Int)) : Env → C D := fun ρ => C.bind (f ρ) fun x => C.bind (l ρ) fun lo => C.bind (u ρ) fun hi => dSl x lo hi
theorem cut_whole {ds : List D} {lo hi : Option Int} (h : HT.sIx ds.length 0 lo = 0 ∧ HT.sIx ds.length ds.length hi = ds.length) : cut ds lo hi = ds := by
  unfold cut
  rw [h.1, h.2, List.drop_zero, Nat.sub_zero, List.take_length]
theorem de_slice {lo hi : Option Expr} {l u : Env → C (Option Int)} (ha : DE X W a f) (hl : DPt X W lo l) (hu : DPt X W hi u) : DE X W (.Subscript a (.Slice lo hi none p2) pos) (dSlice f l u) :=
  pe_imp (pe_slice sl_all ha hl hu) fun σ H Q h => td_mono (seq1 (k := fun ρ x => C.bind (l ρ) fun lo => C.bind (u ρ) fun hi => dSl x lo hi) h) fun v H1 h2 => by
    obtain ⟨ρ, G, ps, M, x, s, e, r, p⟩ := h2
    refine ⟨ρ, G, ps, M, s, e, post_bind (k := fun lo => C.bind (u ρ) fun hi => dSl x lo hi) p fun lo M1 G1 ps1 H2 _ st1 s1 p1 => ?_⟩
    refine ⟨ρ, G1, ps1, M1, s1, e.mono st1.ext, post_bind (k := fun hi => dSl x lo hi) p1 fun hi M2 G2 ps2 H3 _ st2 s2 p2 => ?_⟩
    have r2 := (r.mono st1.ext).mono st2.ext
    unfold dSl at p2
    split at p2
    · unfold Rep at r2; subst r2
      split at p2
      · rename_i hz
        exact .inr (.inr ⟨_, rfl, hz, p2 G2 ps2 H3 Stp.refl s2 _ Rep.str_of⟩)
      · exact p2.elim
    · unfold Rep at r2
      obtain ⟨a, xs, e1, g1, q1⟩ := r2
      subst e1
      refine .inl ⟨a, xs, rfl, .inl (.inl (s2.sub _ _ g1)), fun hw => ?_, fun _ l hl => ?_⟩
      · rw [← q1.len] at hw
        rw [cut_whole hw] at p2
        exact p2 G2 ps2 H3 Stp.refl s2 _ (by unfold Rep; exact ⟨a, xs, rfl, g1, q1⟩)
      · have z := s2.stp (o := .tup (cutV xs lo hi)) hl
        exact p2 _ ps2 _ z (s2.new hl) _ (by unfold Rep; exact ⟨l, _, rfl, upd_same, (q1.mono z.ext).cut lo hi⟩)
    · exact p2.elim
    · rename_i d hstr htup hft
      obtain ⟨ds, q, p2⟩ := withSeq_out p2
      have hl : isLst x = true := by
        cases x with
        | tup ds => exact (htup _ rfl).elim
        | ft ds => exact (hft _ rfl).elim
        | lst _ => rfl
        | fz _ => rfl
        | ptr _ => rfl
        | _ => cases q
      obtain ⟨a, xs, e1, hs, rr⟩ := asSeq_lst s2 r2 q hl
      subst e1
      refine .inr (.inl ⟨a, xs, rfl, hs, fun l hl => ?_⟩)
      have z := s2.stp (o := .lst (cutV xs lo hi)) hl
      exact p2 _ ps2 _ z (s2.new hl) _ (by unfold Rep; exact ⟨l, _, rfl, upd_same, (rr.mono z.ext).cut lo hi⟩)
/-- fixed from now on -/
def freezeD : D → C D
  | .ptr n => fun M => match M[n]? with
    | some (.lst ds) => .ok (.lst ds) (M.set n (.frz (.lst ds)))
    | some (.frz d) => .ok d M
    | none => .bad
  | d => C.pure d
def dFrz (f : Env → C D) : Env → C D := fun ρ => C.bind (f ρ) freezeD
theorem freeze_td {K : PySem.W.Frag} {Q : VK} {σ : L2.St} {H : Hp} (h : TD K W (dFrz f) σ H Q) : TD K W f σ H Q := td_mono (seq1 (k := fun _ x => freezeD x) h) fun v H1 h2 => by
  obtain ⟨G, ps, M, x, s, r1, p⟩ := h2.out
  unfold freezeD at p
  split at p
  · rename_i n
    unfold Rep at r1
    obtain ⟨a, e, hp⟩ := r1
    subst e
    split at p
    · rename_i ds hm
      obtain ⟨a', G', e2, x, s', r⟩ := s.freeze hm
      have : a' = a := Option.some.inj (e2.symm.trans hp)
      subst this
      exact p G' ps H1 x s' _ r
    · rename_i d hm
      obtain ⟨a', e2, r⟩ := s.mem n _ hm
      have : a' = a := Option.some.inj (e2.symm.trans hp)
      subst this
      exact p G ps H1 Stp.refl s _ r
    · exact p.elim
  · exact p G ps H1 Stp.refl s v r1
theorem de_frz (ha : DE X W a f) : DE X W a (dFrz f) := pe_imp ha fun σ H Q h => freeze_td h
end

/-! ### a def's promise over data -/
def spD (K : PySem.W.Frag) (F : List D → C D) : Sp := fun vs H Q E => ∃ G ps M ds, Sto0 K G ps M H ∧ Reps K G ps ds vs ∧ Post K (fun c d _ H' => E c d H') [] (PD K Q) G ps H (F ds M)
structure FnG (P : Program) (w : World) (K : PySem.W.Frag) (mg : Str → Option Value) (base : Heap) (k : Nat) (f : Addr) (fd : FuncData) (ps : List Str) (F : List D → C D) : Prop where
  len : ∀ ds M, F ds M ≠ .bad → ds.length = ps.length
  go : ∀ (A : Around) (outer : List PySem.Env) (s : Shared) (H : Hp) (args : Args) (us : List Value) (vs : List V) (Q : VK) (E : XK), A.guards = some [] → Room k A → Env0 P w K mg base A outer s H → BindsTo s fd args (ps.zip us) → Vals vs us → spD K F vs H Q E →
    codeAny (model P w) A (.call (.ref f) args) (CR (L2.CX P w) outer P w H s Q E) s
theorem FnG.lens {P : Program} {w : World} {K : PySem.W.Frag} {mg : Str → Option Value} {base : Heap} {k : Nat} {f : Addr} {fd : FuncData} {ps : List Str} {F : List D → C D} (g : FnG P w K mg base k f fd ps F) {vs : List V} {H : Hp} {Q : VK} {E : XK} (h : spD K F vs H Q E) : vs.length = ps.length := by
  obtain ⟨G, ps', M, ds, s, r, p⟩ := h
  rw [← r.len]
  refine g.len ds M fun z => ?_
  rw [z] at p
  exact p
theorem FnG.mono {P : Program} {w : World} {K : PySem.W.Frag} {mg : Str → Option Value} {base : Heap} {j k : Nat} {f : Addr} {fd : FuncData} {ps : List Str} {F : List D → C D} (g : FnG P w K mg base j f fd ps F) (h : j ≤ k) : FnG P w K mg base k f fd ps F :=
  ⟨g.len, fun A outer s H args us vs Q E hg hr => g.go A outer s H args us vs Q E hg (hr.mono h)⟩
/-- a def of the text that keeps a promise: where it stands, how it is called -/
structure FnAt (P : Program) (w : World) (K : PySem.W.Frag) (mg : Str → Option Value) (base : Heap) (k : Nat) (st : Stmt) (x : Str) (ps : List Str) (F : List D → C D) : Prop where
  ex : ∃ f fd, mg x = some (.ref f) ∧ Fun K x x st f fd ∧ Binds K fd ps [] ∧ FnG P w K mg base k f fd ps F
section
variable {X : Cx} {W : WX} {k : Nat} {st : Stmt} {x : Str} {ps : List Str} {F : List D → C D} {p pos : Pos} {e : Expr} {es : List Expr} {g : Env → C (List D)}
theorem pass_of {E : XK} {σ : L2.St} (tk : Takes X W) (hE : ∀ c d H, E c d H → W c d σ H) : PassesAt (L2.CX X.prog X.w) X σ E := fun _ _ _ e s' I c => tk e s' (XE.of_call I (fun _ _ _ h => hE _ _ _ h) c)
theorem run_G {pins : List (Addr × Obj)} {σ : L2.St} {H : Hp} {s : Shared} {Q : VK} {args : Args} {us : List Value} {vs : List V} {f : Addr} {fd : FuncData} (hF : FnG X.prog X.w X.K X.mg X.base k f fd ps F) (hr : Room k X.A) (hG : X.A.guards = some []) (tk : Takes X W) (hb : BindsTo s fd args (ps.zip us))
    (I : L2.Inv X pins σ H s) (r : Vals vs us) (h : spD X.K F vs H Q (fun c d H' => W c d σ H')) : wpAny (model X.prog X.w) X.A (PySem.call (.ref f) args.pos args.kw) (EP X pins σ Q) X.xe s := by
  refine wpAny_call (codeAny_mono (hF.go X.A X.stack s H args us vs Q _ hG hr I.env0 hb r h) fun q s' hq => ?_)
  cases q with
  | error er => exact pass_of tk (fun _ _ _ h => h) pins H s er s' I hq
  | ok fl =>
    cases fl with
    | ret u => exact I.after hq
    | next => exact False.elim hq
    | brk => exact False.elim hq
    | cont => exact False.elim hq
end
end DL
end
section
set_option Elab.async false
set_option linter.all false
set_option maxRecDepth 100000
set_option maxHeartbeats 1000000
namespace DL
open PySem PySem.Spec PyProof.Rows L2
section
variable {X : Cx} {W : WX} {k : Nat} {st : Stmt} {x : Str} {ps ks : List Str} {F : List D → C D} {p pos kpos : Pos} {e : Expr} {es : List Expr} {g h : Env → C (List D)} {kws : List Keyword} {nm : Option Str}
theorem FnAt.mono {P : Program} {w : World} {K : PySem.W.Frag} {mg : Str → Option Value} {base : Heap} {j k : Nat} (h : FnAt P w K mg base j st x ps F) (hl : j ≤ k) : FnAt P w K mg base k st x ps F := by
  obtain ⟨f, fd, a, b, c, d⟩ := h.ex
  exact ⟨f, fd, a, b, c, d.mono hl⟩
theorem spD_of {G : Hp} {sps : List Addr} {M : Sto} {xs : List D} {vs : List V} {H : Hp} {Q : VK} {σ : L2.St} (s : Sto0 X.K G sps M H) (r : Reps X.K G sps xs vs) (q : Post X.K W σ (PD X.K Q) G sps H (F xs M)) : spD X.K F vs H Q (fun c d H' => W c d σ H') := by
  refine ⟨G, sps, M, xs, s, r, ?_⟩
  cases z : F xs M with
  | ok d M' => rw [z] at q; exact q
  | err c fn ds M' => rw [z] at q; exact q
  | bad => rw [z] at q; exact q
/-- f(e, ..) -/
theorem de_call (hF : FnAt X.prog X.w X.K X.mg X.base k st x ps F) (hr : Room k X.A) (hG : X.A.guards = some []) (tk : Takes X W) (ha : DA X W (e :: es) g) (hg : Gl X x) (hdb : (x == ("__debug__" : Str)) = false := by decide)
    (he : starEach (e :: es) X.env = (false, eval e X.env) :: starEach es X.env := by rfl) (hpl : (backTo pos (starEach es X.env)).any (·.1) = false := by rfl) : DE X W (.Call (.Name x p) (e :: es) [] pos) (cB F g) := by
  obtain ⟨f, fd, hm, hf, hb, hF⟩ := hF.ex
  refine ⟨fun pins s σ H Q I q => ?_⟩
  refine wpAny_Call_Name_kw (ld_glob I hg hm ?_ hdb)
  refine PySem.W.callWith_K (h₀ := X.base) I.ok.mod.kin hf.kp (thn (ha.run pos pins s σ H _ I (seqL (k := fun _ xs => F xs) q)) fun us s1 ⟨vs, H1, I1, r, q1⟩ => ⟨I1.kIn, ?_⟩) he hpl
  obtain ⟨G, sps, M, xs, s0, rr, q2⟩ := q1.out
  have sp := spD_of (W := W) (F := F) s0 rr q2
  have hl := hF.lens sp
  have hb1 := hb s1 us I1.kIn (by rw [List.append_nil, ← r.length]; exact hl)
  rw [List.append_nil] at hb1
  exact run_G (args := ⟨us, []⟩) hF hr hG tk hb1 I1 r sp
/-- keywords' values -/
abbrev DK (X : Cx) (W : WX) (kws : List Keyword) (f : Env → C (List D)) : Prop := PK X kws (TDs X.K W f)
theorem pk_imp {kws : List Keyword} {t t' : TA} (h : PK X kws t) (i : ∀ σ H Q, t' σ H Q → t σ H Q) : PK X kws t' := ⟨fun po pins s σ H Q I q => h.run po pins s σ H Q I (i σ H Q q)⟩
theorem dk_nil : DK X W [] aNil := pk_imp pk_nil fun σ H Q h => by
  obtain ⟨ρ, G, ps, M, s, e, p⟩ := h
  exact p G ps H Stp.refl s [] Reps.nil
theorem dk_cons {f : Env → C D} (ha : DE X W e f) (hb : DK X W kws g) : DK X W (⟨nm, e, kpos⟩ :: kws) (aCons f g) :=
  pk_imp (pk_cons ha hb) fun σ H Q q => td_mono (seq1 (k := fun ρ x => C.bind (g ρ) fun xs => C.pure (x :: xs)) q) fun v H1 h2 =>
    tds_mono (At1.nextL (k := fun _ x xs => C.pure (x :: xs)) h2) fun us H2 ⟨ρ, G, ps, M, x, ys, s, e, r, rs, p⟩ => p G ps H2 Stp.refl s _ (Reps.cons r rs)
/-- f(e, .., k = v, ..): how the keywords bind: o tells for each parameter where its value stands among the positional values and the keywords' -/
def pickAll {α : Type} (xs : List α) : List Nat → Option (List α)
  | [] => some []
  | i :: is => match xs[i]?, pickAll xs is with
    | some x, some r => some (x :: r)
    | _, _ => none
theorem pick_vals {xs : List V} {us : List Value} (r : Vals xs us) : ∀ {o : List Nat} {ys : List V}, pickAll xs o = some ys → ∃ ws, pickAll us o = some ws ∧ Vals ys ws
  | [], ys, e => by cases e; exact ⟨[], rfl, .nil⟩
  | i :: is, ys, e => by
    dsimp only [pickAll] at e
    cases q1 : xs[i]? with
    | none => rw [q1] at e; cases e
    | some x =>
      cases q2 : pickAll xs is with
      | none => rw [q1, q2] at e; cases e
      | some r' =>
        rw [q1, q2] at e
        cases e
        obtain ⟨u, hu, ru⟩ := r.get q1
        obtain ⟨ws, hw, rw'⟩ := pick_vals r q2
        refine ⟨u :: ws, ?_, .cons ru rw'⟩
        dsimp only [pickAll]
        rw [hu, hw]
theorem pick_reps {K : PySem.W.Frag} {G : Hp} {sp : List Addr} {ds : List D} {xs : List V} (r : Reps K G sp ds xs) : ∀ {o : List Nat} {es : List D}, pickAll ds o = some es → ∃ ys, pickAll xs o = some ys ∧ Reps K G sp es ys
  | [], es, e => by cases e; exact ⟨[], rfl, Reps.nil⟩
  | i :: is, es, e => by
    dsimp only [pickAll] at e
    cases q1 : ds[i]? with
    | none => rw [q1] at e; cases e
    | some x =>
      cases q2 : pickAll ds is with
      | none => rw [q1, q2] at e; cases e
      | some r' =>
        rw [q1, q2] at e
        cases e
        obtain ⟨u, hu, ru⟩ := r.get q1
        obtain ⟨ws, hw, rw'⟩ := pick_reps r q2
        refine ⟨u :: ws, ?_, Reps.cons ru rw'⟩
        dsimp only [pickAll]
        rw [hu, hw]
/-- how a def binds a call with so many positional values and these keywords -/
def KwB (st : Stmt) (x : Str) (ps ks : List Str) (n : Nat) (o : List Nat) : Prop := ∀ (kV doc pm : Value) (an : Option Addr) (cdv ct : Value) (us ws zs : List Value), us.length = n → ws.length = ks.length → pickAll (us ++ ws) o = some zs →
  bindArgs (PySem.W.fnOf x x (defArgs st) (defBody st) (defScope st) .none kV doc pm an cdv ct) ⟨us, ks.zip ws⟩ = pure (ps.zip zs)
def cK (F : List D → C D) (n m : Nat) (o : List Nat) (g h : Env → C (List D)) : Env → C D := fun ρ => C.bind (g ρ) fun xs => C.bind (h ρ) fun ys => if xs.length = n ∧ ys.length = m then (match pickAll (xs ++ ys) o with
  | some zs => F zs
  | none => C.bad) else C.bad
theorem call_kw {n : Nat} {o : List Nat} {f : Addr} {fd : FuncData} {us ws : List Value} {s : Shared} {σ : L2.St} {H : Hp} {pins : List (Addr × Obj)} {Q : VK} {vs zs : List V} (hf : Fun X.K x x st f fd) (hF : FnG X.prog X.w X.K X.mg X.base k f fd ps F) (hr : Room k X.A) (hG : X.A.guards = some []) (tk : Takes X W) (hkb : KwB st x ps ks n o)
    (I : L2.Inv X pins σ H s) (r : Vals vs us) (r2 : Vals zs ws)
    (q : ∃ ρ G sps M xs ys, Sto0 X.K G sps M H ∧ Slots X.K G sps ρ σ ∧ Reps X.K G sps xs vs ∧ Reps X.K G sps ys zs ∧ Post X.K W σ (PD X.K Q) G sps H ((if xs.length = n ∧ ys.length = ks.length then (match pickAll (xs ++ ys) o with
      | some zs => F zs
      | none => C.bad) else C.bad) M)) : wpAny (model X.prog X.w) X.A (PySem.call (.ref f) us (ks.zip ws)) (EP X pins σ Q) X.xe s := by
  obtain ⟨ρ, G, sps, M, xs, ys, s0, sl, rx, ry, p⟩ := q
  split at p
  · rename_i hl
    split at p
    · rename_i es he
      obtain ⟨ts, e1, rt⟩ := pick_reps (rx.append ry) he
      obtain ⟨us', e2, ru⟩ := pick_vals (r.append r2) e1
      have sp := spD_of (W := W) (F := F) s0 rt p
      have hb : BindsTo s fd ⟨us, ks.zip ws⟩ (ps.zip us') := by
        obtain ⟨oc, od, kV, doc, pm, an, cdv, ct, osl, rfl, lk, hcd⟩ := hf.ex
        exact .of_eq (hkb kV doc pm an cdv ct us ws us' (by rw [← r.length, ← rx.len]; exact hl.1) (by rw [← r2.length, ← ry.len]; exact hl.2) e2)
      exact run_G (args := ⟨us, ks.zip ws⟩) hF hr hG tk hb I ru sp
    · exact p.elim
  · exact p.elim
theorem de_callK {n : Nat} {o : List Nat} (hF : FnAt X.prog X.w X.K X.mg X.base k st x ps F) (hr : Room k X.A) (hG : X.A.guards = some []) (tk : Takes X W) (hkb : KwB st x ps ks n o) (ha : DA X W (e :: es) g) (hkw : DK X W kws h) (hg : Gl X x)
    (hall : (backToKw pos (keywordEach kws X.env)).all (·.1.isSome) = true := by rfl) (hks : (backToKw pos (keywordEach kws X.env)).filterMap (·.1) = ks := by rfl)
    (hdb : (x == ("__debug__" : Str)) = false := by decide) (he : starEach (e :: es) X.env = (false, eval e X.env) :: starEach es X.env := by rfl)
    (hpl : ((backTo pos (starEach (e :: es) X.env)).any (·.1) || (backToKw pos (keywordEach kws X.env)).any (·.1.isNone)) = false := by rfl) : DE X W (.Call (.Name x p) (e :: es) kws pos) (cK F n ks.length o g h) := by
  obtain ⟨f, fd, hm, hf, hb, hF⟩ := hF.ex
  refine ⟨fun pins s σ H Q I q => ?_⟩
  refine wpAny_Call_Name_kw (ld_glob I hg hm ?_ hdb)
  refine PySem.W.callWith_KW (h₀ := X.base) I.ok.mod.kin hf.kp hall (thn (ha.run pos pins s σ H _ I (seqL (k := fun ρ xs => C.bind (h ρ) fun ys => if xs.length = n ∧ ys.length = ks.length then (match pickAll (xs ++ ys) o with
    | some zs => F zs
    | none => C.bad) else C.bad) q)) fun us s1 ⟨vs, H1, I1, r, q1⟩ => ?_) hpl he
  obtain ⟨ρ, G, sps, M, xs, s0, sl, rx, p⟩ := q1
  refine thn (hkw.run pos pins s1 σ H1 _ I1 ⟨ρ, G, sps, M, s0, sl, post_bind (R := PDs X.K fun zs H2 => ∃ ρ G sps M xs ys, Sto0 X.K G sps M H2 ∧ Slots X.K G sps ρ σ ∧ Reps X.K G sps xs vs ∧ Reps X.K G sps ys zs ∧ Post X.K W σ (PD X.K Q) G sps H2 ((if xs.length = n ∧ ys.length = ks.length then (match pickAll (xs ++ ys) o with
      | some zs => F zs
      | none => C.bad) else C.bad) M)) p fun ys M' G' ps' H' _ y s' p' zs rz => ⟨ρ, G', ps', M', xs, ys, s', sl.mono y.ext, rx.mono y.ext, rz, p'⟩⟩) fun ws s2 ⟨zs, H2, I2, rz, q2⟩ => ⟨I2.kIn, ?_⟩
  rw [hks]
  exact call_kw hf hF hr hG tk hkb I2 r rz q2
/-- f(k = v, ..) -/
theorem de_callK0 {o : List Nat} (hF : FnAt X.prog X.w X.K X.mg X.base k st x ps F) (hr : Room k X.A) (hG : X.A.guards = some []) (tk : Takes X W) (hkb : KwB st x ps ks 0 o) (hkw : DK X W kws h) (hg : Gl X x)
    (hall : (backToKw pos (keywordEach kws X.env)).all (·.1.isSome) = true := by rfl) (hks : (backToKw pos (keywordEach kws X.env)).filterMap (·.1) = ks := by rfl)
    (hdb : (x == ("__debug__" : Str)) = false := by decide) (hpl : (backToKw pos (keywordEach kws X.env)).any (·.1.isNone) = false := by rfl) : DE X W (.Call (.Name x p) [] kws pos) (cK F 0 ks.length o aNil h) := by
  obtain ⟨f, fd, hm, hf, hb, hF⟩ := hF.ex
  refine ⟨fun pins s σ H Q I q => ?_⟩
  refine wpAny_Call_Name_kw (ld_glob I hg hm ?_ hdb)
  refine PySem.W.callWith_KW0 (h₀ := X.base) I.ok.mod.kin hf.kp hall ?_ hpl
  obtain ⟨ρ, G, sps, M, s0, sl, p⟩ := q
  refine thn (hkw.run pos pins s σ H _ I ⟨ρ, G, sps, M, s0, sl, post_bind (R := PDs X.K fun zs H2 => ∃ ρ G sps M xs ys, Sto0 X.K G sps M H2 ∧ Slots X.K G sps ρ σ ∧ Reps X.K G sps xs [] ∧ Reps X.K G sps ys zs ∧ Post X.K W σ (PD X.K Q) G sps H2 ((if xs.length = 0 ∧ ys.length = ks.length then (match pickAll (xs ++ ys) o with
      | some zs => F zs
      | none => C.bad) else C.bad) M)) p fun ys M' G' ps' H' _ y s' p' zs rz => ⟨ρ, G', ps', M', [], ys, s', sl.mono y.ext, Reps.nil, rz, p'⟩⟩) fun ws s2 ⟨zs, H2, I2, rz, q2⟩ => ?_
  rw [hks]
  exact ⟨I2.kIn, call_kw hf hF hr hG tk hkb I2 .nil rz q2⟩
end
end DL
end
section
set_option Elab.async false
set_option linter.all false
set_option maxRecDepth 100000
set_option maxHeartbeats 1000000
namespace DL
open PySem PySem.Spec PyProof.Rows L2
/-! ### statements -/
inductive Out where
  | nx (ρ : Env) | rt (d : D) | bk (ρ : Env) | ct (ρ : Env) | ex (c : Addr) (fn : List Str) (ds : List D) (ρ : Env)
abbrev SF := Env → C Out
/-- what is wanted behind an outcome -/
def PO' (K : PySem.W.Frag) (W : WX) (Dn : Ends) : PP Out := fun o G ps M H => match o with
  | .nx ρ => ∀ σ, Slots K G ps ρ σ → Dn.nx σ H
  | .bk ρ => ∀ σ, Slots K G ps ρ σ → Dn.bk σ H
  | .ct ρ => ∀ σ, Slots K G ps ρ σ → Dn.ct σ H
  | .rt d => ∀ v, Rep K G ps d v → Dn.rt v H
  | .ex c fn ds ρ => ∀ σ dd, Slots K G ps ρ σ → ErrAt K G ps H dd fn ds → W (.ref c) (some dd) σ H
def W0 : WX := fun _ _ _ _ => False
/-- a statement's computation lets nothing out by err -/
def PSt (K : PySem.W.Frag) (P : PP Out) (G : Hp) (ps : List Addr) (H : Hp) (r : Res Out) : Prop := Post K W0 [] P G ps H r
abbrev TSD (K : PySem.W.Frag) (W : WX) (f : SF) : TS := fun Dn σ H => ∃ ρ G ps M, Sto0 K G ps M H ∧ Slots K G ps ρ σ ∧ PSt K (PO' K W Dn) G ps H (f ρ M)
abbrev DS (X : Cx) (W : WX) (st : Stmt) (f : SF) : Prop := PS X st (TSD X.K W f)
abbrev DSs (X : Cx) (W : WX) (st : List Stmt) (f : SF) : Prop := PSs X st (TSD X.K W f)
/-- an expression within a statement -/
def lift {α : Type} (e : Env → C α) (k : Env → α → C Out) : SF := fun ρ M => match e ρ M with
  | .ok a M' => k ρ a M'
  | .err c fn ds M' => .ok (.ex c fn ds ρ) M'
  | .bad => .bad
theorem pst_ok {K : PySem.W.Frag} {P : PP Out} {G : Hp} {ps : List Addr} {H : Hp} {M : Sto} {o : Out} (h : PSt K P G ps H (.ok o M)) (s : Sto0 K G ps M H) : P o G ps M H := h G ps H Stp.refl s
section
variable {X : Cx} {W : WX} {α : Type}
theorem lift_post {P : PP α} {Dn : Ends} {e : Env → C α} {k : Env → α → C Out} {σ : L2.St} {H : Hp} (h : TSD X.K W (lift e k) Dn σ H)
    (hk : ∀ ρ a G ps M H', Sto0 X.K G ps M H' → Slots X.K G ps ρ σ → PSt X.K (PO' X.K W Dn) G ps H' (k ρ a M) → P a G ps M H') : TDp X.K W P e σ H := by
  obtain ⟨ρ, G, ps, M, s, sl, p⟩ := h
  refine ⟨ρ, G, ps, M, s, sl, ?_⟩
  unfold lift at p
  cases q : e ρ M with
  | ok a M' =>
    rw [q] at p
    exact fun G' ps' H' st s' => hk ρ a G' ps' M' H' s' (sl.mono st.ext) (Post.ext st p)
  | err c fn ds M' =>
    rw [q] at p
    exact fun dd G' ps' H' st s' er => (p G' ps' H' st s') σ dd (sl.mono st.ext) er
  | bad => rw [q] at p; exact p
variable {st : Stmt} {rest : List Stmt} {t u : SF} {e : Expr} {f : Env → C D} {pos pos' : Pos}
def sNx : SF := fun ρ => C.pure (.nx ρ)
def sSeq (t u : SF) : SF := fun ρ M => match t ρ M with
  | .ok (.nx ρ') M' => u ρ' M'
  | r => r
theorem dss_nil : DSs X W [] sNx := pss_imp pss_nil fun Dn σ H h => by
  obtain ⟨ρ, G, ps, M, s, sl, p⟩ := h
  exact pst_ok p s σ sl
theorem seq_post {Dn : Ends} {σ : L2.St} {H : Hp} (h : TSD X.K W (sSeq t u) Dn σ H) : TSD X.K W t { Dn with nx := TSD X.K W u Dn } σ H := by
  obtain ⟨ρ, G, ps, M, s, sl, p⟩ := h
  refine ⟨ρ, G, ps, M, s, sl, ?_⟩
  unfold sSeq at p
  split at p
  · rename_i ρ' M' q
    rw [q]
    exact fun G' ps' H' sp s' σ' sl' => ⟨ρ', G', ps', M', s', sl', Post.ext sp p⟩
  · rename_i r hr
    cases q : t ρ M with
    | ok o M' =>
      rw [q] at p
      cases o with
      | nx ρ' => exact (hr ρ' M' q).elim
      | rt d => exact p
      | bk ρ' => exact p
      | ct ρ' => exact p
      | ex c fn ds ρ' => exact p
    | err c fn ds M' => rw [q] at p; exact p
    | bad => rw [q] at p; exact p
theorem dss_cons (h1 : DS X W st t) (h2 : DSs X W rest u) : DSs X W (st :: rest) (sSeq t u) := pss_imp (pss_cons h1 h2) fun Dn σ H h => seq_post h
theorem dss_one (h1 : DS X W st t) : DSs X W [st] t := pss_one h1
theorem ds_pass : DS X W (.Pass pos) sNx := ps_imp ps_pass fun Dn σ H h => by
  obtain ⟨ρ, G, ps, M, s, sl, p⟩ := h
  exact pst_ok p s σ sl
def sBk : SF := fun ρ => C.pure (.bk ρ)
def sCt : SF := fun ρ => C.pure (.ct ρ)
theorem ds_break : DS X W (.Break pos) sBk := ps_imp ps_break fun Dn σ H h => by
  obtain ⟨ρ, G, ps, M, s, sl, p⟩ := h
  exact pst_ok p s σ sl
theorem ds_continue : DS X W (.Continue pos) sCt := ps_imp ps_continue fun Dn σ H h => by
  obtain ⟨ρ, G, ps, M, s, sl, p⟩ := h
  exact pst_ok p s σ sl
theorem ds_doc {x j} : DS X W (.Expr (.Constant (.str x) j pos) pos') sNx := ps_imp ps_doc fun Dn σ H h => by
  obtain ⟨ρ, G, ps, M, s, sl, p⟩ := h
  exact pst_ok p s σ sl
/-- code that is not come to -/
def sBad : SF := fun _ => C.bad
theorem ds_never : DS X W st sBad := ps_imp ps_never fun Dn σ H h => by
  obtain ⟨ρ, G, ps, M, s, sl, p⟩ := h
  exact p.elim
def sEx (f : Env → C D) : SF := lift f fun ρ _ => C.pure (.nx ρ)
theorem ds_expr (he : DE X W e f) (hs : swapsWith e none pos.line X.env = pure false := by rfl) : DS X W (.Expr e pos) (sEx f) := ps_imp (ps_expr he hs) fun Dn σ H h =>
  lift_post h fun ρ a G ps M H' s sl p v r => pst_ok p s σ sl
def sRt (f : Env → C D) : SF := lift f fun _ d => C.pure (.rt d)
theorem ds_ret (he : DE X W e f) : DS X W (.Return (some e) pos) (sRt f) := ps_imp (ps_ret he) fun Dn σ H h =>
  lift_post h fun ρ a G ps M H' s sl p v r => pst_ok p s v r
def sRtN : SF := fun _ => C.pure (.rt .non)
theorem ds_retN : DS X W (.Return none pos) sRtN := ps_imp ps_retN fun Dn σ H h => by
  obtain ⟨ρ, G, ps, M, s, sl, p⟩ := h
  exact pst_ok p s .non Rep.non_of
def sIf (c : Env → C Bool) (t u : SF) : SF := lift c fun ρ b => if b = true then t ρ else u ρ
theorem ds_if {c : Expr} {a b : List Stmt} {tc : Env → C Bool} (hc : DT X W c tc) (ha : DSs X W a t) (hb : DSs X W b u) : DS X W (.If c a b pos) (sIf tc t u) := ps_imp (ps_if hc ha hb) fun Dn σ H h =>
  lift_post h fun ρ b G ps M H' s sl p => by
    cases b with
    | true => exact ⟨ρ, G, ps, M, s, sl, p⟩
    | false => exact ⟨ρ, G, ps, M, s, sl, p⟩
/-! targets -/
/-- a pattern of slots -/
inductive Pat where
  | nm (i : Nat) | tp (l : List Pat)
mutual
def Pat.put (M : Sto) : Pat → D → Env → Option Env
  | .nm i, d, ρ => some (ρ.set i (some d))
  | .tp l, d, ρ => match asSeq M d with
    | some ds => Pat.puts M l ds ρ
    | none => none
def Pat.puts (M : Sto) : List Pat → List D → Env → Option Env
  | [], [], ρ => some ρ
  | p :: l, d :: ds, ρ => match Pat.put M p d ρ with
    | some ρ' => Pat.puts M l ds ρ'
    | none => none
  | _, _, _ => none
end
mutual
def Pat.slots : Pat → List Nat
  | .nm i => [i]
  | .tp l => Pat.slotss l
def Pat.slotss : List Pat → List Nat
  | [] => []
  | p :: l => Pat.slots p ++ Pat.slotss l
end
/-- the same but for these slots -/
def Agree (q : List Nat) (σ σ' : L2.St) : Prop := σ'.length = σ.length ∧ ∀ j, j ∉ q → σ'[j]? = σ[j]?
theorem Agree.refl {q : List Nat} {σ : L2.St} : Agree q σ σ := ⟨rfl, fun _ _ => rfl⟩
theorem Agree.set {i : Nat} {σ : L2.St} {v : Option V} : Agree [i] σ (σ.set i v) := ⟨by rw [List.length_set], fun j h => by rw [List.getElem?_set_ne fun z => h (by rw [z]; simp)]⟩
theorem Agree.app {p q : List Nat} {σ σ1 σ2 : L2.St} (a : Agree p σ σ1) (b : Agree q σ1 σ2) : Agree (p ++ q) σ σ2 :=
  ⟨b.1.trans a.1, fun j h => by rw [List.mem_append, not_or] at h; rw [b.2 j h.2, a.2 j h.1]⟩
/-- a target stores as its pattern says -/
def gD (K : PySem.W.Frag) (q : Pat) : TG := fun v σ H Q => ∃ ρ G ps M d ρ', Sto0 K G ps M H ∧ Slots K G ps ρ σ ∧ Rep K G ps d v ∧ q.put M d ρ = some ρ' ∧ ∀ σ', Slots K G ps ρ' σ' → Agree q.slots σ σ' → Q σ' H
def DG (X : Cx) (target : Expr) (q : Pat) : Prop := PG X target (gD X.K q)
def DGs (X : Cx) (ts : List Expr) (q : List Pat) : Prop := PGs X ts fun vs σ H Q => ∃ ρ G ps M ds ρ', Sto0 X.K G ps M H ∧ Slots X.K G ps ρ σ ∧ Reps X.K G ps ds vs ∧ Pat.puts M q ds ρ = some ρ' ∧ ∀ σ', Slots X.K G ps ρ' σ' → Agree (Pat.slotss q) σ σ' → Q σ' H
theorem pg_imp {tg : Expr} {t t' : TG} (h : PG X tg t) (i : ∀ v σ H Q, t' v σ H Q → t v σ H Q) : PG X tg t' := ⟨fun pins s σ H v u Q I r q => h.run pins s σ H v u Q I r (i v σ H Q q)⟩
theorem pgs_imp {tg : List Expr} {t t' : TGs} (h : PGs X tg t) (i : ∀ v σ H Q, t' v σ H Q → t v σ H Q) : PGs X tg t' := ⟨fun pins s σ H v u Q I r q => h.run pins s σ H v u Q I r (i v σ H Q q)⟩
theorem pg_or {tg : Expr} {t t' : TG} (h : PG X tg t) (h' : PG X tg t') : PG X tg (fun v σ H Q => t v σ H Q ∨ t' v σ H Q) := ⟨fun pins s σ H v u Q I r q => q.elim (h.run pins s σ H v u Q I r) (h'.run pins s σ H v u Q I r)⟩
theorem Slots.set {K : PySem.W.Frag} {G : Hp} {ps : List Addr} {ρ : Env} {σ : L2.St} {i : Nat} {d : D} {v : V} (h : Slots K G ps ρ σ) (r : Rep K G ps d v) (hi : i < σ.length) : Slots K G ps (ρ.set i (some d)) (σ.set i (some v)) := fun j d' e => by
  by_cases z : i = j
  · subst z
    have hl : i < ρ.length := by
      have := (List.getElem?_eq_some_iff.mp e).1
      rwa [List.length_set] at this
    rw [List.getElem?_set_self hl] at e
    cases e
    exact ⟨v, List.getElem?_set_self hi, r⟩
  · rw [List.getElem?_set_ne z] at e
    obtain ⟨v', a, b⟩ := h j d' e
    exact ⟨v', by rw [List.getElem?_set_ne z]; exact a, b⟩
theorem dg_name (i : Nat) {x : Str} (hN : X.N.Nodup) (hi : X.N[i]? = some x := by rfl) (hx : Loc X.env.scope x := by first | exact Or.inl rfl | exact Or.inr rfl) (hf : X.fn x = true ∨ X.env.scope.names.lookup x = some .local := by first | exact .inl rfl | exact .inr rfl) : DG X (.Name x pos) (.nm i) := by
  have pg := pg_name (X := X) (pos := pos) hN hi hx hf
  refine ⟨fun pins s σ H v u Q I r q => ?_⟩
  obtain ⟨ρ, G, ps, M, d, ρ', s0, sl, rd, e, q⟩ := q
  refine pg.run pins s σ H v u Q I r ?_
  unfold Pat.put at e
  cases e
  exact q _ (sl.set rd (by rw [I.len]; exact (List.getElem?_eq_some_iff.mp hi).1)) Agree.set
theorem dgs_nil : DGs X [] [] := pgs_imp pgs_nil fun vs σ H Q h => by
  obtain ⟨ρ, G, ps, M, ds, ρ', s0, sl, rd, e, q⟩ := h
  cases ds with
  | nil =>
    unfold Reps at rd
    unfold Pat.puts at e
    cases e
    exact ⟨rd, q σ sl Agree.refl⟩
  | cons d ds => unfold Pat.puts at e; cases e
theorem dgs_cons {es : List Expr} {q : Pat} {l : List Pat} (h1 : DG X e q) (h2 : DGs X es l) (hs : (assignEach (e :: es) X.env).map (·.2) = assign e X.env :: (assignEach es X.env).map (·.2) := by rfl) : DGs X (e :: es) (q :: l) :=
  pgs_imp (pgs_cons h1 h2 hs) fun vs σ H Q h => by
    obtain ⟨ρ, G, ps, M, ds, ρ', s0, sl, rd, e, k⟩ := h
    cases ds with
    | nil => unfold Pat.puts at e; cases e
    | cons d ds =>
      obtain ⟨v, r, ev, r1, r2⟩ := rd.uncons
      unfold Pat.puts at e
      cases z : Pat.put M q d ρ with
      | none => rw [z] at e; cases e
      | some ρ1 =>
        rw [z] at e
        exact ⟨v, r, ev, ρ, G, ps, M, d, ρ1, s0, sl, r1, z, fun σ1 sl1 a1 => ⟨ρ1, G, ps, M, ds, ρ', s0, sl1, r2, e, fun σ2 sl2 a2 => k σ2 sl2 (by unfold Pat.slotss; exact a1.app a2)⟩⟩
theorem dg_tup {es : List Expr} {l : List Pat} {n : Nat} (hc : X.calm = true) (h : DGs X es l) (hn : (assignEach es X.env).length = l.length := by rfl) (hst : (assignEach es X.env).findIdx? (·.1) = none := by rfl) : DG X (.Tuple es n pos) (.tp l) :=
  pg_imp (pg_or (pg_tup hc h (n := l.length) hn hst) (pg_lst hc h (n := l.length) hn hst)) fun v σ H Q h => by
    obtain ⟨ρ, G, ps, M, d, ρ', s0, sl, rd, e, k⟩ := h
    unfold Pat.put at e
    cases z : asSeq M d with
    | none => rw [z] at e; cases e
    | some ds =>
      rw [z] at e
      obtain ⟨a, xs, ev, hs, rr⟩ := asSeq_rep s0 rd z
      have hl : ∀ {l : List Pat} {ds : List D} {ρ ρ' : Env}, Pat.puts M l ds ρ = some ρ' → ds.length = l.length := by
        intro l
        induction l with
        | nil => intro ds ρ ρ' e; cases ds with
          | nil => rfl
          | cons d ds => unfold Pat.puts at e; cases e
        | cons p l ih => intro ds ρ ρ' e; cases ds with
          | nil => unfold Pat.puts at e; cases e
          | cons d ds =>
            unfold Pat.puts at e
            cases z : Pat.put M p d ρ with
            | none => rw [z] at e; cases e
            | some ρ1 => rw [z] at e; rw [List.length_cons, List.length_cons, ih e]
      have hl := hl e
      rcases hs with hs | hs
      · exact .inr ⟨a, xs, ev, hs, by rw [← rr.len]; exact hl, ρ, G, ps, M, ds, ρ', s0, sl, rr, e, fun σ2 sl2 a2 => k σ2 sl2 (by unfold Pat.slots; exact a2)⟩
      · exact .inl ⟨a, xs, ev, hs, by rw [← rr.len]; exact hl, ρ, G, ps, M, ds, ρ', s0, sl, rr, e, fun σ2 sl2 a2 => k σ2 sl2 (by unfold Pat.slots; exact a2)⟩
def sAsg (f : Env → C D) (q : Pat) : SF := lift f fun ρ d M => match q.put M d ρ with
  | some ρ' => .ok (.nx ρ') M
  | none => .bad
theorem asg_post {q : Pat} {Dn : Ends} {σ : L2.St} {H : Hp} (h : TSD X.K W (sAsg f q) Dn σ H) : TD X.K W f σ H (fun v H1 => ∃ ρ G ps M d ρ', Sto0 X.K G ps M H1 ∧ Slots X.K G ps ρ σ ∧ Rep X.K G ps d v ∧ q.put M d ρ = some ρ' ∧ ∀ σ', Slots X.K G ps ρ' σ' → Agree q.slots σ σ' → Dn.nx σ' H1) :=
  lift_post h fun ρ d G ps M H' s sl p v r => by
    cases z : q.put M d ρ with
    | none => rw [z] at p; exact p.elim
    | some ρ' => rw [z] at p; exact ⟨ρ, G, ps, M, d, ρ', s, sl, r, z, fun σ' sl' _ => pst_ok p s σ' sl'⟩
theorem ds_asg {tg : Expr} {q : Pat} (he : DE X W e f) (hg : DG X tg q) (hs : swapsWithSole [tg] e pos.line X.env = pure false := by rfl) (hw : swappedStores [tg] e X.env = pure none := by rfl)
    (h1 : (assignEach [tg] X.env).map (·.2) = [assign tg X.env] := by rfl) : DS X W (.Assign [tg] e pos) (sAsg f q) := ps_imp (ps_asg he hg hs hw h1) fun Dn σ H h => asg_post h
/-- name = e -/
theorem ds_set (i : Nat) {x : Str} (hN : X.N.Nodup) (he : DE X W e f) (hi : X.N[i]? = some x := by rfl) (hx : Loc X.env.scope x := by first | exact Or.inl rfl | exact Or.inr rfl) (hs : swapsWith e (some (.Name x pos')) pos.line X.env = pure false := by rfl) (hf : X.fn x = true ∨ X.env.scope.names.lookup x = some .local := by first | exact .inl rfl | exact .inr rfl) :
    DS X W (.Assign [.Name x pos'] e pos) (sAsg f (.nm i)) := by
  have ps := ps_set (X := X) (pos := pos) (pos' := pos') hN hi hx he hs hf
  refine ⟨fun pins s σ H Dn I h => ps.run pins s σ H Dn I ?_⟩
  refine td_mono (asg_post h) fun v H1 h2 => ?_
  obtain ⟨ρ, G, ps, M, d, ρ', s0, sl, rd, e, q⟩ := h2
  unfold Pat.put at e
  cases e
  exact q _ (sl.set rd (by rw [I.len]; exact (List.getElem?_eq_some_iff.mp hi).1)) Agree.set
/-- a, b = x, y with plain names -/
def sPar (i j : Nat) (g : Env → C (List D)) : SF := lift g fun ρ ds => match ds with
  | [d, e] => C.pure (.nx ((ρ.set i (some d)).set j (some e)))
  | _ => C.bad
theorem ds_par (i j : Nat) {x y : Str} {a b : Expr} {g : Env → C (List D)} {px py pt : Pos} {kt k2 pt2} (hc : X.calm = true) (hN : X.N.Nodup) (ha : DA X W [a, b] g) (hi : X.N[i]? = some x := by rfl) (hj : X.N[j]? = some y := by rfl) (hij : i ≠ j := by decide)
    (hx : X.env.scope.names.lookup x = some .local := by rfl) (hy : X.env.scope.names.lookup y = some .local := by rfl)
    (hw : swappedStores [.Tuple [.Name x px, .Name y py] kt pt] (.Tuple [a, b] k2 pt2) X.env = pure (some [x, y]) := by rfl)
    (hs : swapsWithSole [.Tuple [.Name x px, .Name y py] kt pt] (.Tuple [a, b] k2 pt2) pos.line X.env = pure false := by rfl) : DS X W (.Assign [.Tuple [.Name x px, .Name y py] kt pt] (.Tuple [a, b] k2 pt2) pos) (sPar i j g) := by
  have ps := ps_par (X := X) (pos := pos) (px := px) (py := py) (kt := kt) (pt := pt) (k2 := k2) (pt2 := pt2) hc hN hi hj hij hx hy ha hw hs
  refine ⟨fun pins s σ H Dn I h => ps.run pins s σ H Dn I ?_⟩
  refine lift_post h fun ρ ds G ps M H' s sl p vs r => ?_
  split at p
  · obtain ⟨v, u, ev, r1, r2⟩ := r.two
    have hli := (List.getElem?_eq_some_iff.mp hi).1
    have hlj := (List.getElem?_eq_some_iff.mp hj).1
    exact ⟨v, u, ev, pst_ok p s _ ((sl.set r1 (by rw [I.len]; exact hli)).set r2 (by rw [List.length_set, I.len]; exact hlj))⟩
  · exact p.elim
/-- o[i] = v -/
def setAt (o i v : D) : C Out → C Out := fun k M => match o, i with
  | .ptr n, .int z => match M[n]? with
    | some (.lst ds) => match ixN ds.length z with
      | some j => k (M.set n (.lst (ds.set j v)))
      | none => .bad
    | _ => .bad
  | _, _ => .bad
/-- values of expressions, one after another, within a statement -/
def LA1 (K : PySem.W.Frag) (W : WX) (k : Env → D → C Out) (Dn : Ends) (σ : L2.St) (v : V) (H : Hp) : Prop := ∃ ρ G ps M x, Sto0 K G ps M H ∧ Slots K G ps ρ σ ∧ Rep K G ps x v ∧ PSt K (PO' K W Dn) G ps H (k ρ x M)
def LA2 (K : PySem.W.Frag) (W : WX) (k : Env → D → D → C Out) (Dn : Ends) (σ : L2.St) (v u : V) (H : Hp) : Prop := ∃ ρ G ps M x y, Sto0 K G ps M H ∧ Slots K G ps ρ σ ∧ Rep K G ps x v ∧ Rep K G ps y u ∧ PSt K (PO' K W Dn) G ps H (k ρ x y M)
def LA3 (K : PySem.W.Frag) (W : WX) (k : Env → D → D → D → C Out) (Dn : Ends) (σ : L2.St) (v u t : V) (H : Hp) : Prop := ∃ ρ G ps M x y z, Sto0 K G ps M H ∧ Slots K G ps ρ σ ∧ Rep K G ps x v ∧ Rep K G ps y u ∧ Rep K G ps z t ∧ PSt K (PO' K W Dn) G ps H (k ρ x y z M)
theorem lift_go {α : Type} {e : Env → C α} {k : Env → α → C Out} {ρ : Env} {M : Sto} {G : Hp} {ps : List Addr} {H : Hp} {σ : L2.St} {Dn : Ends} {P : PP α} (sl : Slots X.K G ps ρ σ) (p : PSt X.K (PO' X.K W Dn) G ps H (lift e k ρ M))
    (hk : ∀ a M' G' ps' H', Stp G ps H G' ps' H' → Sto0 X.K G' ps' M' H' → PSt X.K (PO' X.K W Dn) G' ps' H' (k ρ a M') → P a G' ps' M' H') : Post X.K W σ P G ps H (e ρ M) := by
  unfold lift at p
  cases q : e ρ M with
  | ok a M' =>
    rw [q] at p
    exact fun G' ps' H' st s' => hk a M' G' ps' H' st s' (Post.ext st p)
  | err c fn ds M' =>
    rw [q] at p
    exact fun dd G' ps' H' st s' er => (p G' ps' H' st s') σ dd (sl.mono st.ext) er
  | bad => rw [q] at p; exact p
theorem lift1 {e : Env → C D} {k : Env → D → C Out} {σ : L2.St} {H : Hp} {Dn : Ends} (h : TSD X.K W (lift e k) Dn σ H) : TD X.K W e σ H (LA1 X.K W k Dn σ) := by
  obtain ⟨ρ, G, ps, M, s, sl, p⟩ := h
  exact ⟨ρ, G, ps, M, s, sl, lift_go sl p fun a M' G' ps' H' st s' p' v r => ⟨ρ, G', ps', M', a, s', sl.mono st.ext, r, p'⟩⟩
theorem lift2 {e : Env → C D} {k : Env → D → D → C Out} {σ : L2.St} {v : V} {H : Hp} {Dn : Ends} (h : LA1 X.K W (fun ρ x => lift e (fun ρ' y => k ρ' x y) ρ) Dn σ v H) : TD X.K W e σ H (LA2 X.K W k Dn σ v) := by
  obtain ⟨ρ, G, ps, M, x, s, sl, r, p⟩ := h
  exact ⟨ρ, G, ps, M, s, sl, lift_go (k := fun ρ' y => k ρ' x y) sl p fun a M' G' ps' H' st s' p' u r' => ⟨ρ, G', ps', M', x, a, s', sl.mono st.ext, r.mono st.ext, r', p'⟩⟩
theorem lift3 {e : Env → C D} {k : Env → D → D → D → C Out} {σ : L2.St} {v u : V} {H : Hp} {Dn : Ends} (h : LA2 X.K W (fun ρ x y => lift e (fun ρ' z => k ρ' x y z) ρ) Dn σ v u H) : TD X.K W e σ H (LA3 X.K W k Dn σ v u) := by
  obtain ⟨ρ, G, ps, M, x, y, s, sl, r, r2, p⟩ := h
  exact ⟨ρ, G, ps, M, s, sl, lift_go (k := fun ρ' z => k ρ' x y z) sl p fun a M' G' ps' H' st s' p' t r' => ⟨ρ, G', ps', M', x, y, a, s', sl.mono st.ext, r.mono st.ext, r2.mono st.ext, r', p'⟩⟩
def sSub (f o i : Env → C D) : SF := lift f fun ρ v => lift o (fun ρ x => lift i (fun ρ y => setAt x y v (C.pure (.nx ρ))) ρ) ρ
end
end DL
end
section
set_option Elab.async false
set_option linter.all false
set_option maxRecDepth 100000
set_option maxHeartbeats 1000000
namespace DL
open PySem PySem.Spec PyProof.Rows L2
theorem ixN_lt {n : Nat} {k : Int} {j : Nat} (h : ixN n k = some j) : j < n := by
  unfold ixN at h
  split at h
  · split at h
    · cases h; omega
    · cases h
  · split at h
    · cases h; omega
    · cases h
section
variable {X : Cx} {W : WX} {α : Type}
variable {a b c o' : Expr} {f o i : Env → C D} {pos tpos : Pos}
theorem ds_sub (he : DE X W c f) (ho : DE X W a o) (hi : DE X W b i)
    (ha : ∀ v, assign (.Subscript a b tpos) X.env v = (do
      let ov ← holding [v] (eval a X.env)
      let iv ← holding [v, ov] (eval b X.env)
      standAt tpos
      holding [v, ov, iv] (setItem ov iv v)
      release [v, ov, iv] []) := by intro _; rfl) (hs : swapsWithSole [.Subscript a b tpos] c pos.line X.env = pure false := by rfl) (hw : swappedStores [.Subscript a b tpos] c X.env = pure none := by rfl)
    (h1 : (assignEach [.Subscript a b tpos] X.env).map (·.2) = [assign (.Subscript a b tpos) X.env] := by rfl) : DS X W (.Assign [.Subscript a b tpos] c pos) (sSub f o i) :=
  ps_imp (ps_asg he (pg_sub ho hi set_list ha) hs hw h1) fun Dn σ H h =>
    td_mono (lift1 h) fun v H1 h2 => td_mono (lift2 (k := fun ρ v x => lift i (fun ρ y => setAt x y v (C.pure (.nx ρ))) ρ) h2) fun ov H2 h3 =>
      td_mono (lift3 (k := fun ρ v x y => setAt x y v (C.pure (.nx ρ))) h3) fun iv H3 h4 => by
        obtain ⟨ρ, G, ps, M, x, y, z, s, sl, r1, r2, r3, p⟩ := h4
        replace p : PSt X.K (PO' X.K W Dn) G ps H3 (setAt y z x (C.pure (.nx ρ)) M) := p
        unfold setAt at p
        split at p
        · rename_i n k
          split at p
          · rename_i ds hm
            split at p
            · rename_i j hj
              unfold Rep at r2 r3
              obtain ⟨q, e, hp⟩ := r2
              subst e; subst r3
              obtain ⟨q', xs, e1, g1, h1', rr⟩ := s.mem n _ hm
              have : q' = q := Option.some.inj (e1.symm.trans hp)
              subst this
              refine ⟨q', xs, k, j, rfl, rfl, h1', by rw [← rr.len]; exact hj, ?_⟩
              have rr' := rr.set j r1
              exact p G ps _ (s.stpS hp) (s.set hm hp rr') σ sl
            · exact p.elim
          · exact p.elim
        · exact p.elim
/-! ### methods of built-in types -/
def chkTy (T : String) (x : D) : C Unit := fun M => if tyName M x = some T then .ok () M else .bad
def mB (T : String) (k : D → List D → C D) (o : Env → C D) (g : Env → C (List D)) : Env → C D := fun ρ => C.bind (o ρ) fun x => C.bind (chkTy T x) fun _ => C.bind (g ρ) fun xs => k x xs
def mB0 (T : String) (k : D → List D → C D) (o : Env → C D) : Env → C D := fun ρ => C.bind (o ρ) fun x => C.bind (chkTy T x) fun _ => k x []
def MtD (X : Cx) (W : WX) (k : D → List D → C D) (r : V → List V → Hp → VK → Prop) : Prop := ∀ σ v vs H Q, (∃ G ps M x xs, Sto0 X.K G ps M H ∧ Rep X.K G ps x v ∧ Reps X.K G ps xs vs ∧ Post X.K W σ (PD X.K Q) G ps H (k x xs M)) → r v vs H Q
theorem tyV_of {K : PySem.W.Frag} {G : Hp} {ps : List Addr} {M : Sto} {H : Hp} (s : Sto0 K G ps M H) {d : D} {v : V} {T : String} (r : Rep K G ps d v) (e : tyName M d = some T) (hT : T = "str" ∨ T = "list" ∨ T = "dict" ∨ T = "int") (hd : ∀ ds, d ≠ .ft ds) : tyV K T v H := by
  cases d with
  | str y => unfold Rep at r; subst r; cases e; rfl
  | int y => unfold Rep at r; subst r; cases e; rfl
  | lst ds => unfold Rep at r; cases e; obtain ⟨a, xs, e1, g, _⟩ := r; subst e1; exact .inl ⟨rfl, xs, .inl (.inl (s.sub _ _ g))⟩
  | fz ds => unfold Rep at r; cases e; obtain ⟨a, xs, e1, g, _⟩ := r; subst e1; exact .inl ⟨rfl, xs, s.seqL g⟩
  | dic ks ds => unfold Rep at r; cases e; obtain ⟨a, kvs, e1, g, _⟩ := r; subst e1; exact .inr (.inr (.inl ⟨rfl, .inl ⟨kvs, s.sub _ _ g⟩⟩))
  | ptr m =>
    dsimp only [tyName] at e
    have q : ∃ ds, asSeq M (.ptr m) = some ds ∧ T = "list" := by
      dsimp only [asSeq]
      split at e <;> first
        | (cases e; exact ⟨_, rfl, rfl⟩)
        | (cases e; rename_i z; rw [z]; exact ⟨_, rfl, rfl⟩)
        | cases e
    obtain ⟨ds, q, e2⟩ := q
    subst e2
    obtain ⟨a, xs, e1, hs, _⟩ := asSeq_lst s r q rfl
    subst e1
    exact .inl ⟨rfl, xs, hs⟩
  | tup ds => cases e; rcases hT with h | h | h | h <;> exact absurd h (by decide)
  | ft ds => exact (hd ds rfl).elim
  | non => cases e; rcases hT with h | h | h | h <;> exact absurd h (by decide)
  | bl _ => cases e; rcases hT with h | h | h | h <;> exact absurd h (by decide)
  | ty _ => cases e
  | obj _ => cases e
  | ins _ _ _ => cases e
variable {es : List Expr} {g : Env → C (List D)} {name : Str} {apos cpos : Pos} {T id : String} {r : V → List V → Hp → VK → Prop} {k : D → List D → C D}
theorem chk_out {β : Type} {K : PySem.W.Frag} {P : PP β} {σ : L2.St} {G : Hp} {ps : List Addr} {H : Hp} {M : Sto} {x : D} {k : Unit → C β} (p : Post K W σ P G ps H (C.bind (chkTy T x) k M)) : tyName M x = some T ∧ Post K W σ P G ps H (k () M) := by
  unfold C.bind chkTy at p
  by_cases h : tyName M x = some T
  · rw [if_pos h] at p; exact ⟨h, p⟩
  · rw [if_neg h] at p; exact p.elim
theorem notft {M : Sto} {x : D} (h : tyName M x = some T) (hT : T = "str" ∨ T = "list" ∨ T = "dict" ∨ T = "int") : ∀ ds, x ≠ .ft ds := fun ds e => by
  subst e
  cases h
  rcases hT with h | h | h | h <;> exact absurd h (by decide)
theorem de_bm (pa : PlainAttrs T) (slot : Slot T name id) (hty : typeOf (.builtin id) = pure (.type "method_descriptor")) (hm : MtR X id r) (hk : MtD X W k r) (ho : DE X W o' o) (ha : DA X W (b :: es) g) (hT : T = "str" ∨ T = "list" ∨ T = "dict" ∨ T = "int" := by simp)
    (hbase : attributeBase o' name X.env (eval o' X.env) = eval o' X.env := by rfl)
    (hfew : ((backTo cpos (starEach (b :: es) X.env)).all (fun x => !x.1) && (backToKw cpos (keywordEach [] X.env)).all (fun x => x.1.isSome)
      && decide ((b :: es).length + ([] : List Keyword).length + (if ([] : List Keyword).isEmpty then 0 else 1) < 30)) = true := by rfl)
    (hline : (apos.endLine == cpos.line) = true := by rfl) (hs : starEach (b :: es) X.env = (false, eval b X.env) :: starEach es X.env := by rfl) (hplain : (backTo cpos (starEach es X.env)).any (·.1) = false := by rfl) :
    DE X W (.Call (.Attribute o' name apos) (b :: es) [] cpos) (mB T k o g) :=
  pe_imp (pe_bm pa slot hty hm ho ha hbase hfew hline hs hplain) fun σ H Q h => td_mono (seq1 (k := fun ρ x => C.bind (chkTy T x) fun _ => C.bind (g ρ) fun xs => k x xs) h) fun v H1 ⟨ρ, G, ps, M, x, s, sl, r1, p⟩ => by
    obtain ⟨hx, p⟩ := chk_out p
    exact ⟨tyV_of s r1 hx hT (notft hx hT), ρ, G, ps, M, s, sl, post_bind (k := fun xs => k x xs) p fun xs M' G' ps' H' _ st s' p' vs rs => hk σ v vs H' Q ⟨G', ps', M', x, xs, s', r1.mono st.ext, rs, p'⟩⟩
theorem de_bm0 (pa : PlainAttrs T) (slot : Slot T name id) (hty : typeOf (.builtin id) = pure (.type "method_descriptor")) (hm : MtR X id r) (hk : MtD X W k r) (ho : DE X W o' o) (hT : T = "str" ∨ T = "list" ∨ T = "dict" ∨ T = "int" := by simp)
    (hbase : attributeBase o' name X.env (eval o' X.env) = eval o' X.env := by rfl) (hline : (apos.endLine == cpos.line) = true := by rfl) :
    DE X W (.Call (.Attribute o' name apos) [] [] cpos) (mB0 T k o) :=
  pe_imp (pe_bm0 pa slot hty hm ho hbase hline) fun σ H Q h => td_mono (seq1 (k := fun ρ x => C.bind (chkTy T x) fun _ => k x []) h) fun v H1 ⟨ρ, G, ps, M, x, s, sl, r1, p⟩ => by
    obtain ⟨hx, p⟩ := chk_out p
    exact ⟨tyV_of s r1 hx hT (notft hx hT), hk σ v [] H1 Q ⟨G, ps, M, x, [], s, r1, Reps.nil, p⟩⟩
/-- xs.append(e) -/
def dApp : D → List D → C D := fun o es M => match o, es with
  | .ptr n, [e] => match M[n]? with
    | some (.lst ds) => if ds.length < sizeLine then .ok .non (M.set n (.lst (ds ++ [e]))) else .bad
    | _ => .bad
  | _, _ => .bad
theorem app_D : MtD X W dApp rAppend := fun σ v vs H Q h => by
  obtain ⟨G, ps, M, x, xs, s, r1, rs, p⟩ := h
  unfold dApp at p
  split at p
  · rename_i n e
    split at p
    · rename_i ds hm
      split at p
      · rename_i hz
        unfold Rep at r1
        obtain ⟨q, e1, hp⟩ := r1
        subst e1
        obtain ⟨y, e2, ry⟩ := rs.one
        subst e2
        obtain ⟨q', ys, e3, g1, h1, rr⟩ := s.mem n _ hm
        have : q' = q := Option.some.inj (e3.symm.trans hp)
        subst this
        exact ⟨q', ys, y, rfl, rfl, h1, by rw [← rr.len]; exact hz, p G ps _ (s.stpS hp) (s.set hm hp (rr.append (Reps.cons ry Reps.nil))) _ Rep.non_of⟩
      · exact p.elim
    · exact p.elim
  · exact p.elim
theorem de_append (ho : DE X W o' o) (ha : DA X W [b] g) (hbase : attributeBase o' "append" X.env (eval o' X.env) = eval o' X.env := by rfl)
    (hfew : ((backTo cpos (starEach [b] X.env)).all (fun x => !x.1) && (backToKw cpos (keywordEach [] X.env)).all (fun x => x.1.isSome)
      && decide ([b].length + ([] : List Keyword).length + (if ([] : List Keyword).isEmpty then 0 else 1) < 30)) = true := by rfl)
    (hline : (apos.endLine == cpos.line) = true := by rfl) (hs : starEach [b] X.env = (false, eval b X.env) :: starEach [] X.env := by rfl) (hplain : (backTo cpos (starEach [] X.env)).any (·.1) = false := by rfl) :
    DE X W (.Call (.Attribute o' "append" apos) [b] [] cpos) (mB "list" dApp o g) :=
  de_bm PySem.F.plainAttrs_list PySem.F.slot_list_append PySem.F.type_list_append mt_append app_D ho ha (by simp) hbase hfew hline hs hplain
end
end DL
end
section
set_option Elab.async false
set_option linter.all false
set_option maxRecDepth 100000
set_option maxHeartbeats 1000000
namespace DL
open PySem PySem.Spec PyProof.Rows L2
/-! ### while -/
def turnS (k : SF) (b : SF) : SF := fun ρ M => match b ρ M with
  | .ok (.nx ρ') M' => k ρ' M'
  | .ok (.ct ρ') M' => k ρ' M'
  | .ok (.bk ρ') M' => .ok (.nx ρ') M'
  | r => r
def whileN (t : Env → C Bool) (b : SF) : Nat → SF
  | 0 => sBad
  | n + 1 => lift t fun ρ c => if c = true then turnS (whileN t b n) b ρ else C.pure (.nx ρ)
open Classical in
noncomputable def whileS (t : Env → C Bool) (b : SF) : SF := fun ρ M => if h : ∃ n, whileN t b n ρ M ≠ .bad then whileN t b (Classical.choose h) ρ M else .bad
section
variable {X : Cx} {W : WX}
theorem turn_post {k b : SF} {Dn : Ends} {N : L2.St → Hp → Prop} {σ : L2.St} {H : Hp} (h : TSD X.K W (turnS k b) Dn σ H) (hN : ∀ σ' H', TSD X.K W k Dn σ' H' → N σ' H') : TSD X.K W b { Dn with nx := N, ct := N, bk := Dn.nx } σ H := by
  obtain ⟨ρ, G, ps, M, s, sl, p⟩ := h
  refine ⟨ρ, G, ps, M, s, sl, ?_⟩
  unfold turnS at p
  cases q : b ρ M with
  | ok o M' =>
    rw [q] at p
    cases o with
    | nx ρ' => exact fun G' ps' H' st s' σ' sl' => hN σ' H' ⟨ρ', G', ps', M', s', sl', Post.ext st p⟩
    | ct ρ' => exact fun G' ps' H' st s' σ' sl' => hN σ' H' ⟨ρ', G', ps', M', s', sl', Post.ext st p⟩
    | bk ρ' => exact p
    | rt d => exact p
    | ex c fn ds ρ' => exact p
  | err c fn ds M' => rw [q] at p; exact p
  | bad => rw [q] at p; exact p
theorem ds_while {c : Expr} {body : List Stmt} {t : Env → C Bool} {b : SF} {pos : Pos} (hp : PassesOwn (model X.prog X.w) X.A X.env X.xe) (hc : DT X W c t) (hb : DSs X W body b) : DS X W (.While c body [] pos) (whileS t b) :=
  ps_imp (ps_while hp hc hb) fun Dn σ H h => by
    refine ⟨fun m σ H => TSD X.K W (whileN t b m) Dn σ H, ?_, fun m σ H hm => ?_⟩
    · obtain ⟨ρ, G, ps, M, s, sl, p⟩ := h
      unfold whileS at p
      split at p
      · exact ⟨_, ρ, G, ps, M, s, sl, p⟩
      · exact p.elim
    · cases m with
      | zero => obtain ⟨ρ, G, ps, M, s, sl, p⟩ := hm; exact p.elim
      | succ n =>
        refine lift_post hm fun ρ b' G ps M H' s sl p => ?_
        cases b' with
        | true => exact ⟨fun σ' H' => TSD X.K W (whileN t b n) Dn σ' H', fun σ' H' q => ⟨n, Nat.lt_succ_self _, q⟩, turn_post ⟨ρ, G, ps, M, s, sl, p⟩ fun _ _ q => q⟩
        | false => exact pst_ok p s σ sl
end
/-! ### for -/
def forS (q : Pat) (b : SF) : List D → SF
  | [] => sNx
  | d :: ds => fun ρ M => match q.put M d ρ with
    | some ρ1 => turnS (forS q b ds) b ρ1 M
    | none => .bad
def sFor (it : Env → C (List D)) (q : Pat) (b : SF) : SF := lift it fun ρ ds => forS q b ds ρ
/-- an iterator that yields these -/
def Walks (K : PySem.W.Frag) (G : Hp) (ps : List Addr) (J : It) (ds : List D) : Prop :=
  ∀ (i : Nat) G' ps' (M' : Sto) H', Ext G ps G' ps' → Sto0 K G' ps' M' H' → (ds.length ≤ i → J.stop i H') ∧
    ∀ d, ds[i]? = some d → J.go i H' ∧ ∀ x H'', J.yld i H' x H'' → ∃ G'', Stp G' ps' H' G'' ps' H'' ∧ Sto0 K G'' ps' M' H'' ∧ Rep K G'' ps' d x
abbrev DI (X : Cx) (W : WX) (tg iter : Expr) (it : Env → C (List D)) : Prop := PI X tg iter fun σ H R => TDp X.K W (fun ds G ps _ H' => ∀ J, Walks X.K G ps J ds → R J H') it σ H
theorem pi_imp {X : Cx} {tg it : Expr} {t t' : TI} (h : PI X tg it t) (i : ∀ σ H Q, t' σ H Q → t σ H Q) : PI X tg it t' := ⟨fun pins s σ H Q I q => h.run pins s σ H Q I (i σ H Q q)⟩
theorem pi_or {X : Cx} {tg it : Expr} {t t' : TI} (h : PI X tg it t) (h' : PI X tg it t') : PI X tg it (fun σ H R => t σ H R ∨ t' σ H R) := ⟨fun pins s σ H Q I q => q.elim (h.run pins s σ H Q I) (h'.run pins s σ H Q I)⟩
section
variable {X : Cx} {W : WX} {tg iter e : Expr} {f : Env → C D} {it : Env → C (List D)}
theorem ds_for {q : Pat} {body : List Stmt} {b : SF} {pos : Pos} (hp : PassesOwn (model X.prog X.w) X.A X.env X.xe) (hc : X.calm = true) (hi : DI X W tg iter it) (hg : DG X tg q) (hb : DSs X W body b) (hs : ∀ x, foldedSetIterable iter X.env x = pure x := by intro _; rfl) :
    DS X W (.For tg iter body [] pos) (sFor it q b) := ps_imp (ps_for hp hc hi hg hb hs) fun Dn σ H h =>
  lift_post h fun ρ ds G ps M H1 s sl p J hJ => by
    refine ⟨fun i m σ H => m = ds.length - i ∧ ∃ ρ G' ps' M, Ext G ps G' ps' ∧ Sto0 X.K G' ps' M H ∧ Slots X.K G' ps' ρ σ ∧ PSt X.K (PO' X.K W Dn) G' ps' H (forS q b (ds.drop i) ρ M), ⟨_, rfl, ρ, G, ps, M, Ext.refl, s, sl, by rw [List.drop_zero]; exact p⟩, ?_⟩
    rintro i m σ H ⟨em, ρ, G', ps', M, x, s, sl, p⟩
    obtain ⟨w1, w2⟩ := hJ i G' ps' M H x s
    cases z : ds[i]? with
    | none =>
      have hl : ds.length ≤ i := List.getElem?_eq_none_iff.mp z
      rw [List.drop_eq_nil_of_le hl] at p
      exact .inl ⟨w1 hl, pst_ok p s σ sl⟩
    | some d =>
      obtain ⟨hi, e⟩ := List.getElem?_eq_some_iff.mp z
      obtain ⟨hgo, hy⟩ := w2 d z
      rw [List.drop_eq_getElem_cons hi, e] at p
      refine .inr ⟨hgo, fun σ' H' => ∃ ρ G' ps' M, Ext G ps G' ps' ∧ Sto0 X.K G' ps' M H' ∧ Slots X.K G' ps' ρ σ' ∧ PSt X.K (PO' X.K W Dn) G' ps' H' (forS q b (ds.drop (i + 1)) ρ M), fun σ' H' hn => ⟨ds.length - (i + 1), by omega, rfl, hn⟩, fun v H' y => ?_⟩
      obtain ⟨G2, st2, s2, r2⟩ := hy v H' y
      unfold forS at p
      cases z2 : q.put M d ρ with
      | none => rw [z2] at p; exact p.elim
      | some ρ1 =>
        rw [z2] at p
        refine ⟨ρ, G2, ps', M, d, ρ1, s2, sl.mono st2.ext, r2, z2, fun σ2 sl2 _ => ?_⟩
        have p2 : PSt X.K (PO' X.K W Dn) G2 ps' H' (turnS (forS q b (ds.drop (i + 1))) b ρ1 M) := Post.ext st2 p
        refine ⟨ρ1, G2, ps', M, s2, sl2, ?_⟩
        unfold turnS at p2
        have xx := x.trans st2.ext
        cases q3 : b ρ1 M with
        | ok o M' =>
          rw [q3] at p2
          cases o with
          | nx ρ' => exact fun G' ps' H' st s' σ' sl' => ⟨ρ', G', ps', M', xx.trans st.ext, s', sl', Post.ext st p2⟩
          | ct ρ' => exact fun G' ps' H' st s' σ' sl' => ⟨ρ', G', ps', M', xx.trans st.ext, s', sl', Post.ext st p2⟩
          | bk ρ' => exact p2
          | rt d => exact p2
          | ex c fn ds ρ' => exact p2
        | err c fn ds M' => rw [q3] at p2; exact p2
        | bad => rw [q3] at p2; exact p2
/-! what is walked -/
def items : D → C (List D)
  | .lst ds => C.pure ds
  | .fz ds => C.pure ds
  | .tup ds => C.pure ds
  | .ft ds => C.pure ds
  | _ => C.bad
def dIt (f : Env → C D) : Env → C (List D) := fun ρ => C.bind (f ρ) items
theorem walks_lst {K : PySem.W.Frag} {G : Hp} {ps : List Addr} {a : Addr} {xs : List V} {ds : List D} (h : SqL K G a xs) (r : Reps K G ps ds xs) : Walks K G ps (Itl K a) ds := fun i G' ps' M' H' x s => by
  have hs : SqL K H' a xs := s.seqL (x.seqL h)
  refine ⟨fun hl => ⟨xs, hs, by rw [← r.len]; exact hl⟩, fun d e => ?_⟩
  obtain ⟨v, e2, rv⟩ := r.get e
  refine ⟨⟨xs, v, hs, e2⟩, fun y H'' z => ?_⟩
  obtain ⟨z1, z2⟩ := z
  subst z1
  have := z2 xs hs
  rw [e2] at this
  cases this
  exact ⟨G', Stp.refl, s, rv.mono x⟩
theorem walks_tup {K : PySem.W.Frag} {G : Hp} {ps : List Addr} {a : Addr} {xs : List V} {ds : List D} (h : SqT K G a xs) (r : Reps K G ps ds xs) : Walks K G ps (Itt K a) ds := fun i G' ps' M' H' x s => by
  have hs : SqT K H' a xs := s.seqT (x.seqT h)
  refine ⟨fun hl => ⟨xs, hs, by rw [← r.len]; exact hl⟩, fun d e => ?_⟩
  obtain ⟨v, e2, rv⟩ := r.get e
  refine ⟨⟨xs, v, hs, e2⟩, fun y H'' z => ?_⟩
  obtain ⟨z1, z2⟩ := z
  subst z1
  have := z2 xs hs
  rw [e2] at this
  cases this
  exact ⟨G', Stp.refl, s, rv.mono x⟩
theorem di_seq (he : DE X W e f) : DI X W tg e (dIt f) := pi_imp (pi_or (pi_list he) (pi_tup he)) fun σ H R h => by
  obtain ⟨ρ, G, ps, M, s, sl, p⟩ := h
  have p : Post X.K W σ (fun ds G ps _ H' => ∀ J, Walks X.K G ps J ds → R J H') G ps H ((f ρ M).bind items) := p
  cases q : f ρ M with
  | bad => rw [q] at p; exact p.elim
  | err c fn ds M' => exact .inl ⟨ρ, G, ps, M, s, sl, by rw [q] at p ⊢; exact p⟩
  | ok d M' =>
    rw [q] at p
    have p : Post X.K W σ (fun ds G ps _ H' => ∀ J, Walks X.K G ps J ds → R J H') G ps H (items d M') := p
    cases d with
    | lst ds => exact .inl ⟨ρ, G, ps, M, s, sl, by
        rw [q]
        intro G' ps' H' st s' v r
        unfold Rep at r
        obtain ⟨a, xs, e, g, rr⟩ := r
        exact ⟨a, e, ⟨xs, .inl (.inl (s'.sub _ _ g))⟩, p G' ps' H' st s' _ (walks_lst (.inl (.inl g)) rr)⟩⟩
    | fz ds => exact .inl ⟨ρ, G, ps, M, s, sl, by
        rw [q]
        intro G' ps' H' st s' v r
        unfold Rep at r
        obtain ⟨a, xs, e, g, rr⟩ := r
        exact ⟨a, e, ⟨xs, s'.seqL g⟩, p G' ps' H' st s' _ (walks_lst g rr)⟩⟩
    | tup ds => exact .inr ⟨ρ, G, ps, M, s, sl, by
        rw [q]
        intro G' ps' H' st s' v r
        unfold Rep at r
        obtain ⟨a, xs, e, g, rr⟩ := r
        exact ⟨a, e, ⟨xs, .inl (.inl (s'.sub _ _ g))⟩, p G' ps' H' st s' _ (walks_tup (.inl (.inl g)) rr)⟩⟩
    | ft ds => exact .inr ⟨ρ, G, ps, M, s, sl, by
        rw [q]
        intro G' ps' H' st s' v r
        unfold Rep at r
        obtain ⟨a, xs, e, g, rr⟩ := r
        exact ⟨a, e, ⟨xs, s'.seqT g⟩, p G' ps' H' st s' _ (walks_tup g rr)⟩⟩
    | _ => exact p.elim
end
end DL
end
section
set_option Elab.async false
set_option linter.all false
set_option maxRecDepth 100000
set_option maxHeartbeats 1000000
namespace DL
open PySem PySem.Spec PyProof.Rows L2
/-! ### ranges -/
def rgI (lo : Int) (n : Nat) : List D := (List.range n).map fun i => D.int (lo + (i : Nat))
def rng1 : List D → C (List D)
  | [.int j] => if -(2 ^ 62) ≤ j ∧ j < 2 ^ 62 then C.pure (rgI 0 j.toNat) else C.bad
  | _ => C.bad
def rng2 : List D → C (List D)
  | [.int i, .int j] => if -(2 ^ 62) ≤ i ∧ i < 2 ^ 62 ∧ -(2 ^ 62) ≤ j ∧ j < 2 ^ 62 then C.pure (rgI i (j - i).toNat) else C.bad
  | _ => C.bad
theorem walks_rng {K : PySem.W.Frag} {G : Hp} {ps : List Addr} {lo : Int} {n : Nat} : Walks K G ps (Itr lo n) (rgI lo n) := fun i G' ps' M' H' x s => by
  refine ⟨fun hl => by unfold rgI at hl; rw [List.length_map, List.length_range] at hl; exact hl, fun d e => ?_⟩
  unfold rgI at e
  rw [List.getElem?_map] at e
  obtain ⟨j, e1, e2⟩ := Option.map_eq_some_iff.mp e
  obtain ⟨hj, e3⟩ := List.getElem?_eq_some_iff.mp e1
  rw [List.getElem_range] at e3
  subst e3; subst e2
  rw [List.length_range] at hj
  refine ⟨hj, fun y H'' z => ?_⟩
  obtain ⟨z1, z2⟩ := z
  subst z1; subst z2
  exact ⟨G', Stp.refl, s, Rep.int_of⟩
section
variable {X : Cx} {W : WX} {tg iter e a b : Expr} {f : Env → C D} {it : Env → C (List D)} {g : Env → C (List D)} {p pos : Pos}
def dRng (k : List D → C (List D)) (g : Env → C (List D)) : Env → C (List D) := fun ρ => C.bind (g ρ) k
theorem di_rng1 (ha : DA X W [a] g) (hg : Gl X "range") (hm : X.mg "range" = none) (hs : starEach [a] X.env = [(false, eval a X.env)] := by rfl) : DI X W tg (.Call (.Name "range" p) [a] [] pos) (dRng rng1 g) :=
  pi_imp (pi_range1 hg hm ha hs) fun σ H R h => tds_mono (seqL (P := fun ds G ps _ H' => ∀ J, Walks X.K G ps J ds → R J H') (k := fun _ xs => rng1 xs) h) fun vs H1 h2 => by
    obtain ⟨G, ps, M, xs, s, r, p⟩ := h2.out
    unfold rng1 at p
    split at p
    · obtain ⟨v, e, r1⟩ := r.one; subst e; unfold Rep at r1; subst r1
      split at p
      · rename_i hz
        exact ⟨_, rfl, hz.1, hz.2, p G ps H1 Stp.refl s _ walks_rng⟩
      · exact p.elim
    · exact p.elim
theorem di_rng2 (ha : DA X W [a, b] g) (hg : Gl X "range") (hm : X.mg "range" = none) (hs : starEach [a, b] X.env = [(false, eval a X.env), (false, eval b X.env)] := by rfl) (hs2 : starEach [b] X.env = [(false, eval b X.env)] := by rfl) :
    DI X W tg (.Call (.Name "range" p) [a, b] [] pos) (dRng rng2 g) :=
  pi_imp (pi_range2 hg hm ha hs hs2) fun σ H R h => tds_mono (seqL (P := fun ds G ps _ H' => ∀ J, Walks X.K G ps J ds → R J H') (k := fun _ xs => rng2 xs) h) fun vs H1 h2 => by
    obtain ⟨G, ps, M, xs, s, r, p⟩ := h2.out
    unfold rng2 at p
    split at p
    · obtain ⟨v, u, e, r1, r2⟩ := r.two; subst e; unfold Rep at r1 r2; subst r1; subst r2
      split at p
      · rename_i hz
        exact ⟨_, _, rfl, hz, p G ps H1 Stp.refl s _ walks_rng⟩
      · exact p.elim
    · exact p.elim
/-! ### comprehensions -/
/-- nothing that is raised comes out -/
def C.ne {α : Type} (x : C α) : C α := fun M => match x M with
  | .err _ _ _ _ => .bad
  | r => r
def wipeE (ρ : Env) : List Nat → Env
  | [] => ρ
  | v :: vs => (wipeE ρ vs).set v none
/-- the items that are made -/
def lcS (q : Pat) (t : Env → C Bool) (e : Env → C D) (ρ : Env) : List D → List D → C (List D)
  | [], acc => C.pure acc
  | d :: ds, acc => fun M => match q.put M d ρ with
    | some ρ1 => C.bind (C.ne (t ρ1)) (fun b => if b = true then C.bind (C.ne (e ρ1)) (fun y => if acc.length < sizeLine then lcS q t e ρ ds (acc ++ [y]) else C.bad) else lcS q t e ρ ds acc) M
    | none => .bad
def dLc (it : Env → C (List D)) (q : Pat) (t : Env → C Bool) (e : Env → C D) (vs : List Nat) : Env → C D := fun ρ => C.bind (it ρ) fun ds => C.bind (lcS q t e (wipeE ρ vs) ds []) fun acc => C.pure (.lst acc)
/-- a place taken away -/
def hid (H : Hp) (D : Addr) : Hp := fun a => if a = D then none else H a
theorem hid_upd {H : Hp} {D : Addr} {o : HO} : hid (upd H D o) D = hid H D := by
  funext a; unfold hid; by_cases h : a = D
  · rw [if_pos h, if_pos h]
  · rw [if_neg h, if_neg h, upd_ne h]
theorem hid_none {H : Hp} {D : Addr} (h : H D = none) : hid H D = H := by
  funext a; unfold hid; by_cases z : a = D
  · rw [if_pos z, z, h]
  · rw [if_neg z]
theorem hid_some {H : Hp} {D a : Addr} {o : HO} (h : hid H D a = some o) : H a = some o ∧ a ≠ D := by
  unfold hid at h; by_cases z : a = D
  · rw [if_pos z] at h; cases h
  · rw [if_neg z] at h; exact ⟨h, z⟩
theorem hid_ne {H : Hp} {D a : Addr} (h : a ≠ D) : hid H D a = H a := if_neg h
theorem Stp.hid {G G' H H' : Hp} {ps ps' : List Addr} (x : Stp G ps H G' ps' H') (D : Addr) : Stp G ps (DL.hid H D) G' ps' (DL.hid H' D) where
  ext := x.ext
  keep := fun a o h n => by
    obtain ⟨h1, h2⟩ := hid_some h
    rw [hid_ne h2]; exact x.keep a o h1 n
  fresh := fun a h => by
    rcases x.fresh a h with z | z
    · exact .inl z
    · refine .inr ?_
      unfold DL.hid; by_cases w : a = D
      · rw [if_pos w]
      · rw [if_neg w]; exact z
  newG := fun a o h => by
    rcases x.newG a o h with z | z | z
    · exact .inl z
    · refine .inr (.inl ?_)
      unfold DL.hid; by_cases w : a = D
      · rw [if_pos w]
      · rw [if_neg w]; exact z
    · exact .inr (.inr z)
/-- .. within a computation that does not see D -/
theorem post_ne {α β : Type} {K : PySem.W.Frag} {W : WX} {P : PP β} {R : PP α} {σ σ' : L2.St} {G : Hp} {ps : List Addr} {H : Hp} {D : Addr} {x : C α} {k : α → C β} {M : Sto} (h : Post K W σ P G ps (hid H D) (C.bind (C.ne x) k M))
    (hk : ∀ a M G' ps' H', Stp G ps H G' ps' H' → Sto0 K G' ps' M H' → Post K W σ P G' ps' (hid H' D) (k a M) → R a G' ps' M H') : Post K W0 σ' R G ps H (x M) := by
  unfold C.bind C.ne at h
  cases q : x M with
  | ok a M' =>
    rw [q] at h
    exact fun G' ps' H' st s' => hk a M' G' ps' H' st s' (Post.ext (st.hid D) h)
  | err c fn ds M' => rw [q] at h; exact h.elim
  | bad => rw [q] at h; exact h.elim
theorem Agree.wipe : ∀ {q vs : List Nat} {σ σ' : L2.St}, Agree q σ σ' → (∀ i ∈ q, i ∈ vs) → L2.wipe σ' vs = L2.wipe σ vs := fun {q vs σ σ'} a h => by
  have key : ∀ (vs : List Nat) (σ : L2.St) (i : Nat), (L2.wipe σ vs)[i]? = if i ∈ vs then (if i < σ.length then some none else none) else σ[i]? := by
    intro vs
    induction vs with
    | nil => intro σ i; simp [L2.wipe]
    | cons v vs ih =>
      intro σ i
      unfold L2.wipe
      by_cases hv : v = i
      · subst hv
        rw [List.getElem?_set]
        simp [L2.wipe_length]
      · rw [List.getElem?_set_ne hv, ih]
        have : (i ∈ v :: vs) ↔ i ∈ vs := by simp [Ne.symm hv]
        simp only [this]
  apply List.ext_getElem?
  intro i
  rw [key, key]
  by_cases hi : i ∈ vs
  · rw [if_pos hi, if_pos hi, a.1]
  · rw [if_neg hi, if_neg hi]
    exact a.2 i fun z => hi (h i z)
theorem wipe_wipe (σ : L2.St) (vs : List Nat) : L2.wipe (L2.wipe σ vs) vs = L2.wipe σ vs := by
  have ag : Agree vs σ (L2.wipe σ vs) := ⟨L2.wipe_length _ _, fun j h => by
    have key : ∀ (vs : List Nat) (σ : L2.St) (i : Nat), i ∉ vs → (L2.wipe σ vs)[i]? = σ[i]? := by
      intro vs
      induction vs with
      | nil => intro σ i _; rfl
      | cons v vs ih =>
        intro σ i hi
        unfold L2.wipe
        rw [List.getElem?_set_ne (fun z => hi (by simp [z])), ih σ i (fun z => hi (List.mem_cons_of_mem _ z))]
    exact key vs σ j h⟩
  exact ag.wipe fun _ h => h
theorem Slots.wipe {K : PySem.W.Frag} {G : Hp} {ps : List Addr} {ρ : Env} {σ : L2.St} (h : Slots K G ps ρ σ) : ∀ vs : List Nat, Slots K G ps (wipeE ρ vs) (L2.wipe σ vs)
  | [] => h
  | v :: vs => fun i d e => by
    have ih := Slots.wipe h vs
    unfold wipeE at e
    unfold L2.wipe
    by_cases z : v = i
    · subst z
      rw [List.getElem?_set] at e
      simp at e
    · rw [List.getElem?_set_ne z] at e ⊢
      exact ih i d e
theorem Sto0.aside {K : PySem.W.Frag} {G : Hp} {ps : List Addr} {M : Sto} {H : Hp} {a : Addr} {o : HO} (s : Sto0 K G ps M H) (hg : G a = none) (hp : a ∉ ps) : Sto0 K G ps M (upd H a o) :=
  ⟨fun b u e => by rw [upd_ne fun z => by rw [z, hg] at e; cases e]; exact s.sub b u e, fun n mo e => (s.mem n mo e).mono Ext.refl (fun _ _ g => g) (fun b u e2 q => by rw [upd_ne fun z => hp (by rw [← z]; exact List.mem_of_getElem? e2)]; exact q), s.nd, s.len,
    fun n b e => by rw [upd_ne fun z => hp (by rw [← z]; exact List.mem_of_getElem? e)]; exact s.old n b e⟩
theorem lc_imp {q : Pat} {t : Env → C Bool} {vs : List Nat} {wi : TI} {fe : Env → C D} (hwi : ∀ σ H R, TDp X.K W (fun ds G ps _ H' => ∀ J, Walks X.K G ps J ds → R J H') it σ H → wi σ H R) (hq : ∀ i ∈ q.slots, i ∈ vs) :
    ∀ σ H Q, TD X.K W (dLc it q t fe vs) σ H Q → tLc wi (gD X.K q) (TB X.K W0 t) (TD X.K W0 fe) vs σ H Q := fun σ H Q h => by
  obtain ⟨ρ, G, ps, M, s, sl, p⟩ := h
  refine hwi σ H _ ⟨ρ, G, ps, M, s, sl, post_bind (k := fun ds => C.bind (lcS q t fe (wipeE ρ vs) ds []) fun acc => C.pure (DL.D.lst acc)) p fun ds M1 G1 ps1 H1 _ st1 s1 p1 J hJ D hD => ?_⟩
  have slw := (sl.mono st1.ext).wipe vs
  refine ⟨fun i m H => m = ds.length - i ∧ ∃ G' ps' M acc xs, Ext G1 ps1 G' ps' ∧ Sto0 X.K G' ps' M H ∧ H D = some (.lst xs) ∧ D ∉ ps' ∧ G' D = none ∧ Reps X.K G' ps' acc xs ∧ Post X.K W σ (PD X.K Q) G' ps' (hid H D) ((C.bind (lcS q t fe (wipeE ρ vs) (ds.drop i) acc) fun acc => C.pure (DL.D.lst acc)) M), ⟨_, rfl, G1, ps1, M1, [], [], Ext.refl, s1.junk hD, upd_same, fun hm => ?_, s1.gnone hD, Reps.nil, ?_⟩, ?_⟩
  · obtain ⟨j, hj⟩ := List.getElem?_of_mem hm
    exact s1.old j D hj hD
  · rw [hid_upd, hid_none hD, List.drop_zero]
    exact p1
  · rintro i m H ⟨em, G', ps', M, acc, xs, x, s, hDx, hDp, hDg, ra, p⟩
    obtain ⟨w1, w2⟩ := hJ i G' ps' M H x s
    cases z : ds[i]? with
    | none =>
      have hl : ds.length ≤ i := List.getElem?_eq_none_iff.mp z
      rw [List.drop_eq_nil_of_le hl] at p
      refine .inl ⟨w1 hl, ?_⟩
      have p : Post X.K W σ (PD X.K Q) G' ps' (hid H D) (.ok (DL.D.lst acc) M) := p
      have xg : Ext G' ps' (upd G' D (.lst xs)) ps' := ⟨fun a o e => by
        by_cases w : a = D
        · subst w; rw [upd_same]; rw [s.sub _ _ e] at hDx; exact hDx.symm ▸ rfl
        · rw [upd_ne w]; exact e, [], by simp⟩
      refine p (upd G' D (.lst xs)) ps' H ⟨xg, fun a o e _ => (hid_some e).1, fun a h => .inl h, fun a o e => by
        by_cases w : a = D
        · subst w; exact .inr (.inl (by unfold hid; rw [if_pos rfl]))
        · rw [upd_ne w] at e; exact .inl e⟩ ⟨fun a o e => ?_, fun n mo e => (s.mem n mo e).mono xg (fun a e2 g => ?_) (fun _ _ _ h => h), s.nd, s.len, s.old⟩ _ (by unfold Rep; exact ⟨D, xs, rfl, upd_same, ra.mono xg⟩)
      · by_cases w : a = D
        · subst w; rw [upd_same] at e; cases e; exact hDx
        · rw [upd_ne w] at e; exact s.sub a o e
      · rw [upd_ne fun w => hDp (by rw [← w]; exact List.mem_of_getElem? e2)]; exact g
    | some d =>
      obtain ⟨hi, e⟩ := List.getElem?_eq_some_iff.mp z
      obtain ⟨hgo, hy⟩ := w2 d z
      rw [List.drop_eq_getElem_cons hi, e] at p
      refine .inr ⟨hgo, fun H' => ∃ G' ps' M acc xs, Ext G1 ps1 G' ps' ∧ Sto0 X.K G' ps' M H' ∧ H' D = some (.lst xs) ∧ D ∉ ps' ∧ G' D = none ∧ Reps X.K G' ps' acc xs ∧ Post X.K W σ (PD X.K Q) G' ps' (hid H' D) ((C.bind (lcS q t fe (wipeE ρ vs) (ds.drop (i + 1)) acc) fun acc => C.pure (DL.D.lst acc)) M), fun H' hn => ⟨ds.length - (i + 1), by omega, rfl, hn⟩, fun v H' y => ?_⟩
      obtain ⟨G2, st2, s2, r2⟩ := hy v H' y
      have hD2 : H' D = some (.lst xs) := st2.keep D _ hDx hDp
      have hDg2 : G2 D = none := by
        cases w : G2 D with
        | none => rfl
        | some o => rcases st2.newG D o w with z | z | z
                    · rw [hDg] at z; cases z
                    · rw [hDx] at z; cases z
                    · exact (hDp z).elim
      have ra2 := ra.mono st2.ext
      have xx := x.trans st2.ext
      unfold lcS at p
      cases z2 : q.put M d (wipeE ρ vs) with
      | none =>
        have p : Post X.K W σ (PD X.K Q) G' ps' (hid H D) ((match q.put M d (wipeE ρ vs) with
          | some ρ1 => C.bind (C.ne (t ρ1)) (fun b => if b = true then C.bind (C.ne (fe ρ1)) (fun y => if acc.length < sizeLine then lcS q t fe (wipeE ρ vs) (ds.drop (i + 1)) (acc ++ [y]) else C.bad) else lcS q t fe (wipeE ρ vs) (ds.drop (i + 1)) acc) M
          | none => .bad).bind fun acc => C.pure (DL.D.lst acc)) := p
        rw [z2] at p
        exact p.elim
      | some ρ1 =>
        have p : Post X.K W σ (PD X.K Q) G' ps' (hid H D) ((match q.put M d (wipeE ρ vs) with
          | some ρ1 => C.bind (C.ne (t ρ1)) (fun b => if b = true then C.bind (C.ne (fe ρ1)) (fun y => if acc.length < sizeLine then lcS q t fe (wipeE ρ vs) (ds.drop (i + 1)) (acc ++ [y]) else C.bad) else lcS q t fe (wipeE ρ vs) (ds.drop (i + 1)) acc) M
          | none => .bad).bind fun acc => C.pure (DL.D.lst acc)) := p
        rw [z2] at p
        have p : Post X.K W σ (PD X.K Q) G' ps' (hid H D) (C.bind (C.bind (C.ne (t ρ1)) (fun b => if b = true then C.bind (C.ne (fe ρ1)) (fun y => if acc.length < sizeLine then lcS q t fe (wipeE ρ vs) (ds.drop (i + 1)) (acc ++ [y]) else C.bad) else lcS q t fe (wipeE ρ vs) (ds.drop (i + 1)) acc)) (fun acc => C.pure (DL.D.lst acc)) M) := p
        rw [C.bind_assoc] at p
        have p2 := Post.ext (st2.hid D) p
        refine ⟨wipeE ρ vs, G2, ps', M, d, ρ1, s2, slw.mono xx, r2, z2, fun σ2 sl2 ag => ⟨(ag.wipe hq).trans (wipe_wipe σ vs), ?_⟩⟩
        refine ⟨ρ1, G2, ps', M, s2, sl2, post_ne p2 fun b M3 G3 ps3 H3 st3 s3 p3 => ?_⟩
        have hD3 : H3 D = some (.lst xs) := st3.keep D _ hD2 hDp
        have hDp3 : D ∉ ps3 := fun hm => (st3.fresh D hm).elim hDp fun z => by rw [hD2] at z; cases z
        have hDg3 : G3 D = none := by
          cases w : G3 D with
          | none => rfl
          | some o => rcases st3.newG D o w with z | z | z
                      · rw [hDg2] at z; cases z
                      · rw [hD2] at z; cases z
                      · exact (hDp z).elim
        cases b with
        | false => exact ⟨G3, ps3, M3, acc, xs, xx.trans st3.ext, s3, hD3, hDp3, hDg3, ra2.mono st3.ext, p3⟩
        | true =>
          simp only [if_true] at p3 ⊢
          rw [C.bind_assoc] at p3
          refine ⟨ρ1, G3, ps3, M3, s3, sl2.mono st3.ext, post_ne p3 fun y M4 G4 ps4 H4 st4 s4 p4 u ru => ?_⟩
          have hD4 : H4 D = some (.lst xs) := st4.keep D _ hD3 hDp3
          have hDp4 : D ∉ ps4 := fun hm => (st4.fresh D hm).elim hDp3 fun z => by rw [hD3] at z; cases z
          have ra4 := (ra2.mono st3.ext).mono st4.ext
          split at p4
          · rename_i hz
            refine ⟨xs, hD4, by rw [← ra4.len]; exact hz, ?_⟩
            have hDg4 : G4 D = none := by
              cases w : G4 D with
              | none => rfl
              | some o => rcases st4.newG D o w with z | z | z
                          · rw [hDg3] at z; cases z
                          · rw [hD3] at z; cases z
                          · exact (hDp3 z).elim
            refine ⟨G4, ps4, M4, acc ++ [y], xs ++ [u], (xx.trans st3.ext).trans st4.ext, s4.aside hDg4 hDp4, upd_same, hDp4, hDg4, ra4.append (Reps.cons ru Reps.nil), ?_⟩
            rw [hid_upd]
            exact p4
          · exact p4.elim
end
end DL
end
section
set_option Elab.async false
set_option linter.all false
set_option maxRecDepth 100000
set_option maxHeartbeats 1000000
namespace DL
open PySem PySem.Spec PyProof.Rows L2
section
variable {X : Cx} {W : WX}
abbrev DTs (X : Cx) (W : WX) (ifs : List Expr) (f : Env → C Bool) : Prop := PTs X ifs (TB X.K W f)
def tYesD : Env → C Bool := fun _ => C.pure true
theorem dts_nil : DTs X W [] tYesD := ⟨fun pins s σ H Q I h => pts_nil.run pins s σ H Q I (by
  obtain ⟨ρ, G, ps, M, s0, sl, p⟩ := h
  exact p G ps H Stp.refl s0)⟩
theorem dts_one {c : Expr} {t : Env → C Bool} (h : DT X W c t) : DTs X W [c] t := pts_one h
variable {elt tg iter : Expr} {ifs : List Expr} {scope : Scope} {own : List (Str × Nat)} {pos spos : Pos} {it : Env → C (List D)} {q : Pat} {t : Env → C Bool} {fe : Env → C D}
theorem de_lc (hc : X.calm = true) (hN : X.N.Nodup) (hi : DI X W tg iter it) (ok : BlkOk X.N X.env.scope scope own) (hq : ∀ i ∈ q.slots, i ∈ own.map (·.2))
    (hg : ∀ (s : Shared) (H : Hp) (C : Addr) (cl : List (Str × Addr)) (fp : List Addr), DG (X.blk s H scope (compEnvC scope cl C X.env) fp) tg q)
    (ht : ∀ (s : Shared) (H : Hp) (C : Addr) (cl : List (Str × Addr)) (fp : List Addr), DTs (X.blk s H scope (compEnvC scope cl C X.env) fp) W0 ifs t)
    (he : ∀ (s : Shared) (H : Hp) (C : Addr) (cl : List (Str × Addr)) (fp : List Addr), DE (X.blk s H scope (compEnvC scope cl C X.env) fp) W0 elt fe) (hs : ∀ x, foldedSetIterable iter X.env x = pure x := by intro _; rfl) :
    DE X W (.ListComp elt [⟨tg, iter, ifs, 0⟩] scope pos) (dLc it q t fe (own.map (·.2))) :=
  pe_imp (pe_lc (g := gD X.K q) hc hN hi ok hg ht he hs) (lc_imp (fun _ _ _ h => h) hq)
theorem ds_setLc (i : Nat) {y : Str} {py : Pos} (hc : X.calm = true) (hN : X.N.Nodup) (hi : DI X W tg iter it) (ok : BlkOk X.N X.env.scope scope own) (hq : ∀ i ∈ q.slots, i ∈ own.map (·.2))
    (hg : ∀ (s : Shared) (H : Hp) (C : Addr) (cl : List (Str × Addr)) (fp : List Addr), DG (X.blk s H scope (compEnvC scope cl C X.env) fp) tg q)
    (ht : ∀ (s : Shared) (H : Hp) (C : Addr) (cl : List (Str × Addr)) (fp : List Addr), DTs (X.blk s H scope (compEnvC scope cl C X.env) fp) W0 ifs t)
    (he : ∀ (s : Shared) (H : Hp) (C : Addr) (cl : List (Str × Addr)) (fp : List Addr), DE (X.blk s H scope (compEnvC scope cl C X.env) fp) W0 elt fe)
    (hsw : swapsWith (.ListComp elt [⟨tg, iter, ifs, 0⟩] scope pos) (some (.Name y py)) spos.line X.env = pure true) (hy : X.N[i]? = some y := by rfl) (hyl : X.env.scope.names.lookup y = some .local := by rfl) (hs : ∀ x, foldedSetIterable iter X.env x = pure x := by intro _; rfl) :
    DS X W (.Assign [.Name y py] (.ListComp elt [⟨tg, iter, ifs, 0⟩] scope pos) spos) (sAsg (dLc it q t fe (own.map (·.2))) (.nm i)) := by
  have ps := ps_setLc (X := X) (g := gD X.K q) (te := TD X.K W0 fe) (tt := TB X.K W0 t) (spos := spos) (py := py) (pos := pos) hc hN hy hyl hsw hi ok hg ht he hs
  refine ⟨fun pins s σ H Dn I h => ps.run pins s σ H Dn I ?_⟩
  refine lc_imp (fun _ _ _ h => h) hq σ H _ (td_mono (asg_post h) fun v H1 h2 => ?_)
  obtain ⟨ρ, G, ps, M, d, ρ', s0, sl, rd, e, k⟩ := h2
  unfold Pat.put at e
  cases e
  exact k _ (sl.set rd (by rw [I.len]; exact (List.getElem?_eq_some_iff.mp hy).1)) Agree.set
end
/-! ### a body's context -/
structure Ctx (X : Cx) (W : WX) (k : Nat) : Prop where
  tk : Takes X W
  hr : Room k X.A
  hG : X.A.guards = some []
  calm : X.calm = true
  po : PassesOwn (model X.prog X.w) X.A X.env X.xe
theorem Ctx.hu {X : Cx} {W : WX} {k : Nat} (c : Ctx X W k) : X.A.units + 64 < cLine := c.hr.units
theorem Ctx.blk {X : Cx} {W : WX} {k : Nat} (c : Ctx X W k) (s : Shared) (H : Hp) (scope : Scope) (cenv : PySem.Env) (fp : List Addr) : Ctx (X.blk s H scope cenv fp) W0 k :=
  ⟨takes0, c.hr, c.hG, c.calm, PassesOwn.never⟩
/-- what a body's outcome is worth for the caller -/
def outC : Out → C D
  | .nx _ => C.pure .non
  | .rt d => C.pure d
  | .ex c fn ds _ => fun M => .err c fn ds M
  | _ => C.bad
/-- a def by its body: so many slots, so many parameters -/
def dDef (n np : Nat) (b : SF) : List D → C D := fun ds M => if ds.length = np then (match b (ds.map some ++ List.replicate (n - np) none) M with
  | .ok o M' => outC o M'
  | _ => .bad) else .bad
theorem slots_start {K : PySem.W.Frag} {G : Hp} {ps : List Addr} {ds : List D} {vs : List V} (N : List Str) (r : Reps K G ps ds vs) : Slots K G ps (ds.map some ++ List.replicate (N.length - ds.length) none) (L2.start N vs) := fun i d e => by
  by_cases hi : i < ds.length
  · rw [List.getElem?_append_left (by rw [List.length_map]; exact hi), List.getElem?_map] at e
    obtain ⟨d', e1, e2⟩ := Option.map_eq_some_iff.mp e
    cases e2
    obtain ⟨v, hv, rv⟩ := r.get e1
    refine ⟨v, ?_, rv⟩
    unfold L2.start
    rw [List.getElem?_append_left (by rw [List.length_map]; exact (List.getElem?_eq_some_iff.mp hv).1), List.getElem?_map, hv]
    rfl
  · rw [List.getElem?_append_right (by rw [List.length_map]; omega), List.getElem?_replicate] at e
    split at e <;> cases e
section
variable {P : Program} {w : World} {K : PySem.W.Frag} {mg : Str → Option Value} {base : Heap}
/-- a def of the text keeps the promise that its body tells -/
theorem fn_def {x : Str} {st : Stmt} {f : Addr} {fd : FuncData} {N ps : List Str} {k : Nat} {b : SF} (F : Fun K x x st f fd) (S : FnScope N ps (defScope st))
    (hbody : ∀ (cdv : Value) (A : Around) (outer : List PySem.Env) (s : Shared) (H : Hp) (E : XK), Ctx (cxOf (L2.CX P w) P w K mg base N x (defScope st) f cdv A outer s H E) (fun c d _ H' => E c d H') k →
      DSs (cxOf (L2.CX P w) P w K mg base N x (defScope st) f cdv A outer s H E) (fun c d _ H' => E c d H') (defBody st) b) {n np k' : Nat} {F' : List D → C D} (hF : F' = dDef n np b := by rfl) (hn : N.length = n := by rfl) (hp : ps.length = np := by rfl) (hk : k + 1 = k' := by rfl) : FnG P w K mg base k' f fd ps F' := by
  subst hn hp hk hF
  obtain ⟨oc, od, kV, doc, pm, an, cdv, ct, osl, rfl, lk, hcd⟩ := F.ex
  refine ⟨fun ds M h => ?_, fun A outer s H args us vs Q E hg hr e0 hb r hsp => ?_⟩
  · unfold dDef at h
    by_cases z : ds.length = ps.length
    · exact z
    · rw [if_neg z] at h; exact (h rfl).elim
  obtain ⟨G, sp, M, ds, s0, rr, p⟩ := hsp
  have hld : ds.length = ps.length := by
    by_cases z : ds.length = ps.length
    · exact z
    · unfold dDef at p; rw [if_neg z] at p; exact p.elim
  have hl : vs.length = ps.length := by rw [← rr.len]; exact hld
  have KX : K.In s.heap := e0.mod.kin.keeps fun b o e => (e0.bs b o e).1
  have lim : s.heap.NoLimit := e0.mod.nolimit.keeps fun b o e => (e0.bs b o e).1
  have hkind : ∀ y ∈ ps.zip us, (defScope st).names.lookup y.1 = some .local ∨ ((defScope st).names.lookup y.1 = some .cell ∧ ((cellsFrom (s.heap.objs.size + 1) (defScope st).names []).lookup y.1).isSome = true) := fun ⟨n, v⟩ hy =>
    (S.par n (List.of_mem_zip hy).1).elim .inl fun q => .inr ⟨q, PySem.W.cellsFrom_some _ _ _ (.inl q)⟩
  refine codeAny_call_function hr.depth (KX _ _ lk) rfl S.co S.gen rfl (PySem.W.codeRec_of KX hcd) (hb _ _ _ _ ?_)
  refine wpAny_newFunctionEnv_cells S.kind hkind fun env he s1 x1 => ?_
  subst he
  refine ⟨lim.keeps x1.toInCall.keep, codeAny_func ?_⟩
  have ctx : Ctx (cxOf (L2.CX P w) P w K mg base N x (defScope st) f cdv A outer s H E) (fun c d _ H' => E c d H') k := ⟨takes_of rfl rfl rfl rfl, hr.deeper _, hg, rfl, passes_of rfl⟩
  have I : L2.Inv (cxOf (L2.CX P w) P w K mg base N x (defScope st) f cdv A outer s H E) [] (L2.start N vs) H s1 := inv_start S hr.hd e0 hl r x1
  have q : TSD K (fun c d _ H' => E c d H') b { nx := fun _ H' => Q .non H', rt := Q } (L2.start N vs) H := by
    refine ⟨ds.map some ++ List.replicate (N.length - ds.length) none, G, sp, M, s0, slots_start N rr, ?_⟩
    unfold dDef at p
    rw [if_pos hld, ← hld] at p
    cases z : b (ds.map some ++ List.replicate (N.length - ds.length) none) M with
    | ok o M' =>
      rw [z] at p
      cases o with
      | nx ρ => exact fun G' ps' H' st s' σ' _ => p G' ps' H' st s' .non Rep.non_of
      | rt d => exact p
      | ex c fn es ρ => exact fun G' ps' H' st s' σ' dd _ er => p dd G' ps' H' st s' er
      | bk ρ => exact p.elim
      | ct ρ => exact p.elim
    | err c fn es M' => rw [z] at p; exact p.elim
    | bad => rw [z] at p; exact p.elim
  refine wpAny_mono ((hbody cdv A outer s H E ctx).run [] s1 (L2.start N vs) H _ I q) (fun fl s' hs => ?_) fun e s' hs => hs
  have fin : ∀ {σ' : L2.St} {H' : Hp} {v : V} {u : Value}, L2.Inv (cxOf (L2.CX P w) P w K mg base N x (defScope st) f cdv A outer s H E) [] σ' H' s' → RelV v u → Q v H' → CE outer P w H s Q u s' :=
    fun {σ' H' v u} J rv q => ⟨v, H', J.os, J.bare, J.base, J.hok, rv, q⟩
  cases fl with
  | ret u => obtain ⟨v, σ', H', J, rv, q⟩ := hs; exact fin J rv q
  | next => obtain ⟨σ', H', J, q⟩ := hs; exact fin (v := V.non) (u := Value.none) J rfl q
  | brk => obtain ⟨_, _, _, q⟩ := hs; exact False.elim q
  | cont => obtain ⟨_, _, _, q⟩ := hs; exact False.elim q
end
end DL
end
section
set_option Elab.async false
set_option linter.all false
set_option maxRecDepth 100000
set_option maxHeartbeats 1000000
namespace DL
open PySem PySem.Spec PyProof.Rows L2
/-- the heap as it stands, nothing tracked but (perhaps) the script -/
structure Begin (P : Program) (w : World) (K : PySem.W.Frag) (s : Shared) (H : Hp) (a : Addr) : Prop where
  ok : HOk P w H s.heap
  only : ∀ b o, H b = some o → b = a ∧ ∃ ob xs, o = .frz ob (.lst xs)
  fun_ : H a ≠ none → K.lookup a = none
section
variable {P : Program} {w : World} {K : PySem.W.Frag} {mg mb : Str → Option Value} {k : Nat} {fa a : Addr} {fd : FuncData} {x : Str} {F : List D → C D} {s : Shared} {vs : List Value} {ns : List Int}
theorem keepHid {H : Hp} (h : Begin P w K s H a) (obj : ∃ o, s.heap.get? a = some o ∧ ∀ es ep, o.data ≠ .dict es ep) {b : Addr} {m : Str → Option Value} (hn : s.heap.Ns b m) : (hidT s.heap H).Ns b m := by
  obtain ⟨o, es, ep, e, d, r⟩ := hn
  refine ⟨o, es, ep, hidT_get e ?_, d, r⟩
  cases q : H b with
  | none => rfl
  | some u =>
    obtain ⟨o', e', nd⟩ := obj
    have hb := (h.only b u q).1
    rw [hb, e'] at e
    cases e
    exact (nd es ep d).elim
theorem run_law (KX : K.In s.heap) (hns : s.heap.Ns mainGlobals mg) (hmb : s.heap.Ns builtinsNs mb) (hbb : ∀ y : Str, y ≠ "__name__" → mb y = bootBuiltins y) (hlim : s.heap.NoLimit) (hgen : s.gens = #[])
    (obj : s.heap.get? a = some { cls := .type "list", data := .seq vs.toArray }) (hr : Room k callerA) (hF : ∀ base : Heap, K.In base → base.Ns mainGlobals mg → FnG P w K mg base k fa fd [x] F)
    (hbind : ∀ (s : Shared) (u : Value), BindsTo s fd ⟨[u], []⟩ [(x, u)]) (hlaw : ∃ M', F [.fz (ns.map D.int)] [] = .ok (.bl true) M') {H : Hp} (h : Begin P w K s H a) (hS : SqL K H a (ns.map V.int)) :
    codeAny (model P w) callerA (.call (.ref fa) ⟨[.ref a], []⟩) (fun q s' => q = .ok (.ret (.bool true)) ∧ OldK s.heap s'.heap ∧ s'.os = s.os ∧ AllBare s'.gens) s := by
  have nd : ∃ o, s.heap.get? a = some o ∧ ∀ es ep, o.data ≠ .dict es ep := ⟨_, obj, fun es ep z => by cases z⟩
  have inb : K.In (hidT s.heap H) := fun b o e => by
    refine hidT_get (KX b o e) ?_
    cases q : H b with
    | none => rfl
    | some u =>
      have hb := (h.only b u q).1
      subst hb
      rw [h.fun_ (by rw [q]; simp)] at e
      cases e
  have gl : (hidT s.heap H).Ns mainGlobals mg := keepHid h nd hns
  have md : Mod K mg (hidT s.heap H) := ⟨inb, gl, ⟨mb, keepHid h nd hmb, hbb⟩, hlim.elim fun m q => ⟨m, keepHid h nd q.1, q.2⟩⟩
  have e0 : Env0 P w K mg (hidT s.heap H) callerA [] s H :=
    { frames := rfl, mod := md, bs := fun b o e => of_hidT e, bsz := Nat.le_of_eq (hidT_size _ _), funs := trivial, frf := fun b hb => (List.not_mem_nil hb).elim, hok := h.ok, bare := .of_eq hgen }
  have sp : spD K F [.ref a] H (fun v _ => v = .bl true) (fun _ _ _ => False) := by
    obtain ⟨M', e⟩ := hlaw
    have s0 : Sto0 K H [] [] H := ⟨fun _ _ z => z, fun n mo z => by simp at z, List.nodup_nil, rfl, fun n b z => by simp at z⟩
    refine ⟨H, [], [], [.fz (ns.map D.int)], s0, Reps.cons (by unfold Rep; exact ⟨a, _, rfl, hS, Reps.ints ns⟩) Reps.nil, ?_⟩
    rw [e]
    intro G' ps' H' _ _ v r
    unfold Rep at r
    exact r
  refine codeAny_mono ((hF _ inb gl).go callerA [] s H ⟨[.ref a], []⟩ [.ref a] [.ref a] _ _ rfl hr e0 (hbind s (.ref a)) (.cons rfl .nil) sp) fun q s' z => ?_
  cases q with
  | error er => obtain ⟨_, _, _, _, _, _, _, _, _, _, _, _, bad⟩ := z; exact bad.elim
  | ok fl =>
    cases fl with
    | next => exact False.elim z
    | brk => exact False.elim z
    | cont => exact False.elim z
    | ret u =>
      obtain ⟨v, H', os, bare, un, ok', rv, ev⟩ := z
      have ev : v = .bl true := ev
      subst ev
      have eu : u = Value.bool true := rv
      subst eu
      refine ⟨rfl, OldK.of_keep fun b o e => ?_, os, bare⟩
      cases q : H b with
      | none => exact un.keep b o e q (fun z => (List.not_mem_nil z).elim) (fun z => (List.not_mem_nil z).elim)
      | some u =>
        obtain ⟨_, ob, xs, eo⟩ := h.only b u q
        subst eo
        have e1 := (h.ok b _ q).1
        have e2 := (ok' b _ (un.frzs b ob _ q)).1
        rw [e] at e1
        cases e1
        exact e2
theorem law_D (KX : K.In s.heap) (hns : s.heap.Ns mainGlobals mg) (hmb : s.heap.Ns builtinsNs mb) (hbb : ∀ y : Str, y ≠ "__name__" → mb y = bootBuiltins y) (hlim : s.heap.NoLimit) (hgen : s.gens = #[])
    (obj : s.heap.get? a = some { cls := .type "list", data := .seq vs.toArray }) (hi : IntsAre vs ns) (hl : ns.length ≤ sizeLine) (hr : Room k callerA) (hF : ∀ base : Heap, K.In base → base.Ns mainGlobals mg → FnG P w K mg base k fa fd [x] F)
    (hbind : ∀ (s : Shared) (u : Value), BindsTo s fd ⟨[u], []⟩ [(x, u)]) (hlaw : ∃ M', F [.fz (ns.map D.int)] [] = .ok (.bl true) M') :
    codeAny (model P w) callerA (.call (.ref fa) ⟨[.ref a], []⟩) (fun q s' => q = .ok (.ret (.bool true)) ∧ OldK s.heap s'.heap ∧ s'.os = s.os ∧ AllBare s'.gens) s := by
  have rv := vals_ints hi
  cases hk : K.lookup a with
  | some o =>
    have e := KX a o hk
    rw [obj] at e
    cases e
    refine run_law (H := fun _ => none) KX hns hmb hbb hlim hgen obj hr hF hbind hlaw ⟨fun b u z => (nomatch (show (none : Option HO) = some u from z)), fun b u z => (nomatch (show (none : Option HO) = some u from z)), fun z => (z rfl).elim⟩ (.inr ⟨_, vs.toArray, _, hk, rfl, rfl, rfl, ?_, by simpa using rv⟩)
    rw [List.size_toArray, hi.length]
    exact hl
  | none =>
    let H : Hp := upd (fun _ => none) a (.frz { cls := .type "list", data := .seq vs.toArray } (.lst (ns.map V.int)))
    have at_ : ∀ b o, H b = some o → b = a ∧ o = .frz { cls := .type "list", data := .seq vs.toArray } (.lst (ns.map V.int)) := fun b o z => by
      by_cases hb : b = a
      · subst hb; have q := upd_same.symm.trans z; cases q; exact ⟨rfl, rfl⟩
      · have q := (upd_ne hb).symm.trans z; cases q
    refine run_law (H := H) KX hns hmb hbb hlim hgen obj hr hF hbind hlaw ⟨fun b o z => ?_, fun b o z => ?_, fun _ => hk⟩ (.inl (.inr ⟨_, upd_same⟩))
    · obtain ⟨hb, ho⟩ := at_ b o z
      subst hb; subst ho
      exact ⟨obj, by rw [List.length_map]; exact hl, vs, _, rv, obj⟩
    · obtain ⟨hb, ho⟩ := at_ b o z
      exact ⟨hb, _, _, ho⟩
end
/-- the goal that k_head leaves, from the law over data -/
theorem walk_D {l : PySem.W.OpenLaw} {n k : Nat} {q : Program} {loose : List Str} {XP : (Str → Option Value) → Heap → Prop} {YP : World → Heap → Prop} {d : DefRec} {K : Params → PySem.W.Frag} {x : Str} {F : World → List D → C D}
    (hn : l.most = some n) (hn2 : n ≤ sizeLine) (hdf : d.params.defaults = []) (hr : Room k callerA) (hY : ∀ (w : World) (h : Heap), YP w h → (K w.params).In h)
    (hF : ∀ (w : World) (mg : Str → Option Value) (fa : Addr) (h : Heap), (K w.params).In h → h.Ns mainGlobals mg → mg d.name = some (.ref fa) →
      ∃ fd : FuncData, (∀ (s : Shared) (u : Value), BindsTo s fd ⟨[u], []⟩ [(x, u)]) ∧ ∀ base : Heap, (K w.params).In base → base.Ns mainGlobals mg → FnG l.prog w (K w.params) mg base k fa fd [x] (F w))
    (hlaw : ∀ (w : World) (ns : List Int), ns.length ≤ n → (∀ z ∈ ns, Builtin.Int.intBits z ≤ 1048576) → ∃ M', F w [.fz (ns.map D.int)] [] = .ok (.bl true) M') :
    PySem.W.WalkO q loose XP YP l.row.toRowW d [] (fun f vs => PySem.call f vs) := by
  refine Att.attach_callB hn hdf fun w s0 s1 mg mb fa o pm cd doc a vs ns Gr Y ho hd hcd hmg hobj hin hlen hbits hg => ?_
  obtain ⟨fd, hb, hF⟩ := hF w mg fa _ (hY w _ Y) Gr.T.g hmg
  exact law_D (hY w _ Y) Gr.T.g Gr.T.b Gr.T.builtins Gr.T.nolimit hg hobj hin (Nat.le_trans hlen hn2) hr hF hb (hlaw w ns hlen hbits)
end DL
end
section
set_option Elab.async false
set_option linter.all false
set_option maxRecDepth 100000
set_option maxHeartbeats 1000000
/-! reckoning with computations over data -/
namespace DL
open PySem PySem.Spec PyProof.Rows L2
abbrev EC := Addr → List Str → List D → Sto → Prop
/-- it comes out so -/
def wp {α : Type} (x : Res α) (Q : α → Sto → Prop) (E : EC) : Prop := match x with
  | .ok a M => Q a M
  | .err c fn ds M => E c fn ds M
  | .bad => False
section
variable {α β : Type} {Q : α → Sto → Prop} {E : EC}
theorem wp_ok {a : α} {M : Sto} : wp (.ok a M) Q E = Q a M := rfl
theorem wp_err {c : Addr} {fn : List Str} {ds : List D} {M : Sto} : wp (.err c fn ds M : Res α) Q E = E c fn ds M := rfl
theorem wp_bad : wp (.bad : Res α) Q E = False := rfl
theorem wp_pure {a : α} {M : Sto} : wp (C.pure a M) Q E = Q a M := rfl
theorem wp_cbad {M : Sto} : wp (C.bad M : Res α) Q E = False := rfl
theorem wp_bind {x : C β} {f : β → C α} {M : Sto} : wp (C.bind x f M) Q E = wp (x M) (fun b M' => wp (f b M') Q E) E := by
  unfold C.bind; cases x M <;> rfl
theorem wp_rbind {x : Res β} {f : β → C α} : wp (x.bind f) Q E = wp x (fun b M' => wp (f b M') Q E) E := by cases x <;> rfl
theorem wp_mono {x : Res α} {Q' : α → Sto → Prop} {E' : EC} (h : wp x Q E) (hq : ∀ a M, Q a M → Q' a M) (he : ∀ c fn ds M, E c fn ds M → E' c fn ds M) : wp x Q' E' := by
  cases x with
  | ok a M => exact hq _ _ h
  | err c fn ds M => exact he _ _ _ _ h
  | bad => exact h
theorem wp_ne {x : C α} {M : Sto} : wp (C.ne x M) Q E = wp (x M) Q (fun _ _ _ _ => False) := by
  unfold C.ne; cases x M <;> rfl
theorem wp_if {c : Prop} [Decidable c] {x y : C α} {M : Sto} : wp ((if c then x else y) M) Q E = if c then wp (x M) Q E else wp (y M) Q E := by
  by_cases h : c
  · rw [if_pos h, if_pos h]
  · rw [if_neg h, if_neg h]
theorem wp_eq {x : Res α} {a : α} {M : Sto} (h : wp x (fun b M' => b = a ∧ M' = M) (fun _ _ _ _ => False)) : x = .ok a M := by
  cases x with
  | ok b M' => obtain ⟨e1, e2⟩ := h; subst e1; subst e2; rfl
  | err c fn ds M => exact h.elim
  | bad => exact h.elim
theorem wp_ex {x : Res α} {R : α → Prop} (h : wp x (fun b _ => R b) (fun _ _ _ _ => False)) : ∃ b M', x = .ok b M' ∧ R b := by
  cases x with
  | ok b M' => exact ⟨b, M', rfl, h⟩
  | err c fn ds M => exact h.elim
  | bad => exact h.elim
end
section
variable {Q : Out → Sto → Prop} {E : EC} {ρ : Env} {M : Sto} {t u b : SF}
theorem wp_lift {α : Type} {e : Env → C α} {k : Env → α → C Out} : wp (lift e k ρ M) Q E = wp (e ρ M) (fun a M' => wp (k ρ a M') Q E) (fun c fn ds M' => Q (.ex c fn ds ρ) M') := by
  unfold lift; cases e ρ M <;> rfl
def seqQ (u : SF) (Q : Out → Sto → Prop) (E : EC) : Out → Sto → Prop := fun o M' => match o with
  | .nx ρ' => wp (u ρ' M') Q E
  | o => Q o M'
theorem wp_seq : wp (sSeq t u ρ M) Q E = wp (t ρ M) (seqQ u Q E) E := by
  unfold sSeq seqQ
  cases t ρ M with
  | ok o M' => cases o <;> rfl
  | err c fn ds M' => rfl
  | bad => rfl
theorem seqQ_nx {M' : Sto} {ρ' : Env} : seqQ u Q E (.nx ρ') M' = wp (u ρ' M') Q E := rfl
theorem seqQ_rt {M' : Sto} {d : D} : seqQ u Q E (.rt d) M' = Q (.rt d) M' := rfl
theorem seqQ_bk {M' : Sto} {ρ' : Env} : seqQ u Q E (.bk ρ') M' = Q (.bk ρ') M' := rfl
theorem seqQ_ct {M' : Sto} {ρ' : Env} : seqQ u Q E (.ct ρ') M' = Q (.ct ρ') M' := rfl
theorem seqQ_ex {M' : Sto} {ρ' : Env} {c : Addr} {fn : List Str} {ds : List D} : seqQ u Q E (.ex c fn ds ρ') M' = Q (.ex c fn ds ρ') M' := rfl
theorem wp_sNx : wp (sNx ρ M) Q E = Q (.nx ρ) M := rfl
theorem wp_sIf {c : Env → C Bool} : wp (sIf c t u ρ M) Q E = wp (c ρ M) (fun b M' => wp (if b = true then t ρ M' else u ρ M') Q E) (fun c fn ds M' => Q (.ex c fn ds ρ) M') := by
  unfold sIf
  rw [wp_lift]
  congr 1
  funext b M'
  by_cases h : b = true
  · rw [if_pos h, if_pos h]
  · rw [if_neg h, if_neg h]
theorem wp_sAsg {f : Env → C D} {q : Pat} : wp (sAsg f q ρ M) Q E = wp (f ρ M) (fun d M' => match q.put M' d ρ with
    | some ρ' => Q (.nx ρ') M'
    | none => False) (fun c fn ds M' => Q (.ex c fn ds ρ) M') := by
  unfold sAsg
  rw [wp_lift]
  congr 1
  funext d M'
  cases q.put M' d ρ <;> rfl
theorem wp_sAsgT {f : Env → C D} {l : List Pat} : wp (sAsg f (.tp l) ρ M) Q E = wp (f ρ M) (fun d M' => match (Pat.tp l).put M' d ρ with
    | some ρ' => Q (.nx ρ') M'
    | none => False) (fun c fn ds M' => Q (.ex c fn ds ρ) M') := wp_sAsg
theorem wp_sSet {f : Env → C D} {i : Nat} : wp (sAsg f (.nm i) ρ M) Q E = wp (f ρ M) (fun d M' => Q (.nx (ρ.set i (some d))) M') (fun c fn ds M' => Q (.ex c fn ds ρ) M') := by
  rw [wp_sAsg]
  congr 1
theorem wp_def {n np : Nat} {ds : List D} {Q : D → Sto → Prop} : wp (dDef n np b ds M) Q E = if ds.length = np then wp (b (ds.map some ++ List.replicate (n - np) none) M) (fun o M' => wp (outC o M') Q E) (fun _ _ _ _ => False) else False := by
  unfold dDef
  by_cases h : ds.length = np
  · rw [if_pos h, if_pos h]
    cases b (ds.map some ++ List.replicate (n - np) none) M with
    | ok o M' => rfl
    | err c fn ds M' => rfl
    | bad => rfl
  · rw [if_neg h, if_neg h]; rfl
theorem outC_rt {d : D} {M : Sto} {Q : D → Sto → Prop} : wp (outC (.rt d) M) Q E = Q d M := rfl
theorem outC_nx {ρ : Env} {M : Sto} {Q : D → Sto → Prop} : wp (outC (.nx ρ) M) Q E = Q .non M := rfl
theorem outC_ex {ρ : Env} {c : Addr} {fn : List Str} {ds : List D} {M : Sto} {Q : D → Sto → Prop} : wp (outC (.ex c fn ds ρ) M) Q E = E c fn ds M := rfl
/-! loops -/
def turnQ (Q : Out → Sto → Prop) (I : Env → Sto → Prop) : Out → Sto → Prop := fun o M' => match o with
  | .nx ρ' => I ρ' M'
  | .ct ρ' => I ρ' M'
  | .bk ρ' => Q (.nx ρ') M'
  | .rt d => Q (.rt d) M'
  | .ex c fn ds ρ' => Q (.ex c fn ds ρ') M'
theorem wp_turn {k : SF} : wp (turnS k b ρ M) Q E = wp (b ρ M) (turnQ Q fun ρ' M' => wp (k ρ' M') Q E) E := by
  unfold turnS turnQ
  cases b ρ M with
  | ok o M' => cases o <;> rfl
  | err c fn ds M' => rfl
  | bad => rfl
theorem wp_for {q : Pat} (I : Nat → Env → Sto → Prop) : ∀ {ds : List D} {i : Nat} {ρ : Env} {M : Sto},
    (∀ j d ρ M, ds[j]? = some d → I (i + j) ρ M → ∃ ρ1, q.put M d ρ = some ρ1 ∧ wp (b ρ1 M) (turnQ Q (I (i + j + 1))) E) → I i ρ M → (∀ ρ M, I (i + ds.length) ρ M → Q (.nx ρ) M) → wp (forS q b ds ρ M) Q E
  | [], i, ρ, M, _, h0, he => he ρ M h0
  | d :: ds, i, ρ, M, hs, h0, he => by
    obtain ⟨ρ1, e, h⟩ := hs 0 d ρ M rfl h0
    show wp (match q.put M d ρ with
      | some ρ1 => turnS (forS q b ds) b ρ1 M
      | none => .bad) Q E
    rw [e]
    show wp (turnS (forS q b ds) b ρ1 M) Q E
    rw [wp_turn]
    refine wp_mono h (fun o M' ho => ?_) fun _ _ _ _ z => z
    have go : ∀ ρ' M', I (i + 0 + 1) ρ' M' → wp (forS q b ds ρ' M') Q E := fun ρ' M' hi =>
      wp_for (i := i + 1) I (fun j d ρ M hd hj => by
        obtain ⟨ρ2, e2, h2⟩ := hs (j + 1) d ρ M hd (by rw [show i + (j + 1) = i + 1 + j by omega]; exact hj)
        exact ⟨ρ2, e2, by rw [show i + 1 + j + 1 = i + (j + 1) + 1 by omega]; exact h2⟩) hi (fun ρ M hm => he ρ M (by rw [List.length_cons, show i + (ds.length + 1) = i + 1 + ds.length by omega]; exact hm))
    unfold turnQ at ho ⊢
    cases o with
    | nx ρ' => exact go ρ' M' ho
    | ct ρ' => exact go ρ' M' ho
    | bk ρ' => exact ho
    | rt d => exact ho
    | ex c fn ds ρ' => exact ho
theorem wp_sFor {q : Pat} {it : Env → C (List D)} : wp (sFor it q b ρ M) Q E = wp (it ρ M) (fun ds M' => wp (forS q b ds ρ M') Q E) (fun c fn ds M' => Q (.ex c fn ds ρ) M') := wp_lift
theorem turn_eq {k k' : SF} (hk : ∀ ρ M, k ρ M ≠ .bad → k' ρ M = k ρ M) (h : turnS k b ρ M ≠ .bad) : turnS k' b ρ M = turnS k b ρ M := by
  unfold turnS at h ⊢
  cases q : b ρ M with
  | ok o M' =>
    rw [q] at h
    cases o with
    | nx ρ' => exact hk _ _ h
    | ct ρ' => exact hk _ _ h
    | _ => rfl
  | _ => rfl
theorem whileN_succ {c : Env → C Bool} : ∀ (n : Nat) (ρ : Env) (M : Sto), whileN c b n ρ M ≠ .bad → whileN c b (n + 1) ρ M = whileN c b n ρ M
  | 0, ρ, M, h => (h rfl).elim
  | n + 1, ρ, M, h => by
    unfold whileN lift at h ⊢
    cases q : c ρ M with
    | ok x M' =>
      rw [q] at h
      cases x with
      | true =>
        simp only [if_true] at h ⊢
        exact turn_eq (whileN_succ n) h
      | false => rfl
    | _ => rfl
theorem whileN_le {c : Env → C Bool} {n m : Nat} (hl : n ≤ m) {ρ : Env} {M : Sto} (h : whileN c b n ρ M ≠ .bad) : whileN c b m ρ M = whileN c b n ρ M := by
  induction hl with
  | refl => rfl
  | step hl ih => exact (whileN_succ _ _ _ (by rw [ih]; exact h)).trans ih
theorem whileS_of {c : Env → C Bool} {n : Nat} {ρ : Env} {M : Sto} (h : whileN c b n ρ M ≠ .bad) : whileS c b ρ M = whileN c b n ρ M := by
  unfold whileS
  rw [dif_pos ⟨n, h⟩]
  have hc := Classical.choose_spec (⟨n, h⟩ : ∃ n, whileN c b n ρ M ≠ .bad)
  rcases Nat.le_total n (Classical.choose (⟨n, h⟩ : ∃ n, whileN c b n ρ M ≠ .bad)) with l | l
  · exact whileN_le l h
  · exact (whileN_le l hc).symm
theorem wp_ne_bad {α : Type} {x : Res α} {Q : α → Sto → Prop} {E : EC} (h : wp x Q E) : x ≠ .bad := fun e => by rw [e] at h; exact h
theorem wp_whileN {c : Env → C Bool} (I : Nat → Env → Sto → Prop) (hs : ∀ n ρ M, I n ρ M → wp (c ρ M) (fun x M' => if x = true then wp (b ρ M') (turnQ Q fun ρ' M'' => ∃ m, m < n ∧ I m ρ' M'') E else Q (.nx ρ) M') (fun c fn ds M' => Q (.ex c fn ds ρ) M')) :
    ∀ n ρ M, I n ρ M → wp (whileN c b (n + 1) ρ M) Q E := fun n => by
  induction n using Nat.strongRecOn with
  | _ n ih =>
    intro ρ M hi
    unfold whileN
    rw [wp_lift]
    refine wp_mono (hs n ρ M hi) (fun x M' hx => ?_) fun _ _ _ _ z => z
    cases x with
    | false => exact hx
    | true =>
      simp only [if_true] at hx ⊢
      rw [wp_turn]
      refine wp_mono hx (fun o M'' ho => ?_) fun _ _ _ _ z => z
      have go : ∀ ρ' M'', (∃ m, m < n ∧ I m ρ' M'') → wp (whileN c b n ρ' M'') Q E := fun ρ' M'' ⟨m, hm, hi'⟩ => by
        have h := ih m hm ρ' M'' hi'
        have e := whileN_le (c := c) (b := b) (show m + 1 ≤ n by omega) (wp_ne_bad h)
        rw [e]; exact h
      unfold turnQ at ho ⊢
      cases o with
      | nx ρ' => exact go ρ' M'' ho
      | ct ρ' => exact go ρ' M'' ho
      | bk ρ' => exact ho
      | rt d => exact ho
      | ex c fn ds ρ' => exact ho
theorem wp_while {c : Env → C Bool} (I : Nat → Env → Sto → Prop) (hs : ∀ n ρ M, I n ρ M → wp (c ρ M) (fun x M' => if x = true then wp (b ρ M') (turnQ Q fun ρ' M'' => ∃ m, m < n ∧ I m ρ' M'') E else Q (.nx ρ) M') (fun c fn ds M' => Q (.ex c fn ds ρ) M'))
    {n : Nat} {ρ : Env} {M : Sto} (h0 : I n ρ M) : wp (whileS c b ρ M) Q E := by
  have h := wp_whileN I hs n ρ M h0
  rw [whileS_of (wp_ne_bad h)]
  exact h
end
/-! comprehensions -/
theorem wp_lc {q : Pat} {t : Env → C Bool} {e : Env → C D} {ρ : Env} {Q : List D → Sto → Prop} {E : EC} (I : Nat → List D → Sto → Prop) : ∀ {ds : List D} {i : Nat} {acc : List D} {M : Sto},
    (∀ j d acc M, ds[j]? = some d → I (i + j) acc M → ∃ ρ1, q.put M d ρ = some ρ1 ∧ wp (t ρ1 M) (fun b M' => if b = true then wp (e ρ1 M') (fun y M'' => acc.length < sizeLine ∧ I (i + j + 1) (acc ++ [y]) M'') (fun _ _ _ _ => False) else I (i + j + 1) acc M') (fun _ _ _ _ => False)) →
    I i acc M → (∀ acc M, I (i + ds.length) acc M → Q acc M) → wp (lcS q t e ρ ds acc M) Q E
  | [], i, acc, M, _, h0, he => he acc M h0
  | d :: ds, i, acc, M, hs, h0, he => by
    obtain ⟨ρ1, ep, h⟩ := hs 0 d acc M rfl h0
    show wp (match q.put M d ρ with
      | some ρ1 => C.bind (C.ne (t ρ1)) (fun b => if b = true then C.bind (C.ne (e ρ1)) (fun y => if acc.length < sizeLine then lcS q t e ρ ds (acc ++ [y]) else C.bad) else lcS q t e ρ ds acc) M
      | none => .bad) Q E
    rw [ep]
    show wp (C.bind (C.ne (t ρ1)) (fun b => if b = true then C.bind (C.ne (e ρ1)) (fun y => if acc.length < sizeLine then lcS q t e ρ ds (acc ++ [y]) else C.bad) else lcS q t e ρ ds acc) M) Q E
    have go : ∀ acc M', I (i + 0 + 1) acc M' → wp (lcS q t e ρ ds acc M') Q E := fun acc M' hi =>
      wp_lc (i := i + 1) I (fun j d acc M hd hj => by
        obtain ⟨ρ2, e2, h2⟩ := hs (j + 1) d acc M hd (by rw [show i + (j + 1) = i + 1 + j by omega]; exact hj)
        exact ⟨ρ2, e2, by rw [show i + 1 + j + 1 = i + (j + 1) + 1 by omega]; exact h2⟩) hi (fun acc M hm => he acc M (by rw [List.length_cons, show i + (ds.length + 1) = i + 1 + ds.length by omega]; exact hm))
    rw [wp_bind, wp_ne]
    refine wp_mono h (fun b M' hb => ?_) fun _ _ _ _ z => z.elim
    cases b with
    | false => simp only [Bool.false_eq_true, if_false] at hb ⊢; exact go _ _ hb
    | true =>
      simp only [if_true] at hb ⊢
      rw [wp_bind, wp_ne]
      refine wp_mono hb (fun y M'' hy => ?_) fun _ _ _ _ z => z.elim
      rw [if_pos hy.1]
      exact go _ _ hy.2
end DL
end
section
set_option Elab.async false
set_option linter.all false
set_option maxRecDepth 100000
set_option maxHeartbeats 1000000
namespace DL
open PySem PySem.Spec PyProof.Rows L2
section
variable {α : Type} {Q : D → Sto → Prop} {QL : List D → Sto → Prop} {QB : Bool → Sto → Prop} {QO : Out → Sto → Prop} {E : EC} {ρ : Env} {M : Sto} {f g : Env → C D} {h : Env → C (List D)} {t u : Env → C Bool} {k : D → D → C D} {kU : D → C D} {kL : List D → C D} {x y d : D} {i j : Int} {b : Bool}
theorem wp_dB : wp (dB k f g ρ M) Q E = wp (f ρ M) (fun x M1 => wp (g ρ M1) (fun y M2 => wp (k x y M2) Q E) E) E := by unfold dB; rw [wp_bind]; congr 1; funext x M1; rw [wp_bind]
theorem wp_dU : wp (dU kU f ρ M) Q E = wp (f ρ M) (fun x M1 => wp (kU x M1) Q E) E := by unfold dU; rw [wp_bind]
theorem wp_cB : wp (cB kL h ρ M) Q E = wp (h ρ M) (fun xs M1 => wp (kL xs M1) Q E) E := by unfold cB; rw [wp_bind]
theorem wp_aNil : wp (aNil ρ M) QL E = QL [] M := rfl
theorem wp_aCons : wp (aCons f h ρ M) QL E = wp (f ρ M) (fun x M1 => wp (h ρ M1) (fun xs M2 => QL (x :: xs) M2) E) E := by
  unfold aCons; rw [wp_bind]; congr 1; funext x M1; rw [wp_bind]; rfl
theorem wp_dC : wp (dC d ρ M) Q E = Q d M := rfl
theorem wp_var0 {r : Env} : wp (dVar 0 (some d :: r) M) Q E = Q d M := rfl
theorem wp_varS {r : Env} {o : Option D} {n : Nat} : wp (dVar (n + 1) (o :: r) M) Q E = wp (dVar n r M) Q E := rfl
theorem wp_tV : wp (tV f ρ M) QB E = wp (f ρ M) (fun x M1 => wp (asB x M1) QB E) E := by unfold tV; rw [wp_bind]
theorem wp_asB : wp (asB (.bl b) M) QB E = QB b M := rfl
theorem wp_tNot : wp (tNotD t ρ M) QB E = wp (t ρ M) (fun b M1 => QB (!b) M1) E := by unfold tNotD; rw [wp_bind]; rfl
theorem wp_tAnd : wp (tAndD t u ρ M) QB E = wp (t ρ M) (fun b M1 => if b = true then wp (u ρ M1) QB E else QB false M1) E := by
  unfold tAndD; rw [wp_bind]; congr 1; funext b M1; rw [wp_if]; rfl
theorem wp_tOr : wp (tOrD t u ρ M) QB E = wp (t ρ M) (fun b M1 => if b = true then QB true M1 else wp (u ρ M1) QB E) E := by
  unfold tOrD; rw [wp_bind]; congr 1; funext b M1; rw [wp_if]; rfl
theorem wp_vAnd : wp (vAnd f g ρ M) Q E = wp (f ρ M) (fun x M1 => wp (asB x M1) (fun b M2 => if b = true then wp (g ρ M2) Q E else Q (.bl false) M2) E) E := by
  unfold vAnd; rw [wp_bind, wp_tV]; congr 1; funext x M1; congr 1; funext b M2; rw [wp_if]; rfl
theorem wp_vOr : wp (vOr f g ρ M) Q E = wp (f ρ M) (fun x M1 => wp (asB x M1) (fun b M2 => if b = true then Q (.bl true) M2 else wp (g ρ M2) Q E) E) E := by
  unfold vOr; rw [wp_bind, wp_tV]; congr 1; funext x M1; congr 1; funext b M2; rw [wp_if]; rfl
theorem wp_vNot : wp (vNot f ρ M) Q E = wp (f ρ M) (fun x M1 => wp (asB x M1) (fun b M2 => Q (.bl (!b)) M2) E) E := by
  unfold vNot; rw [wp_bind, wp_tV]; rfl
theorem wp_vIf : wp (vIf t f g ρ M) Q E = wp (t ρ M) (fun b M1 => if b = true then wp (f ρ M1) Q E else wp (g ρ M1) Q E) E := by
  unfold vIf; rw [wp_bind]; congr 1; funext b M1; rw [wp_if]
theorem wp_dTup : wp (dTup h ρ M) Q E = wp (h ρ M) (fun xs M1 => xs.length ≤ sizeLine ∧ Q (.tup xs) M1) E := by
  unfold dTup; rw [wp_bind]; congr 1; funext xs M1; rw [wp_if, wp_pure, wp_cbad]
  by_cases z : xs.length ≤ sizeLine <;> simp [z]
theorem wp_dLst : wp (dLst h ρ M) Q E = wp (h ρ M) (fun xs M1 => xs.length ≤ sizeLine ∧ Q (.lst xs) M1) E := by
  unfold dLst; rw [wp_bind]; congr 1; funext xs M1; rw [wp_if, wp_pure, wp_cbad]
  by_cases z : xs.length ≤ sizeLine <;> simp [z]
theorem wp_dLstM : wp (dLstM h ρ M) Q E = wp (h ρ M) (fun xs M1 => xs.length ≤ sizeLine ∧ Q (.ptr M1.length) (M1 ++ [.lst xs])) E := by
  unfold dLstM; rw [wp_bind]; congr 1; funext xs M1; rw [wp_if, wp_cbad]
  by_cases z : xs.length ≤ sizeLine
  · simp only [z, if_true, true_and]; rfl
  · simp only [z, if_false, false_and]
theorem wp_dDic0 : wp (dDic0 ρ M) Q E = Q (.dic [] []) M := rfl
theorem wp_sRt : wp (sRt f ρ M) QO E = wp (f ρ M) (fun d M1 => QO (.rt d) M1) (fun c fn ds M' => QO (.ex c fn ds ρ) M') := by unfold sRt; rw [wp_lift]; rfl
theorem wp_sEx : wp (sEx f ρ M) QO E = wp (f ρ M) (fun d M1 => QO (.nx ρ) M1) (fun c fn ds M' => QO (.ex c fn ds ρ) M') := by unfold sEx; rw [wp_lift]; rfl
theorem wp_sPar {a c : Nat} : wp (sPar a c h ρ M) QO E = wp (h ρ M) (fun ds M1 => ∃ d e, ds = [d, e] ∧ QO (.nx ((ρ.set a (some d)).set c (some e))) M1) (fun c fn ds M' => QO (.ex c fn ds ρ) M') := by
  unfold sPar; rw [wp_lift]; congr 1; funext ds M1
  cases ds with
  | nil => exact propext ⟨fun z => z.elim, fun ⟨_, _, z, _⟩ => nomatch z⟩
  | cons a l => cases l with
    | nil => exact propext ⟨fun z => z.elim, fun ⟨_, _, z, _⟩ => nomatch z⟩
    | cons b l => cases l with
      | nil => exact propext ⟨fun z => ⟨a, b, rfl, z⟩, fun ⟨_, _, z, q⟩ => by cases z; exact q⟩
      | cons c l => exact propext ⟨fun z => z.elim, fun ⟨_, _, z, _⟩ => nomatch z⟩
theorem wp_sSub {o p : Env → C D} : wp (sSub f o p ρ M) QO E = wp (f ρ M) (fun v M1 => wp (o ρ M1) (fun x M2 => wp (p ρ M2) (fun y M3 => wp (setAt x y v (C.pure (.nx ρ)) M3) QO E) (fun c fn ds M' => QO (.ex c fn ds ρ) M')) (fun c fn ds M' => QO (.ex c fn ds ρ) M')) (fun c fn ds M' => QO (.ex c fn ds ρ) M') := by
  unfold sSub; rw [wp_lift]; congr 1; funext v M1; rw [wp_lift]; congr 1; funext x M2; rw [wp_lift]
/-! primitives -/
theorem wp_sub : wp (dSub (.int i) (.int j) M) Q E = Q (.int (i - j)) M := rfl
theorem wp_add : wp (dAdd (.int i) (.int j) M) Q E = Q (.int (i + j)) M := rfl
theorem wp_lt : wp (dLt (.int i) (.int j) M) Q E = Q (.bl (decide (i < j))) M := rfl
theorem wp_le : wp (dLe (.int i) (.int j) M) Q E = Q (.bl (decide (i ≤ j))) M := rfl
theorem wp_gt : wp (dGt (.int i) (.int j) M) Q E = Q (.bl (decide (j < i))) M := rfl
theorem wp_ge : wp (dGe (.int i) (.int j) M) Q E = Q (.bl (decide (j ≤ i))) M := rfl
theorem wp_neg : wp (dNeg (.int i) M) Q E = Q (.int (-i)) M := rfl
theorem wp_mod : wp (dMod (.int i) (.int j) M) Q E = (0 < j ∧ Q (.int (i % j)) M) := by
  show wp ((if decide (0 < j) = true then C.pure (D.int (i % j)) else C.bad) M) Q E = _
  rw [wp_if, wp_pure, wp_cbad]; by_cases z : 0 < j <;> simp [z]
theorem wp_fdiv : wp (dFdiv (.int i) (.int j) M) Q E = ((0 < j ∧ small2 9000 j = true) ∧ Q (.int (i / j)) M) := by
  show wp ((if (decide (0 < j) && small2 9000 j) = true then C.pure (D.int (i / j)) else C.bad) M) Q E = _
  rw [wp_if, wp_pure, wp_cbad]; by_cases z : 0 < j <;> by_cases z2 : small2 9000 j = true <;> simp [z, z2]
theorem wp_pow : wp (dPow (.int i) (.int j) M) Q E = ((0 ≤ j ∧ j ≤ 1000000 ∧ i.natAbs < 2 ^ 64) ∧ Q (.int (i ^ j.toNat)) M) := by
  show wp ((if decide (0 ≤ j ∧ j ≤ 1000000 ∧ i.natAbs < 2 ^ 64) = true then C.pure (D.int (i ^ j.toNat)) else C.bad) M) Q E = _
  rw [wp_if, wp_pure, wp_cbad]; by_cases z : 0 ≤ j ∧ j ≤ 1000000 ∧ i.natAbs < 2 ^ 64 <;> simp only [z, decide_true, decide_false, if_true, if_false, true_and, false_and, Bool.false_eq_true]
theorem wp_mul : wp (dMul (.int i) (.int j) M) Q E = (mulOk i j = true ∧ Q (.int (i * j)) M) := by
  show wp ((if mulOk i j = true then C.pure (D.int (i * j)) else C.bad) M) Q E = _
  rw [wp_if, wp_pure, wp_cbad]; by_cases z : mulOk i j = true <;> simp [z]
theorem wp_int : wp (dInt [.int i] M) Q E = Q (.int i) M := rfl
theorem wp_intb : wp (dInt [.bl b] M) Q E = Q (.int (if b then 1 else 0)) M := rfl
theorem wp_abs : wp (dAbs [.int i] M) Q E = Q (.int (if i < 0 then -i else i)) M := rfl
theorem wp_gcd : wp (dGcd [.int i, .int j] M) Q E = Q (.int ((Nat.gcd i.natAbs j.natAbs : Nat) : Int)) M := rfl
def notStr : D → Bool
  | .str _ => false
  | _ => true
theorem eqv_unf {neg : Bool} (hs : notStr x = true) : dEqv neg x y M = match pyM M x, pyM M y with
    | some a, some b => if SeqAt.shaped a && SeqAt.shaped b then .ok (.bl (if neg then !PyData.eqv a b else PyData.eqv a b)) M else .bad
    | _, _ => .bad := by
  cases x <;> first | rfl | cases hs
theorem wp_eqv {neg : Bool} (hs : notStr x = true) : wp (dEqv neg x y M) Q E = ∃ a b, pyM M x = some a ∧ pyM M y = some b ∧ SeqAt.shaped a = true ∧ SeqAt.shaped b = true ∧ Q (.bl (if neg then !PyData.eqv a b else PyData.eqv a b)) M := by
  rw [eqv_unf hs]
  cases h1 : pyM M x with
  | none => exact propext ⟨fun z => z.elim, fun ⟨_, _, z, _⟩ => nomatch z⟩
  | some a => cases h2 : pyM M y with
    | none => exact propext ⟨fun z => z.elim, fun ⟨_, _, _, z, _⟩ => nomatch z⟩
    | some b =>
      by_cases z : (SeqAt.shaped a && SeqAt.shaped b) = true
      · simp only [z, if_true, wp_ok]
        simp only [Bool.and_eq_true] at z
        exact propext ⟨fun q => ⟨a, b, rfl, rfl, z.1, z.2, q⟩, fun ⟨_, _, e1, e2, _, _, q⟩ => by cases e1; cases e2; exact q⟩
      · simp only [z, if_false, wp_bad]
        exact propext ⟨fun q => q.elim, fun ⟨_, _, e1, e2, z1, z2, q⟩ => by cases e1; cases e2; exact absurd (by rw [z1, z2]; rfl) z⟩
theorem wp_eqs {neg : Bool} {s r : Str} : wp (dEqv neg (.str s) (.str r) M) Q E = Q (.bl (if neg then !decide (s = r) else decide (s = r))) M := rfl
theorem eqv_int {i j : Int} : PyData.eqv (.int i) (.int j) = decide (i = j) := by
  have : PyData.eqv (.int i) (.int j) = (i == j) := by simp [PyData.eqv]
  rw [this]; rfl
theorem wp_eqi {neg : Bool} : wp (dEqv neg (.int i) (.int j) M) Q E = Q (.bl (if neg then !decide (i = j) else decide (i = j))) M := by
  rw [wp_eqv rfl, ← eqv_int]
  refine propext ⟨fun ⟨a, b, e1, e2, _, _, q⟩ => ?_, fun q => ⟨.int i, .int j, rfl, rfl, rfl, rfl, q⟩⟩
  cases e1; cases e2; exact q
theorem wp_isN : wp (dIsN false x .non M) Q E = Q (.bl (isNon x)) M := rfl
theorem wp_isNn : wp (dIsN true x .non M) Q E = Q (.bl (!isNon x)) M := rfl
theorem isNon_int : isNon (.int i) = false := rfl
theorem isNon_non : isNon .non = true := rfl
theorem wp_withSeq {K' : List D → C D} : wp (withSeq d K' M) Q E = ∃ ds, asSeq M d = some ds ∧ wp (K' ds M) Q E := by
  unfold withSeq
  cases asSeq M d with
  | none => exact propext ⟨fun z => z.elim, fun ⟨_, z, _⟩ => nomatch z⟩
  | some ds => exact propext ⟨fun z => ⟨ds, rfl, z⟩, fun ⟨_, e, z⟩ => by cases e; exact z⟩
theorem wp_of {o : Option D} : wp (C.of o M) Q E = ∃ d, o = some d ∧ Q d M := by
  cases o with
  | none => exact propext ⟨fun z => z.elim, fun ⟨_, z, _⟩ => nomatch z⟩
  | some d => exact propext ⟨fun z => ⟨d, rfl, z⟩, fun ⟨_, e, z⟩ => by cases e; exact z⟩
theorem wp_ix (hs : notStr d = true) : wp (dIx d (.int i) M) Q E = ∃ ds v, asSeq M d = some ds ∧ L2.atI ds i = some v ∧ Q v M := by
  have e : dIx d (.int i) = withSeq d fun ds => C.of (L2.atI ds i) := by
    cases d <;> first | rfl | cases hs
  rw [e, wp_withSeq]
  exact propext ⟨fun ⟨ds, e1, q⟩ => by rw [wp_of] at q; obtain ⟨v, e2, q⟩ := q; exact ⟨ds, v, e1, e2, q⟩, fun ⟨ds, v, e1, e2, q⟩ => ⟨ds, e1, by rw [wp_of]; exact ⟨v, e2, q⟩⟩⟩
/-- an item, where the sequence and the item are known -/
theorem ix_intro {ds : List D} {v : D} (hs : notStr d = true) (e1 : asSeq M d = some ds) (e2 : L2.atI ds i = some v) (q : Q v M) : wp (dIx d (.int i) M) Q E := by rw [wp_ix hs]; exact ⟨ds, v, e1, e2, q⟩
theorem set_intro {n : Nat} {v : D} {ds : List D} {j : Nat} {kk : C Out} (hm : M[n]? = some (.lst ds)) (hj : ixN ds.length i = some j) (q : wp (kk (M.set n (.lst (ds.set j v)))) QO E) : wp (setAt (.ptr n) (.int i) v kk M) QO E := by
  unfold setAt
  simp only [hm, hj]
  exact q
theorem wp_len (hs : notStr d = true) : wp (dLen [d] M) Q E = ∃ ds, asSeq M d = some ds ∧ Q (.int ds.length) M := by
  have e : dLen [d] = withSeq d fun ds => C.pure (.int ds.length) := by
    cases d <;> first | rfl | cases hs
  rw [e, wp_withSeq]; rfl
theorem len_intro {ds : List D} (hs : notStr d = true) (e1 : asSeq M d = some ds) (q : Q (.int ds.length) M) : wp (dLen [d] M) Q E := by rw [wp_len hs]; exact ⟨ds, e1, q⟩
end
end DL
end
section
set_option Elab.async false
set_option linter.all false
set_option maxRecDepth 100000
set_option maxHeartbeats 2000000
namespace DL
open PySem PySem.Spec PyProof.Rows L2
local macro_rules | `(tactic| walk_at "wp") => `(tactic| simp only [wp_eqs, wp_eqi, wp_isN, wp_isNn, isNon_int, isNon_non, wp_def, wp_seq, wp_sIf, seqQ_nx, seqQ_rt, seqQ_ex, seqQ_bk, seqQ_ct, wp_sNx, wp_sSet, wp_sAsgT, wp_sRt, wp_sEx, wp_sPar, wp_sSub, wp_tV, wp_asB, wp_tNot, wp_tAnd, wp_tOr, wp_vAnd, wp_vOr, wp_vNot, wp_vIf, wp_dB, wp_dU, wp_cB, wp_aNil, wp_aCons, wp_dC, wp_var0, wp_varS, wp_dTup, wp_dLst, wp_dLstM, wp_dDic0, wp_sub, wp_add, wp_lt, wp_le, wp_gt, wp_ge, wp_neg, wp_mod, wp_fdiv, wp_pow, wp_mul, wp_int, wp_intb, wp_abs, wp_gcd, wp_bind, wp_pure, wp_ok, wp_cbad, wp_bad, wp_if, outC_rt, outC_nx, outC_ex, List.length_cons, List.length_nil, Nat.zero_add, Nat.reduceAdd, Nat.reduceSub, if_true, if_false, Bool.false_eq_true, List.map_cons, List.map_nil, List.replicate, List.cons_append, List.nil_append, List.set_cons_zero, List.set_cons_succ, List.set_nil, decide_true, decide_false, not_true, not_false_eq_true, Bool.not_true, Bool.not_false])
/-- what draws, at n: it has begun at most B cells -/
def Gau (n : Nat) (B : Int) (M : Sto) : Prop := ∃ (cs : List Int) (t l : Int), M[n]? = some (.lst [.lst (cs.map D.int), .int t, .int l]) ∧ 0 ≤ t ∧ t ≤ B ∧ 0 ≤ l
/-- nothing else has changed -/
def But (n : Nat) (M M' : Sto) : Prop := M'.length = M.length ∧ ∀ i, i ≠ n → M'[i]? = M[i]?
def dialA (p1 a1 b1 p2 b2 a2 c2 p3 : Int) : SF :=
    sSeq (sIf (tV (dB dGt (dB dIx (dVar 0) (dC (.int 2))) (dC (.int 0))))
    (sSeq (sAsg (cB dInt (aCons (dB dIx (dVar 0) (dC (.int 2))) (aNil))) (.nm 2))
    (sSeq (sSub (dB dFdiv (dVar 2) (dVar 1)) (dVar 0) (dC (.int 2)))
    (sRt (dB dMod (cB dInt (aCons (dVar 2) (aNil))) (dVar 1)))))
    (sNx))
    (sSeq (sAsg (dB dIx (dVar 0) (dC (.int 1))) (.nm 3))
    (sSeq (sSub (dB dAdd (dVar 3) (dC (.int 1))) (dVar 0) (dC (.int 1)))
    (sSeq (sIf (tV (dB (dEqv false) (dB dIx (dVar 0) (dC (.int 0))) (dLst (aNil))))
    (sRt (dC (.int 0)))
    (sNx))
    (sSeq (sAsg (dB dIx (dB dIx (dVar 0) (dC (.int 0))) (dB dMod (cB dInt (aCons (dVar 3) (aNil))) (cB dLen (aCons (dB dIx (dVar 0) (dC (.int 0))) (aNil))))) (.nm 4))
    (sSeq (sIf (tAndD (tV (dB dLt (dVar 3) (cB dLen (aCons (dB dIx (dVar 0) (dC (.int 0))) (aNil))))) (tV (dB dGe (cB dAbs (aCons (dVar 4) (aNil))) (dB dPow (dC (.int 10)) (dC (.int 18))))))
    (sSeq (sAsg (dB dAdd (dB dMul (dC (.int 2)) (dB dSub (cB dAbs (aCons (cB dInt (aCons (dVar 4) (aNil))) (aNil))) (dB dPow (dC (.int 10)) (dC (.int 18))))) (cB dInt (aCons (dB dLt (dVar 4) (dC (.int 0))) (aNil)))) (.nm 2))
    (sSeq (sSub (dB dFdiv (dVar 2) (dVar 1)) (dVar 0) (dC (.int 2)))
    (sRt (dB dMod (cB dInt (aCons (dVar 2) (aNil))) (dVar 1)))))
    (sNx))
    (sSeq (sAsg (dB dMod (cB dInt (aCons (dB dPow (dB dAdd (dB dAdd (dB dMod (cB dInt (aCons (dVar 4) (aNil))) (dC (.int p1))) (dB dMul (dC (.int a1)) (dVar 3))) (dC (.int b1))) (dC (.int 5))) (aNil))) (dC (.int p2))) (.nm 5))
    (sSeq (sAsg (dB dMod (cB dInt (aCons (dB dPow (dB dAdd (dB dAdd (dB dMul (dVar 5) (dB dAdd (dB dMul (dC (.int 2)) (dVar 3)) (dC (.int b2)))) (dB dMul (dB dMul (dC (.int a2)) (dVar 3)) (dVar 3))) (dC (.int c2))) (dC (.int 3))) (aNil))) (dC (.int p3))) (.nm 5))
    (sRt (dB dMod (cB dInt (aCons (dB dFdiv (dVar 5) (dC (.int 64))) (aNil))) (dVar 1))))))))))
theorem asSeq_ptr {M : Sto} {n : Nat} {ds : List D} (h : M[n]? = some (.lst ds)) : asSeq M (.ptr n) = some ds := by
  dsimp only [asSeq]; rw [h]
theorem But.set {n : Nat} {M : Sto} {o : MO} : But n M (M.set n o) := ⟨by rw [List.length_set], fun i h => by rw [List.getElem?_set_ne (Ne.symm h)]⟩
theorem But.trans {n : Nat} {M M1 M2 : Sto} (a : But n M M1) (b : But n M1 M2) : But n M M2 := ⟨b.1.trans a.1, fun i h => (b.2 i h).trans (a.2 i h)⟩
theorem py0s_ints : ∀ cs : List Int, py0s (cs.map D.int) = some (cs.map PyData.int)
  | [] => rfl
  | c :: cs => by
    show (match py0 (D.int c), py0s (cs.map D.int) with
      | some x, some xs => some (x :: xs)
      | _, _ => none) = _
    rw [py0s_ints cs]; rfl
theorem py_ints {M : Sto} (cs : List Int) : pyM M (.lst (cs.map D.int)) = some (.list (cs.map PyData.int)) := by
  show (py0s (cs.map D.int)).map PyData.list = _
  rw [py0s_ints]; rfl
theorem lay_ints : ∀ cs : List Int, PyData.canLayAll0 (cs.map PyData.int) = true
  | [] => by simp [PyData.canLayAll0]
  | c :: cs => by simp [PyData.canLayAll0, PyData.canLay0, lay_ints cs]
theorem depth_ints : ∀ cs : List Int, PyData.depthAll (cs.map PyData.int) ≤ 1
  | [] => by simp [PyData.depthAll]
  | c :: cs => by simp [PyData.depthAll, PyData.depth]; exact depth_ints cs
theorem shaped_ints (cs : List Int) : SeqAt.shaped (.list (cs.map PyData.int)) = true := by
  unfold SeqAt.shaped
  have := depth_ints cs
  have e : (PyData.list (cs.map PyData.int)).depth = PyData.depthAll (cs.map PyData.int) + 1 := by simp [PyData.depth]
  rw [e]
  simp only [PyData.canLay0, lay_ints, Bool.true_and, decide_eq_true_eq]
  omega
theorem eqv_ints_nil (cs : List Int) : PyData.eqv (.list (cs.map PyData.int)) (.list []) = cs.isEmpty := by
  cases cs <;> simp [PyData.eqv, PyData.eqvAll]
theorem mulOk_l {i j : Int} (h : i.natAbs < 2 ^ 64) : mulOk i j = true := by
  unfold mulOk
  simp only [Bool.or_eq_true, decide_eq_true_eq]
  exact .inl (.inl (by omega))
section
variable {n : Nat} {B m : Int} {M : Sto} {E : EC} {p1 a1 b1 p2 b2 a2 c2 p3 : Int}
theorem dialA_spec (h : Gau n B M) (hB : B ≤ 500000) (hm : 1 ≤ m) (hm2 : small2 9000 m = true) (h1 : 0 < p1 ∧ p1 < 2 ^ 32) (h2 : 0 < a1 ∧ a1 < 2 ^ 20 ∧ 0 < b1 ∧ b1 < 2 ^ 20) (h3 : 0 < p2 ∧ p2 < 2 ^ 31) (h4 : 0 < b2 ∧ b2 < 2 ^ 20 ∧ 0 < a2 ∧ a2 < 2 ^ 20 ∧ 0 < c2 ∧ c2 < 2 ^ 20) (h5 : 0 < p3) :
    wp (dDef 6 2 (dialA p1 a1 b1 p2 b2 a2 c2 p3) [.ptr n, .int m] M) (fun d M' => ∃ v, d = .int v ∧ 0 ≤ v ∧ v < m ∧ Gau n (B + 1) M' ∧ But n M M') E := by
  obtain ⟨cs, t, l, hM, t0, tB, l0⟩ := h
  have hn : n < M.length := (List.getElem?_eq_some_iff.mp hM).1
  (try walk_at "wp")
  unfold dialA
  (try walk_at "wp")
  refine ix_intro rfl (asSeq_ptr hM) rfl ?_
  (try walk_at "wp")
  by_cases hl : 0 < l
  · simp only [hl]
    (try walk_at "wp")
    refine ix_intro rfl (asSeq_ptr hM) rfl ?_
    (try walk_at "wp")
    refine ⟨⟨by omega, hm2⟩, set_intro hM rfl ?_⟩
    (try walk_at "wp")
    refine ⟨by omega, _, rfl, Int.emod_nonneg _ (by omega), Int.emod_lt_of_pos _ (by omega), ⟨cs, t, l / m, ?_, t0, by omega, Int.ediv_nonneg l0 (by omega)⟩, But.set⟩
    rw [List.getElem?_set_self hn]
    rfl
  · simp only [hl]
    (try walk_at "wp")
    refine ix_intro rfl (asSeq_ptr hM) rfl ?_
    (try walk_at "wp")
    refine set_intro hM rfl ?_
    (try walk_at "wp")
    have hM1 : (M.set n (MO.lst [D.lst (cs.map D.int), D.int (t + 1), D.int l]))[n]? = some (MO.lst [D.lst (cs.map D.int), D.int (t + 1), D.int l]) := List.getElem?_set_self hn
    have hB1 : But n M (M.set n (MO.lst [D.lst (cs.map D.int), D.int (t + 1), D.int l])) := But.set
    show wp (dIx (D.ptr n) (D.int 0) (M.set n (MO.lst [D.lst (cs.map D.int), D.int (t + 1), D.int l]))) _ _
    generalize M.set n (MO.lst [D.lst (cs.map D.int), D.int (t + 1), D.int l]) = M1 at hM1 hB1
    have hn1 : n < M1.length := (List.getElem?_eq_some_iff.mp hM1).1
    have gau1 : Gau n (B + 1) M1 := ⟨cs, t + 1, l, hM1, by omega, by omega, l0⟩
    refine ix_intro rfl (asSeq_ptr hM1) rfl ⟨Nat.zero_le _, ?_⟩
    rw [wp_eqv rfl]
    refine ⟨_, _, py_ints cs, rfl, shaped_ints cs, rfl, ?_⟩
    rw [eqv_ints_nil]
    (try walk_at "wp")
    cases cs with
    | nil =>
      simp only [List.isEmpty_nil, if_true, Bool.false_eq_true, if_false]
      (try walk_at "wp")
      exact ⟨0, rfl, by omega, by omega, gau1, hB1⟩
    | cons c0 cr =>
      have hlen : 0 < (c0 :: cr).length := Nat.succ_pos _
      generalize hcs : c0 :: cr = cs at hM1 hlen gau1
      have hne : cs.isEmpty = false := by rw [← hcs]; rfl
      simp only [hne, if_false, Bool.false_eq_true]
      (try walk_at "wp")
      refine ix_intro rfl (asSeq_ptr hM1) rfl ?_
      (try walk_at "wp")
      refine ix_intro rfl (asSeq_ptr hM1) rfl ?_
      refine len_intro (ds := cs.map D.int) rfl rfl ?_
      rw [wp_mod, List.length_map]
      refine ⟨by omega, ?_⟩
      have hr0 : 0 ≤ t % (cs.length : Int) := Int.emod_nonneg _ (by omega)
      have hr1 : t % (cs.length : Int) < cs.length := Int.emod_lt_of_pos _ (by omega)
      have hlt : (t % (cs.length : Int)).toNat < cs.length := by omega
      obtain ⟨c, hc⟩ : ∃ c, cs[(t % (cs.length : Int)).toNat]? = some c := ⟨_, List.getElem?_eq_getElem hlt⟩
      refine ix_intro (ds := cs.map D.int) (v := D.int c) rfl rfl (by
        have e : (cs.map D.int)[(t % (cs.length : Int)).toNat]? = some (D.int c) := by rw [List.getElem?_map, hc]; rfl
        have := L2.atI_nat e
        rw [Int.toNat_of_nonneg hr0] at this
        exact this) ?_
      (try walk_at "wp")
      refine ix_intro rfl (asSeq_ptr hM1) rfl ?_
      refine len_intro (ds := cs.map D.int) rfl rfl ?_
      (try walk_at "wp")
      have tail : 0 < p1 ∧ mulOk a1 t = true ∧ ((0 : Int) ≤ 5 ∧ (5 : Int) ≤ 1000000 ∧ (c % p1 + a1 * t + b1).natAbs < 2 ^ 64) ∧ 0 < p2 ∧ mulOk 2 t = true ∧ mulOk ((c % p1 + a1 * t + b1) ^ Int.toNat 5 % p2) (2 * t + b2) = true ∧ mulOk a2 t = true ∧ mulOk (a2 * t) t = true ∧
          ((0 : Int) ≤ 3 ∧ (3 : Int) ≤ 1000000 ∧ ((c % p1 + a1 * t + b1) ^ Int.toNat 5 % p2 * (2 * t + b2) + a2 * t * t + c2).natAbs < 2 ^ 64) ∧ 0 < p3 ∧ ((0 : Int) < 64 ∧ small2 9000 64 = true) ∧ 0 < m ∧
          ∃ v, D.int (((c % p1 + a1 * t + b1) ^ Int.toNat 5 % p2 * (2 * t + b2) + a2 * t * t + c2) ^ Int.toNat 3 % p3 / 64 % m) = D.int v ∧ 0 ≤ v ∧ v < m ∧ Gau n (B + 1) M1 ∧ But n M M1 := by
        have t5 : t ≤ 500000 := by omega
        have hA : a1 * t ≤ 1048576 * 500000 := Int.mul_le_mul (by omega) t5 t0 (by omega)
        have hA0 : 0 ≤ a1 * t := Int.mul_nonneg (by omega) t0
        have hr0 : 0 ≤ c % p1 := Int.emod_nonneg _ (by omega)
        have hr1 : c % p1 < p1 := Int.emod_lt_of_pos _ (by omega)
        refine ⟨h1.1, mulOk_l (by omega), ⟨by omega, by omega, by omega⟩, h3.1, ?_⟩
        generalize hx : (c % p1 + a1 * t + b1) ^ (5 : Int).toNat % p2 = x
        have x0 : 0 ≤ x := by rw [← hx]; exact Int.emod_nonneg _ (by omega)
        have x1 : x < p2 := by rw [← hx]; exact Int.emod_lt_of_pos _ (by omega)
        have hB0 : 0 ≤ x * (2 * t + b2) := Int.mul_nonneg x0 (by omega)
        have hB1' : x * (2 * t + b2) ≤ 2147483648 * 2097152 := Int.mul_le_mul (by omega) (by omega) (by omega) (by omega)
        have hC : a2 * t ≤ 1048576 * 500000 := Int.mul_le_mul (by omega) t5 t0 (by omega)
        have hC0 : 0 ≤ a2 * t := Int.mul_nonneg (by omega) t0
        have hD : a2 * t * t ≤ 1048576 * 500000 * 500000 := Int.mul_le_mul hC t5 t0 (by omega)
        have hD0 : 0 ≤ a2 * t * t := Int.mul_nonneg hC0 t0
        refine ⟨mulOk_l (by omega), mulOk_l (by omega), mulOk_l (by omega), mulOk_l (by omega), ⟨by omega, by omega, by omega⟩, h5, ⟨by omega, by decide⟩, by omega, ?_⟩
        exact ⟨_, rfl, Int.emod_nonneg _ (by omega), Int.emod_lt_of_pos _ (by omega), gau1, hB1⟩
      by_cases ht : t < ((cs.map D.int).length : Int)
      · simp only [ht]
        (try walk_at "wp")
        refine ⟨⟨by omega, by omega, by omega⟩, ?_⟩
        by_cases hbig : (10 : Int) ^ (18 : Int).toNat ≤ if c < 0 then -c else c
        · simp only [hbig]
          (try walk_at "wp")
          refine ⟨⟨by omega, by omega, by omega⟩, mulOk_l (by omega), ⟨by omega, hm2⟩, set_intro hM1 rfl ?_⟩
          (try walk_at "wp")
          have nn : 0 ≤ 2 * ((if c < 0 then -c else c) - 10 ^ (18 : Int).toNat) + (if decide (c < 0) = true then 1 else 0) := by
            have : (0 : Int) ≤ if decide (c < 0) = true then 1 else 0 := by split <;> omega
            omega
          refine ⟨by omega, _, rfl, Int.emod_nonneg _ (by omega), Int.emod_lt_of_pos _ (by omega), ⟨cs, t + 1, _, ?_, by omega, by omega, Int.ediv_nonneg (b := m) nn (by omega)⟩, hB1.trans But.set⟩
          rw [List.getElem?_set_self hn1]
          rfl
        · simp only [hbig]
          (try walk_at "wp")
          exact tail
      · simp only [ht]
        (try walk_at "wp")
        exact tail
end
end DL
end
section
set_option Elab.async false
set_option linter.all false
set_option maxRecDepth 100000
set_option maxHeartbeats 2000000
/-! how long what repr writes can be -/
namespace DL
open PySem PySem.Spec PyProof.Rows L2
mutual
def lenB : PyData → Nat
  | .none => 4
  | .bool _ => 5
  | .int _ => 1922
  | .str x => 10 * x.length + 2
  | .list xs => lenBs xs + 3
  | .tuple xs => lenBs xs + 3
  | .dict _ => 0
def lenBs : List PyData → Nat
  | [] => 0
  | x :: xs => lenB x + lenBs xs + 2
end
mutual
def okS : PyData → Bool
  | .none => true
  | .bool _ => true
  | .int i => decide (i.natAbs.log2 < 1920)
  | .str x => x.cps.toList.all fun c => decide (c < 16 ^ 8)
  | .list xs => okSs xs
  | .tuple xs => okSs xs
  | .dict _ => false
def okSs : List PyData → Bool
  | [] => true
  | x :: xs => okS x && okSs xs
end
theorem int_len {i : Int} (h : i.natAbs.log2 < 1920) : (Str.ofString (toString i)).length ≤ 1922 := by
  have e := int_text_length_le (k := 1920) (by decide) h
  rw [PySem.ofString_length]; omega
mutual
theorem shown_len : ∀ d : PyData, okS d = true → d.shown.length ≤ lenB d
  | .none, _ => by simp only [PyData.shown, lenB]; decide
  | .bool b, _ => by cases b <;> simp only [PyData.shown, lenB] <;> decide
  | .int i, h => by
    simp only [okS, decide_eq_true_eq] at h
    simp only [PyData.shown, lenB]
    exact int_len h
  | .str x, h => by
    simp only [okS, List.all_eq_true, decide_eq_true_eq] at h
    simp only [PyData.shown, lenB]
    exact PySem.StrLaws.reprText_len x h
  | .list xs, h => by
    simp only [okS] at h
    have := shown_lens xs h
    simp only [PyData.shown, lenB]
    have := listText_len_le (PyData.shownAll xs)
    omega
  | .tuple xs, h => by
    simp only [okS] at h
    have := shown_lens xs h
    simp only [PyData.shown, lenB]
    have := tupleText_len_le (PyData.shownAll xs)
    omega
  | .dict _, h => by simp [okS] at h
theorem shown_lens : ∀ xs : List PyData, okSs xs = true → ((PyData.shownAll xs).map (·.length)).sum + 2 * (PyData.shownAll xs).length ≤ lenBs xs
  | [], _ => by simp [PyData.shownAll]
  | x :: xs, h => by
    simp only [okSs, Bool.and_eq_true] at h
    have a := shown_len x h.1
    have b := shown_lens xs h.2
    simp only [PyData.shownAll, lenBs, List.map_cons, List.sum_cons, List.length_cons]
    omega
end
mutual
theorem okS_showable : ∀ d : PyData, okS d = true → d.showable = true ∧ d.hasDict = false
  | .none, _ => ⟨rfl, rfl⟩
  | .bool b, _ => ⟨rfl, rfl⟩
  | .int i, h => ⟨by simpa [okS, PyData.showable] using h, rfl⟩
  | .str x, h => ⟨rfl, rfl⟩
  | .list xs, h => by simp only [okS] at h; simpa [PyData.showable, PyData.hasDict] using okS_showables xs h
  | .tuple xs, h => by simp only [okS] at h; simpa [PyData.showable, PyData.hasDict] using okS_showables xs h
  | .dict _, h => by simp [okS] at h
theorem okS_showables : ∀ xs : List PyData, okSs xs = true → PyData.showableAll xs = true ∧ PyData.hasDictAll xs = false
  | [], _ => ⟨rfl, rfl⟩
  | x :: xs, h => by
    simp only [okSs, Bool.and_eq_true] at h
    have a := okS_showable x h.1
    have b := okS_showables xs h.2
    exact ⟨by simp [PyData.showableAll, a.1, b.1], by simp [PyData.hasDictAll, a.2, b.2]⟩
end
theorem reprOk_of {d : PyData} (h : okS d = true) (hd : d.depth ≤ 60) (hl : lenB d ≤ sizeLine) : reprOk d = true := by
  have a := okS_showable d h
  have b := shown_len d h
  unfold reprOk
  simp only [a.1, a.2, Bool.not_false, Bool.and_true, Bool.true_and, Bool.and_eq_true, decide_eq_true_eq]
  exact ⟨hd, by omega⟩
/-- repr, where it is known what is written -/
theorem repr_eq {d : D} {q : PyData} {M : Sto} (e : pyM M d = some q) (h : reprOk q = true) (hn : d ≠ .dic [] []) : dRepr [d] M = .ok (.str q.shown) M := by
  have go : dRepr [d] M = (match pyM M d with
      | some q => if reprOk q = true then .ok (.str q.shown) M else .bad
      | none => .bad) := by
    unfold dRepr
    cases d with
    | dic ks ds => cases ks with
      | nil => cases ds with
        | nil => exact (hn rfl).elim
        | cons _ _ => rfl
      | cons _ _ => rfl
    | _ => rfl
  rw [go, e]
  dsimp only
  rw [if_pos h]
theorem log_fits {i : Int} {k : Nat} (h : i.natAbs < 2 ^ k) (hk : k ≤ 1920 := by decide) (h0 : 0 < k := by decide) : i.natAbs.log2 < 1920 := by
  by_cases z : i.natAbs = 0
  · rw [z]; decide
  · have := (Nat.log2_lt z).mpr h; omega
end DL
end
section
set_option Elab.async false
set_option linter.all false
set_option maxRecDepth 100000
set_option maxHeartbeats 2000000
/-! the gauge and what is picked -/
namespace DL
open PySem PySem.Spec PyProof.Rows L2
local macro_rules | `(tactic| walk_at "wp") => `(tactic| simp only [wp_eqs, wp_eqi, wp_isN, wp_isNn, isNon_int, isNon_non, wp_def, wp_seq, wp_sIf, seqQ_nx, seqQ_rt, seqQ_ex, seqQ_bk, seqQ_ct, wp_sNx, wp_sSet, wp_sAsgT, wp_sRt, wp_sEx, wp_sPar, wp_sSub, wp_tV, wp_asB, wp_tNot, wp_tAnd, wp_tOr, wp_vAnd, wp_vOr, wp_vNot, wp_vIf, wp_dB, wp_dU, wp_cB, wp_aNil, wp_aCons, wp_dC, wp_var0, wp_varS, wp_dTup, wp_dLst, wp_dLstM, wp_dDic0, wp_sub, wp_add, wp_lt, wp_le, wp_gt, wp_ge, wp_neg, wp_mod, wp_fdiv, wp_pow, wp_mul, wp_int, wp_intb, wp_abs, wp_gcd, wp_bind, wp_pure, wp_ok, wp_cbad, wp_bad, wp_if, outC_rt, outC_nx, outC_ex, List.length_cons, List.length_nil, Nat.zero_add, Nat.reduceAdd, Nat.reduceSub, if_true, if_false, Bool.false_eq_true, List.map_cons, List.map_nil, List.replicate, List.cons_append, List.nil_append, List.set_cons_zero, List.set_cons_succ, List.set_nil, decide_true, decide_false, not_true, not_false_eq_true, Bool.not_true, Bool.not_false])
theorem small2_le {i : Int} (h0 : 0 ≤ i) (h : i < 2 ^ 64) : small2 9000 i = true := by
  unfold small2
  rw [decide_eq_true_eq]
  have := log_fits (i := i) (k := 64) (by omega)
  omega
/-- what draws below a bound -/
def DialOk (F : List D → C D) : Prop := ∀ (n : Nat) (B m : Int) (M : Sto) (E : EC), Gau n B M → B ≤ 500000 → 1 ≤ m → m < 2 ^ 64 → wp (F [.ptr n, .int m] M) (fun d M' => ∃ v, d = .int v ∧ 0 ≤ v ∧ v < m ∧ Gau n (B + 1) M' ∧ But n M M') E
theorem dialA_ok {p1 a1 b1 p2 b2 a2 c2 p3 : Int} (h1 : 0 < p1 ∧ p1 < 2 ^ 32) (h2 : 0 < a1 ∧ a1 < 2 ^ 20 ∧ 0 < b1 ∧ b1 < 2 ^ 20) (h3 : 0 < p2 ∧ p2 < 2 ^ 31) (h4 : 0 < b2 ∧ b2 < 2 ^ 20 ∧ 0 < a2 ∧ a2 < 2 ^ 20 ∧ 0 < c2 ∧ c2 < 2 ^ 20) (h5 : 0 < p3) : DialOk (dDef 6 2 (dialA p1 a1 b1 p2 b2 a2 c2 p3)) :=
  fun n B m M E h hB hm hm2 => dialA_spec h hB hm (small2_le (by omega) hm2) h1 h2 h3 h4 h5
def pickB (F : List D → C D) : SF := sRt (dB dIx (dVar 1) (cB F (aCons (dVar 0) (aCons (cB dLen (aCons (dVar 1) (aNil))) (aNil)))))
theorem Gau.mono {n : Nat} {B C : Int} {M : Sto} (h : Gau n B M) (l : B ≤ C) : Gau n C M := by
  obtain ⟨cs, t, k, a, b, c, e⟩ := h
  exact ⟨cs, t, k, a, b, by omega, e⟩
theorem atI_lt {ds : List D} {v : Int} (h0 : 0 ≤ v) (h : v < ds.length) : ∃ d, L2.atI ds v = some d ∧ d ∈ ds := by
  have hlt : v.toNat < ds.length := by omega
  have e : ds[v.toNat]? = some ds[v.toNat] := List.getElem?_eq_getElem hlt
  have := L2.atI_nat e
  rw [Int.toNat_of_nonneg h0] at this
  exact ⟨_, this, List.getElem_mem hlt⟩
theorem pick_ok {F : List D → C D} (hF : DialOk F) {n : Nat} {B : Int} {M : Sto} {E : EC} {ds : List D} (h : Gau n B M) (hB : B ≤ 500000) (h1 : 1 ≤ ds.length) (h2 : ds.length < 2 ^ 64) :
    wp (dDef 2 2 (pickB F) [.ptr n, .lst ds] M) (fun d M' => d ∈ ds ∧ Gau n (B + 1) M' ∧ But n M M') E := by
  unfold pickB
  (try walk_at "wp")
  refine len_intro (ds := ds) rfl rfl ?_
  (try walk_at "wp")
  refine wp_mono (hF n B ds.length M _ h hB (by omega) (by omega)) (fun d M' ⟨v, e, h3, h4, h5, h6⟩ => ?_) fun _ _ _ _ z => z
  subst e
  obtain ⟨d, e, hd⟩ := atI_lt h3 h4
  refine ix_intro (ds := ds) rfl rfl e ?_
  (try walk_at "wp")
  exact ⟨hd, h5, h6⟩
/-- how a law begins -/
def gaugeB (k : Int) : SF := sRt (dLstM (aCons (dLc (dIt (dSlice (dVar 0) (pNo) (pSo (dC (.int k))))) (.nm 1) (tYesD) (cB dInt (aCons (dVar 1) (aNil))) [1]) (aCons (dC (.int 0)) (aCons (dC (.int 0)) (aNil)))))
theorem cut_map {zs : List Int} {lo hi : Option Int} : ∃ ys : List Int, cut (zs.map D.int) lo hi = ys.map D.int ∧ ys.length ≤ zs.length := by
  unfold cut
  refine ⟨(zs.drop (HT.sIx (zs.map D.int).length 0 lo)).take (HT.sIx (zs.map D.int).length (zs.map D.int).length hi - HT.sIx (zs.map D.int).length 0 lo), ?_, ?_⟩
  · rw [List.map_take, List.map_drop]
  · rw [List.length_take, List.length_drop]; omega
theorem wp_dLc {it : Env → C (List D)} {q : Pat} {t : Env → C Bool} {e : Env → C D} {vs : List Nat} {ρ : Env} {M : Sto} {Q : D → Sto → Prop} {E : EC} : wp (dLc it q t e vs ρ M) Q E = wp (it ρ M) (fun ds M1 => wp (lcS q t e (wipeE ρ vs) ds [] M1) (fun acc M2 => Q (.lst acc) M2) E) E := by
  unfold dLc; rw [wp_bind]; congr 1; funext ds M1; rw [wp_bind]; rfl
theorem wp_dIt {f : Env → C D} {ρ : Env} {M : Sto} {Q : List D → Sto → Prop} {E : EC} : wp (dIt f ρ M) Q E = wp (f ρ M) (fun d M1 => wp (items d M1) Q E) E := by
  unfold dIt; rw [wp_bind]
theorem wp_items {ds : List D} {M : Sto} {Q : List D → Sto → Prop} {E : EC} : wp (items (.lst ds) M) Q E = Q ds M := rfl
theorem gauge_ok {k : Int} {zs : List Int} {M : Sto} {E : EC} (hz : zs.length ≤ 63) :
    wp (dDef 2 1 (gaugeB k) [.fz (zs.map D.int)] M) (fun d M' => d = .ptr M.length ∧ Gau M.length 0 M' ∧ M'.length = M.length + 1) E := by
  unfold gaugeB
  (try walk_at "wp")
  rw [wp_dLc, wp_dIt]
  show wp (C.pure (D.lst (cut (zs.map D.int) none (some k))) M) _ _
  obtain ⟨ys, e, hy⟩ := cut_map (zs := zs) (lo := none) (hi := some k)
  rw [e]
  (try walk_at "wp")
  rw [wp_items]
  refine wp_lc (fun i acc M' => acc = (ys.take i).map D.int ∧ M' = M ∧ i ≤ ys.length) (i := 0) (fun j d acc M' hd hi => ?_) ⟨by simp, rfl, Nat.zero_le _⟩ fun acc M' hi => ?_
  · obtain ⟨e1, e2, hl⟩ := hi
    subst e1; subst e2
    rw [List.getElem?_map] at hd
    obtain ⟨y, hy2, e3⟩ := Option.map_eq_some_iff.mp hd
    subst e3
    have hj : j < ys.length := (List.getElem?_eq_some_iff.mp hy2).1
    refine ⟨_, rfl, ?_⟩
    show wp (C.pure true M') _ _
    (try walk_at "wp")
    dsimp only [wipeE, List.set]
    (try walk_at "wp")
    refine ⟨?_, ?_, trivial, by omega⟩
    · rw [List.length_map, List.length_take]
      have : 100 ≤ sizeLine := by decide
      omega
    · rw [List.take_succ, hy2, List.map_append]; rfl
  · obtain ⟨e1, e2, hl⟩ := hi
    subst e1; subst e2
    (try walk_at "wp")
    refine ⟨by decide, trivial, ⟨(ys.take ((ys.map D.int).length)), 0, 0, ?_, by omega, by omega, by omega⟩, by rw [List.length_append]; rfl⟩
    rw [List.getElem?_append_right (Nat.le_refl _), Nat.sub_self]
    rfl
end DL
end
section
set_option Elab.async false
set_option linter.all false
set_option maxRecDepth 100000
set_option maxHeartbeats 4000000
namespace My
open PySem PySem.Spec PyProof.Rows L2 DL
def topS (i : Nat) : Stmt := PySem.Challenge.pw_timesfloor_k02_what_any_value_is.main.body.getD i (.Pass ⟨0, 0, 0, 0⟩)
abbrev s_is_integer : Stmt := topS 2
abbrev s_is_within : Stmt := topS 3
abbrev s_is_list : Stmt := topS 4
abbrev s_parts_of : Stmt := topS 6
abbrev s_is_number : Stmt := topS 10
abbrev s_is_small : Stmt := topS 11
abbrev s__law_gauge : Stmt := topS 13
abbrev s__law_dial_by : Stmt := topS 14
abbrev s__law_pick : Stmt := topS 15
abbrev s__law_is_whole : Stmt := topS 16
abbrev s__law_is_number : Stmt := topS 17
abbrev s__law_value : Stmt := topS 18
abbrev s_law : Stmt := topS 19
/-- what the top has left, but the defs -/
structure Top (K : PySem.W.Frag) (mg : Str → Option Value) : Prop where
  n_abs : mg "abs" = none
  n_bool : mg "bool" = none
  n_gcd : mg "gcd" = some (.builtin "math.gcd")
  n_int : mg "int" = none
  n_isinstance : mg "isinstance" = none
  n_len : mg "len" = none
  n_list : mg "list" = none
  n_range : mg "range" = none
  n_repr : mg "repr" = none
  n_tuple : mg "tuple" = none
  v_MOST_ABOVE : ∃ t, mg "MOST_ABOVE" = some (.int 1000000 t)
  v_MOST_UNDER : ∃ t, mg "MOST_UNDER" = some (.int 1000 t)
theorem sc_is_integer : FnScope ["value"] ["value"] (defScope s_is_integer) := ⟨rfl, rfl, rfl, by decide +kernel, rfl, by decide +kernel, by decide +kernel⟩
theorem sc_is_within : FnScope ["value", "least", "most"] ["value", "least", "most"] (defScope s_is_within) := ⟨rfl, rfl, rfl, by decide +kernel, rfl, by decide +kernel, by decide +kernel⟩
theorem sc_is_list : FnScope ["value", "least", "most"] ["value", "least", "most"] (defScope s_is_list) := ⟨rfl, rfl, rfl, by decide +kernel, rfl, by decide +kernel, by decide +kernel⟩
theorem sc_parts_of : FnScope ["number", "above", "under"] ["number"] (defScope s_parts_of) := ⟨rfl, rfl, rfl, by decide +kernel, rfl, by decide +kernel, by decide +kernel⟩
theorem sc_is_number : FnScope ["value", "above", "under"] ["value"] (defScope s_is_number) := ⟨rfl, rfl, rfl, by decide +kernel, rfl, by decide +kernel, by decide +kernel⟩
theorem sc_is_small : FnScope ["value", "above", "under"] ["value"] (defScope s_is_small) := ⟨rfl, rfl, rfl, by decide +kernel, rfl, by decide +kernel, by decide +kernel⟩
theorem sc__law_gauge : FnScope ["script", "cell"] ["script"] (defScope s__law_gauge) := ⟨rfl, rfl, rfl, by decide +kernel, rfl, by decide +kernel, by decide +kernel⟩
theorem sc__law_dial_by : FnScope ["gauge", "many", "rest", "turn", "cell", "mixed"] ["gauge", "many"] (defScope s__law_dial_by) := ⟨rfl, rfl, rfl, by decide +kernel, rfl, by decide +kernel, by decide +kernel⟩
theorem sc__law_pick : FnScope ["gauge", "some"] ["gauge", "some"] (defScope s__law_pick) := ⟨rfl, rfl, rfl, by decide +kernel, rfl, by decide +kernel, by decide +kernel⟩
theorem sc__law_is_whole : FnScope ["value"] ["value"] (defScope s__law_is_whole) := ⟨rfl, rfl, rfl, by decide +kernel, rfl, by decide +kernel, by decide +kernel⟩
theorem sc__law_is_number : FnScope ["value", "one", "other"] ["value"] (defScope s__law_is_number) := ⟨rfl, rfl, rfl, by decide +kernel, rfl, by decide +kernel, by decide +kernel⟩
theorem sc__law_value : FnScope ["gauge", "whole", "under", "pair", "odd"] ["gauge"] (defScope s__law_value) := ⟨rfl, rfl, rfl, by decide +kernel, rfl, by decide +kernel, by decide +kernel⟩
theorem sc_law : FnScope ["script", "gauge", "turn", "value", "kept", "whole", "least", "most", "within", "due", "small"] ["script"] (defScope s_law) := ⟨rfl, rfl, rfl, by decide +kernel, rfl, by decide +kernel, by decide +kernel⟩
theorem kw_is_integer_0_value : KwB s_is_integer "is_integer" ["value"] ["value"] 0 [0] := fun kV doc pm an cdv ct us ws zs h1 h2 h3 => by
  match us, ws, h1, h2 with
  | [], [w0], _, _ => cases h3; rfl
theorem kw_is_within_0_most_value_least : KwB s_is_within "is_within" ["value", "least", "most"] ["most", "value", "least"] 0 [1, 2, 0] := fun kV doc pm an cdv ct us ws zs h1 h2 h3 => by
  match us, ws, h1, h2 with
  | [], [w0, w1, w2], _, _ => cases h3; rfl
theorem kw_is_small_0_value : KwB s_is_small "is_small" ["value"] ["value"] 0 [0] := fun kV doc pm an cdv ct us ws zs h1 h2 h3 => by
  match us, ws, h1, h2 with
  | [], [w0], _, _ => cases h3; rfl
theorem kw_is_number_0_value : KwB s_is_number "is_number" ["value"] ["value"] 0 [0] := fun kV doc pm an cdv ct us ws zs h1 h2 h3 => by
  match us, ws, h1, h2 with
  | [], [w0], _, _ => cases h3; rfl
noncomputable def B_is_integer : SF :=
    sRt (vAnd (cB dIsi (aCons (dVar 0) (aCons (dC (.ty "int")) (aNil)))) (vNot (cB dIsi (aCons (dVar 0) (aCons (dC (.ty "bool")) (aNil))))))
noncomputable def F_is_integer : List D → C D := dDef 1 1 B_is_integer
noncomputable def B_is_within : SF :=
    sSeq (sIf (tNotD (tV (cB F_is_integer (aCons (dVar 0) (aNil)))))
    (sRt (dC (.bl false)))
    (sNx))
    (sRt (vAnd (vOr (dB (dIsN false) (dVar 1) (dC .non)) (dB dLe (dVar 1) (dVar 0))) (vOr (dB (dIsN false) (dVar 2) (dC .non)) (dB dLe (dVar 0) (dVar 2)))))
noncomputable def F_is_within : List D → C D := dDef 3 3 B_is_within
noncomputable def B_is_list : SF :=
    sSeq (sIf (tNotD (tV (cB dIsi (aCons (dVar 0) (aCons (dTup (aCons (dC (.ty "list")) (aCons (dC (.ty "tuple")) (aNil)))) (aNil))))))
    (sRt (dC (.bl false)))
    (sNx))
    (sRt (vAnd (vOr (dB (dIsN false) (dVar 1) (dC .non)) (dB dLe (dVar 1) (cB dLen (aCons (dVar 0) (aNil))))) (vOr (dB (dIsN false) (dVar 2) (dC .non)) (dB dLe (cB dLen (aCons (dVar 0) (aNil))) (dVar 2)))))
noncomputable def F_is_list : List D → C D := dDef 3 3 B_is_list
noncomputable def B_parts_of : SF :=
    sSeq (sIf (tV (cB dIsi (aCons (dVar 0) (aCons (dC (.ty "int")) (aNil)))))
    (sRt (dTup (aCons (dVar 0) (aCons (dC (.int 1)) (aNil)))))
    (sNx))
    (sSeq (sAsg (dVar 0) (.tp [.nm 1, .nm 2]))
    (sRt (dTup (aCons (dVar 1) (aCons (dVar 2) (aNil))))))
noncomputable def F_parts_of : List D → C D := dDef 3 1 B_parts_of
noncomputable def B_is_number : SF :=
    sSeq (sIf (tV (cB F_is_integer (aCons (dVar 0) (aNil))))
    (sRt (dC (.bl true)))
    (sNx))
    (sSeq (sIf (tNotD (tV (cB F_is_list (aCons (dVar 0) (aCons (dC (.int 2)) (aCons (dC (.int 2)) (aNil)))))))
    (sRt (dC (.bl false)))
    (sNx))
    (sSeq (sAsg (dVar 0) (.tp [.nm 1, .nm 2]))
    (sRt (vAnd (cB F_is_integer (aCons (dVar 1) (aNil))) (vAnd (cB F_is_within (aCons (dVar 2) (aCons (dC (.int 2)) (aCons (dC .non) (aNil))))) (dB (dEqv false) (cB dGcd (aCons (dVar 1) (aCons (dVar 2) (aNil)))) (dC (.int 1))))))))
noncomputable def F_is_number : List D → C D := dDef 3 1 B_is_number
noncomputable def B_is_small : SF :=
    sSeq (sIf (tNotD (tV (cB F_is_number (aCons (dVar 0) (aNil)))))
    (sRt (dC (.bl false)))
    (sNx))
    (sSeq (sAsg (cB F_parts_of (aCons (dVar 0) (aNil))) (.tp [.nm 1, .nm 2]))
    (sRt (vAnd (cB F_is_within (aCons (dVar 1) (aCons (dU dNeg (dC (.int 1000000))) (aCons (dC (.int 1000000)) (aNil))))) (dB dLe (dVar 2) (dC (.int 1000))))))
noncomputable def F_is_small : List D → C D := dDef 3 1 B_is_small
noncomputable def B__law_gauge : SF :=
    sRt (dLstM (aCons (dLc (dIt (dSlice (dVar 0) (pNo) (pSo (dC (.int 61))))) (.nm 1) (tYesD) (cB dInt (aCons (dVar 1) (aNil))) [1]) (aCons (dC (.int 0)) (aCons (dC (.int 0)) (aNil)))))
noncomputable def F__law_gauge : List D → C D := dDef 2 1 B__law_gauge
noncomputable def B__law_dial_by : SF :=
    sSeq (sIf (tV (dB dGt (dB dIx (dVar 0) (dC (.int 2))) (dC (.int 0))))
    (sSeq (sAsg (cB dInt (aCons (dB dIx (dVar 0) (dC (.int 2))) (aNil))) (.nm 2))
    (sSeq (sSub (dB dFdiv (dVar 2) (dVar 1)) (dVar 0) (dC (.int 2)))
    (sRt (dB dMod (cB dInt (aCons (dVar 2) (aNil))) (dVar 1)))))
    (sNx))
    (sSeq (sAsg (dB dIx (dVar 0) (dC (.int 1))) (.nm 3))
    (sSeq (sSub (dB dAdd (dVar 3) (dC (.int 1))) (dVar 0) (dC (.int 1)))
    (sSeq (sIf (tV (dB (dEqv false) (dB dIx (dVar 0) (dC (.int 0))) (dLst (aNil))))
    (sRt (dC (.int 0)))
    (sNx))
    (sSeq (sAsg (dB dIx (dB dIx (dVar 0) (dC (.int 0))) (dB dMod (cB dInt (aCons (dVar 3) (aNil))) (cB dLen (aCons (dB dIx (dVar 0) (dC (.int 0))) (aNil))))) (.nm 4))
    (sSeq (sIf (tAndD (tV (dB dLt (dVar 3) (cB dLen (aCons (dB dIx (dVar 0) (dC (.int 0))) (aNil))))) (tV (dB dGe (cB dAbs (aCons (dVar 4) (aNil))) (dB dPow (dC (.int 10)) (dC (.int 18))))))
    (sSeq (sAsg (dB dAdd (dB dMul (dC (.int 2)) (dB dSub (cB dAbs (aCons (cB dInt (aCons (dVar 4) (aNil))) (aNil))) (dB dPow (dC (.int 10)) (dC (.int 18))))) (cB dInt (aCons (dB dLt (dVar 4) (dC (.int 0))) (aNil)))) (.nm 2))
    (sSeq (sSub (dB dFdiv (dVar 2) (dVar 1)) (dVar 0) (dC (.int 2)))
    (sRt (dB dMod (cB dInt (aCons (dVar 2) (aNil))) (dVar 1)))))
    (sNx))
    (sSeq (sAsg (dB dMod (cB dInt (aCons (dB dPow (dB dAdd (dB dAdd (dB dMod (cB dInt (aCons (dVar 4) (aNil))) (dC (.int 2147483543))) (dB dMul (dC (.int 43003)) (dVar 3))) (dC (.int 8017))) (dC (.int 5))) (aNil))) (dC (.int 2147483497))) (.nm 5))
    (sSeq (sAsg (dB dMod (cB dInt (aCons (dB dPow (dB dAdd (dB dAdd (dB dMul (dVar 5) (dB dAdd (dB dMul (dC (.int 2)) (dVar 3)) (dC (.int 8039)))) (dB dMul (dB dMul (dC (.int 57037)) (dVar 3)) (dVar 3))) (dC (.int 43013))) (dC (.int 3))) (aNil))) (dC (.int 2147483477))) (.nm 5))
    (sRt (dB dMod (cB dInt (aCons (dB dFdiv (dVar 5) (dC (.int 64))) (aNil))) (dVar 1))))))))))
noncomputable def F__law_dial_by : List D → C D := dDef 6 2 B__law_dial_by
noncomputable def B__law_pick : SF :=
    sRt (dB dIx (dVar 1) (cB F__law_dial_by (aCons (dVar 0) (aCons (cB dLen (aCons (dVar 1) (aNil))) (aNil)))))
noncomputable def F__law_pick : List D → C D := dDef 2 2 B__law_pick
noncomputable def B__law_is_whole : SF :=
    sRt (vAnd (cB dIsi (aCons (dVar 0) (aCons (dC (.ty "int")) (aNil)))) (vNot (cB dIsi (aCons (dVar 0) (aCons (dC (.ty "bool")) (aNil))))))
noncomputable def F__law_is_whole : List D → C D := dDef 1 1 B__law_is_whole
noncomputable def B__law_is_number : SF :=
    sSeq (sIf (tNotD (tV (cB dIsi (aCons (dVar 0) (aCons (dTup (aCons (dC (.ty "list")) (aCons (dC (.ty "tuple")) (aNil)))) (aNil))))))
    (sRt (cB F__law_is_whole (aCons (dVar 0) (aNil))))
    (sNx))
    (sSeq (sIf (tOrD (tV (dB (dEqv true) (cB dLen (aCons (dVar 0) (aNil))) (dC (.int 2)))) (tOrD (tNotD (tV (cB F__law_is_whole (aCons (dB dIx (dVar 0) (dC (.int 0))) (aNil))))) (tOrD (tNotD (tV (cB F__law_is_whole (aCons (dB dIx (dVar 0) (dC (.int 1))) (aNil))))) (tV (dB dLt (dB dIx (dVar 0) (dC (.int 1))) (dC (.int 2)))))))
    (sRt (dC (.bl false)))
    (sNx))
    (sSeq (sPar 1 2 (aCons (cB dAbs (aCons (dB dIx (dVar 0) (dC (.int 0))) (aNil))) (aCons (dB dIx (dVar 0) (dC (.int 1))) (aNil))))
    (sSeq (whileS (tV (dB dGt (dVar 2) (dC (.int 0))))
    (sPar 1 2 (aCons (dVar 2) (aCons (dB dMod (cB dInt (aCons (dVar 1) (aNil))) (dVar 2)) (aNil)))))
    (sRt (dB (dEqv false) (dVar 1) (dC (.int 1)))))))
noncomputable def F__law_is_number : List D → C D := dDef 3 1 B__law_is_number
noncomputable def B__law_value : SF :=
    sSeq (sAsg (cB F__law_pick (aCons (dVar 0) (aCons (dLst (aCons (dC (.int 0)) (aCons (dC (.int 1)) (aCons (dU dNeg (dC (.int 1))) (aCons (cB F__law_dial_by (aCons (dVar 0) (aCons (dC (.int 30)) (aNil)))) (aCons (dB dPow (dC (.int 10)) (dC (.int 6))) (aCons (dU dNeg (dB dPow (dC (.int 10)) (dC (.int 6)))) (aCons (dB dAdd (dB dPow (dC (.int 10)) (dC (.int 6))) (dC (.int 1))) (aCons (dU dNeg (dB dPow (dC (.int 10)) (dC (.int 30)))) (aCons (dC (.int 7)) (aNil))))))))))) (aNil)))) (.nm 1))
    (sSeq (sIf (tV (dB (dEqv false) (cB F__law_dial_by (aCons (dVar 0) (aCons (dC (.int 3)) (aNil)))) (dC (.int 0))))
    (sRt (dVar 1))
    (sNx))
    (sSeq (sAsg (cB F__law_pick (aCons (dVar 0) (aCons (dLst (aCons (dC (.int 2)) (aCons (dC (.int 3)) (aCons (dB dAdd (dC (.int 1)) (cB F__law_dial_by (aCons (dVar 0) (aCons (dC (.int 12)) (aNil))))) (aCons (dC (.int 1000)) (aCons (dC (.int 1001)) (aCons (dC (.int 0)) (aCons (dU dNeg (dC (.int 2))) (aCons (dC (.int 1)) (aCons (dC (.int 6)) (aCons (dB dPow (dC (.int 10)) (dC (.int 20))) (aNil)))))))))))) (aNil)))) (.nm 2))
    (sSeq (sAsg (dLst (aCons (cB F__law_pick (aCons (dVar 0) (aCons (dLst (aCons (dVar 1) (aCons (dB dSub (dB dMul (dC (.int 3)) (cB F__law_dial_by (aCons (dVar 0) (aCons (dC (.int 20)) (aNil))))) (dC (.int 30))) (aCons (dB dSub (dB dPow (dC (.int 10)) (dC (.int 6))) (dC (.int 1))) (aCons (dB dAdd (dB dPow (dC (.int 10)) (dC (.int 6))) (dC (.int 1))) (aNil)))))) (aNil)))) (aCons (dVar 2) (aNil)))) (.nm 3))
    (sSeq (sAsg (cB F__law_pick (aCons (dVar 0) (aCons (dLst (aCons (dC .non) (aCons (dC (.bl true)) (aCons (dC (.bl false)) (aCons (dC (.str "1")) (aCons (dC (.str "1/2")) (aCons (dTup (aCons (dC (.int 1)) (aNil))) (aCons (dLst (aCons (dC (.int 0)) (aNil))) (aCons (dDic0) (aCons (dTup (aCons (dC (.int 1)) (aCons (dC (.int 2)) (aCons (dC (.int 3)) (aNil))))) (aCons (dTup (aCons (dC (.int 1)) (aCons (dC (.bl true)) (aNil)))) (aCons (dTup (aCons (dC .non) (aCons (dC (.int 2)) (aNil)))) (aCons (dTup (aCons (dC (.str "1")) (aCons (dC (.int 2)) (aNil)))) (aCons (dTup (aCons (dC (.int 1)) (aCons (dTup (aCons (dC (.int 2)) (aCons (dC (.int 3)) (aNil)))) (aNil)))) (aCons (dLst (aCons (dLst (aCons (dC (.int 1)) (aCons (dC (.int 2)) (aNil)))) (aNil))) (aCons (dTup (aCons (dC (.int 1)) (aCons (dC (.str "2")) (aNil)))) (aNil))))))))))))))))) (aNil)))) (.nm 4))
    (sRt (cB F__law_pick (aCons (dVar 0) (aCons (dLst (aCons (dVar 3) (aCons (cB dTupOf (aCons (dVar 3) (aNil))) (aCons (dVar 3) (aCons (dVar 4) (aNil)))))) (aNil)))))))))
noncomputable def F__law_value : List D → C D := dDef 5 1 B__law_value
noncomputable def B_law : SF :=
    sSeq (sAsg (cB F__law_gauge (aCons (dVar 0) (aNil))) (.nm 1))
    (sSeq (sFor (dRng rng1 (aCons (dC (.int 14)) (aNil))) (.nm 2)
    (sSeq (sAsg (cB F__law_value (aCons (dVar 1) (aNil))) (.nm 3))
    (sSeq (sPar 4 5 (aCons (cB dRepr (aCons (dVar 3) (aNil))) (aCons (cB F__law_is_whole (aCons (dVar 3) (aNil))) (aNil))))
    (sSeq (sPar 6 7 (aCons (cB F__law_pick (aCons (dVar 1) (aCons (dLst (aCons (dC .non) (aCons (dC (.int 0)) (aCons (dU dNeg (dC (.int 1))) (aCons (cB F__law_dial_by (aCons (dVar 1) (aCons (dC (.int 30)) (aNil)))) (aNil)))))) (aNil)))) (aCons (cB F__law_pick (aCons (dVar 1) (aCons (dLst (aCons (dC .non) (aCons (dC (.int 1)) (aCons (dB dPow (dC (.int 10)) (dC (.int 6))) (aCons (cB F__law_dial_by (aCons (dVar 1) (aCons (dC (.int 30)) (aNil)))) (aNil)))))) (aNil)))) (aNil))))
    (sSeq (sAsg (vAnd (dVar 5) (vAnd (vOr (dB (dIsN false) (dVar 6) (dC .non)) (dB dGe (dVar 3) (dVar 6))) (vOr (dB (dIsN false) (dVar 7) (dC .non)) (dB dLe (dVar 3) (dVar 7))))) (.nm 8))
    (sSeq (sIf (tV (dB (dEqv true) (cB dRepr (aCons (dLst (aCons (cB F_is_integer (aCons (dVar 3) (aNil))) (aCons (cK F_is_integer 0 1 [0] aNil (aCons (dVar 3) (aNil))) (aNil)))) (aNil))) (cB dRepr (aCons (dLst (aCons (dVar 5) (aCons (dVar 5) (aNil)))) (aNil)))))
    (sRt (dC (.bl false)))
    (sNx))
    (sSeq (sIf (tV (dB (dEqv true) (cB dRepr (aCons (dLst (aCons (cB F_is_within (aCons (dVar 3) (aCons (dVar 6) (aCons (dVar 7) (aNil))))) (aCons (cK F_is_within 0 3 [1, 2, 0] aNil (aCons (dVar 7) (aCons (dVar 3) (aCons (dVar 6) (aNil))))) (aNil)))) (aNil))) (cB dRepr (aCons (dLst (aCons (dVar 8) (aCons (dVar 8) (aNil)))) (aNil)))))
    (sRt (dC (.bl false)))
    (sNx))
    (sSeq (sAsg (cB F__law_is_number (aCons (dVar 3) (aNil))) (.nm 9))
    (sSeq (sAsg (vAnd (dVar 9) (vIf (tV (dVar 5)) (dB dLe (cB dAbs (aCons (dVar 3) (aNil))) (dB dPow (dC (.int 10)) (dC (.int 6)))) (vAnd (dB dLe (cB dAbs (aCons (dB dIx (dVar 3) (dC (.int 0))) (aNil))) (dB dPow (dC (.int 10)) (dC (.int 6)))) (dB dLe (dB dIx (dVar 3) (dC (.int 1))) (dC (.int 1000)))))) (.nm 10))
    (sSeq (sIf (tV (dB (dEqv true) (cB dRepr (aCons (dLst (aCons (cB F_is_number (aCons (dVar 3) (aNil))) (aCons (cK F_is_number 0 1 [0] aNil (aCons (dVar 3) (aNil))) (aCons (cB F_is_small (aCons (dVar 3) (aNil))) (aCons (cK F_is_small 0 1 [0] aNil (aCons (dVar 3) (aNil))) (aNil)))))) (aNil))) (cB dRepr (aCons (dLst (aCons (dVar 9) (aCons (dVar 9) (aCons (dVar 10) (aCons (dVar 10) (aNil)))))) (aNil)))))
    (sRt (dC (.bl false)))
    (sNx))
    (sIf (tV (dB (dEqv true) (cB dRepr (aCons (dVar 3) (aNil))) (dVar 4)))
    (sRt (dC (.bl false)))
    (sNx))))))))))))
    (sRt (dC (.bl true))))
noncomputable def F_law : List D → C D := dDef 11 1 B_law
section
variable {P : Program} {w : World} {K : PySem.W.Frag} {mg : Str → Option Value} {base : Heap}
theorem ok_is_integer (T : Top K mg)  {f : Addr} {fd : FuncData} (Fx : Fun K "is_integer" "is_integer" s_is_integer f fd) : FnG P w K mg base 1 f fd ["value"] F_is_integer :=
  fn_def (k := 0) (b := B_is_integer) Fx sc_is_integer (fun cdv A outer s H E c =>
    dss_one (ds_ret (de_and (de_callB call_isiA isi_D (da_cons (de_var 0) (da_cons (de_ty (by rfl) T.n_int (by decide +kernel)) (da_nil))) (by rfl) T.n_isinstance (by decide +kernel)) (de_one (de_not (de_callB call_isiA isi_D (da_cons (de_var 0) (da_cons (de_ty (by rfl) T.n_bool (by decide +kernel)) (da_nil))) (by rfl) T.n_isinstance (by decide +kernel)))))))
theorem ok_is_within (T : Top K mg) (h_is_integer : FnAt P w K mg base 1 s_is_integer "is_integer" ["value"] F_is_integer) {f : Addr} {fd : FuncData} (Fx : Fun K "is_within" "is_within" s_is_within f fd) : FnG P w K mg base 2 f fd ["value", "least", "most"] F_is_within :=
  fn_def (k := 1) (b := B_is_within) Fx sc_is_within (fun cdv A outer s H E c =>
    dss_cons (ds_if (dt_not (dt_val (de_call h_is_integer c.hr c.hG c.tk (da_cons (de_var 0) (da_nil)) (by rfl))))
    (dss_one (ds_ret (de_bl)))
    (dss_nil))
    (dss_one (ds_ret (de_and (de_or (de_cmp op_isN op_isND (de_var 1) (de_non)) (de_one (de_cmp op_le op_leD (de_var 1) (de_var 0)))) (de_one (de_or (de_cmp op_isN op_isND (de_var 2) (de_non)) (de_one (de_cmp op_le op_leD (de_var 0) (de_var 2)))))))))
theorem ok_is_list (T : Top K mg)  {f : Addr} {fd : FuncData} (Fx : Fun K "is_list" "is_list" s_is_list f fd) : FnG P w K mg base 1 f fd ["value", "least", "most"] F_is_list :=
  fn_def (k := 0) (b := B_is_list) Fx sc_is_list (fun cdv A outer s H E c =>
    dss_cons (ds_if (dt_not (dt_val (de_callB call_isiA isi_D (da_cons (de_var 0) (da_cons (de_tup (da_cons (de_ty (by rfl) T.n_list (by decide +kernel)) (da_cons (de_ty (by rfl) T.n_tuple (by decide +kernel)) (da_nil)))) (da_nil))) (by rfl) T.n_isinstance (by decide +kernel))))
    (dss_one (ds_ret (de_bl)))
    (dss_nil))
    (dss_one (ds_ret (de_and (de_or (de_cmp op_isN op_isND (de_var 1) (de_non)) (de_one (de_cmp op_le op_leD (de_var 1) (de_callB call_len len_D (da_cons (de_var 0) (da_nil)) (by rfl) T.n_len (by decide +kernel))))) (de_one (de_or (de_cmp op_isN op_isND (de_var 2) (de_non)) (de_one (de_cmp op_le op_leD (de_callB call_len len_D (da_cons (de_var 0) (da_nil)) (by rfl) T.n_len (by decide +kernel)) (de_var 2)))))))))
theorem ok_parts_of (T : Top K mg)  {f : Addr} {fd : FuncData} (Fx : Fun K "parts_of" "parts_of" s_parts_of f fd) : FnG P w K mg base 1 f fd ["number"] F_parts_of :=
  fn_def (k := 0) (b := B_parts_of) Fx sc_parts_of (fun cdv A outer s H E c =>
    dss_cons (ds_if (dt_val (de_callB call_isiA isi_D (da_cons (de_var 0) (da_cons (de_ty (by rfl) T.n_int (by decide +kernel)) (da_nil))) (by rfl) T.n_isinstance (by decide +kernel)))
    (dss_one (ds_ret (de_tup (da_cons (de_var 0) (da_cons (de_int) (da_nil))))))
    (dss_nil))
    (dss_cons (ds_asg (de_var 0) (dg_tup rfl (dgs_cons (dg_name 1 sc_parts_of.nd) (dgs_cons (dg_name 2 sc_parts_of.nd) (dgs_nil)))))
    (dss_one (ds_ret (de_tup (da_cons (de_var 1) (da_cons (de_var 2) (da_nil))))))))
theorem ok_is_number (T : Top K mg) (h_is_integer : FnAt P w K mg base 2 s_is_integer "is_integer" ["value"] F_is_integer) (h_is_list : FnAt P w K mg base 2 s_is_list "is_list" ["value", "least", "most"] F_is_list) (h_is_within : FnAt P w K mg base 2 s_is_within "is_within" ["value", "least", "most"] F_is_within) {f : Addr} {fd : FuncData} (Fx : Fun K "is_number" "is_number" s_is_number f fd) : FnG P w K mg base 3 f fd ["value"] F_is_number :=
  fn_def (k := 2) (b := B_is_number) Fx sc_is_number (fun cdv A outer s H E c =>
    dss_cons (ds_if (dt_val (de_call h_is_integer c.hr c.hG c.tk (da_cons (de_var 0) (da_nil)) (by rfl)))
    (dss_one (ds_ret (de_bl)))
    (dss_nil))
    (dss_cons (ds_if (dt_not (dt_val (de_call h_is_list c.hr c.hG c.tk (da_cons (de_var 0) (da_cons (de_int) (da_cons (de_int) (da_nil)))) (by rfl))))
    (dss_one (ds_ret (de_bl)))
    (dss_nil))
    (dss_cons (ds_asg (de_var 0) (dg_tup rfl (dgs_cons (dg_name 1 sc_is_number.nd) (dgs_cons (dg_name 2 sc_is_number.nd) (dgs_nil)))))
    (dss_one (ds_ret (de_and (de_call h_is_integer c.hr c.hG c.tk (da_cons (de_var 1) (da_nil)) (by rfl)) (de_and (de_call h_is_within c.hr c.hG c.tk (da_cons (de_var 2) (da_cons (de_int) (da_cons (de_non) (da_nil)))) (by rfl)) (de_one (de_cmp (op_eqA c.hu) op_eqDD (de_callF cr_gcd gcd_D (da_cons (de_var 1) (da_cons (de_var 2) (da_nil))) (by rfl) T.n_gcd) (de_int))))))))))
theorem ok_is_small (T : Top K mg) (h_is_number : FnAt P w K mg base 3 s_is_number "is_number" ["value"] F_is_number) (h_parts_of : FnAt P w K mg base 3 s_parts_of "parts_of" ["number"] F_parts_of) (h_is_within : FnAt P w K mg base 3 s_is_within "is_within" ["value", "least", "most"] F_is_within) {f : Addr} {fd : FuncData} (Fx : Fun K "is_small" "is_small" s_is_small f fd) : FnG P w K mg base 4 f fd ["value"] F_is_small :=
  fn_def (k := 3) (b := B_is_small) Fx sc_is_small (fun cdv A outer s H E c =>
    dss_cons (ds_if (dt_not (dt_val (de_call h_is_number c.hr c.hG c.tk (da_cons (de_var 0) (da_nil)) (by rfl))))
    (dss_one (ds_ret (de_bl)))
    (dss_nil))
    (dss_cons (ds_asg (de_call h_parts_of c.hr c.hG c.tk (da_cons (de_var 0) (da_nil)) (by rfl)) (dg_tup rfl (dgs_cons (dg_name 1 sc_is_small.nd) (dgs_cons (dg_name 2 sc_is_small.nd) (dgs_nil)))))
    (dss_one (ds_ret (de_and (de_call h_is_within c.hr c.hG c.tk (da_cons (de_var 1) (da_cons (de_un un_neg un_negD (de_kint (by rfl) T.v_MOST_ABOVE)) (da_cons (de_kint (by rfl) T.v_MOST_ABOVE) (da_nil)))) (by rfl)) (de_one (de_cmp op_le op_leD (de_var 2) (de_kint (by rfl) T.v_MOST_UNDER))))))))
theorem ok__law_gauge (T : Top K mg)  {f : Addr} {fd : FuncData} (Fx : Fun K "_law_gauge" "_law_gauge" s__law_gauge f fd) : FnG P w K mg base 1 f fd ["script"] F__law_gauge :=
  fn_def (k := 0) (b := B__law_gauge) Fx sc__law_gauge (fun cdv A outer s H E c =>
    dss_one (ds_ret (de_lstM (da_cons (de_lc (own := [("cell", 1)]) c.calm sc__law_gauge.nd (di_seq (de_slice (de_var 0) dp_no (dp_so (de_int)))) (blkOk_by (N := ["script", "cell"]) (sc := defScope s__law_gauge) (by decide +kernel)) (by decide) (fun s1 H1 C1 cl1 fp1 => dg_name 1 sc__law_gauge.nd) (fun s1 H1 C1 cl1 fp1 => dts_nil) (fun s1 H1 C1 cl1 fp1 => de_callT call_int1 int_D (da_cons (de_var 1) (da_nil)) (by rfl) T.n_int (by decide +kernel))) (da_cons (de_int) (da_cons (de_int) (da_nil)))))))
theorem ok__law_dial_by (T : Top K mg)  {f : Addr} {fd : FuncData} (Fx : Fun K "_law_dial_by" "_law_dial_by" s__law_dial_by f fd) : FnG P w K mg base 1 f fd ["gauge", "many"] F__law_dial_by :=
  fn_def (k := 0) (b := B__law_dial_by) Fx sc__law_dial_by (fun cdv A outer s H E c =>
    dss_cons (ds_if (dt_cmp op_gt op_gtD (de_ix (de_var 0) (de_int)) (de_int))
    (dss_cons (ds_set 2 sc__law_dial_by.nd (de_callT call_int1 int_D (da_cons (de_ix (de_var 0) (de_int)) (da_nil)) (by rfl) T.n_int (by decide +kernel)))
    (dss_cons (ds_sub (de_op op_fdivW op_fdivD (de_var 2) (de_var 1)) (de_var 0) (de_int))
    (dss_one (ds_ret (de_op op_mod op_modD (de_callT call_int1 int_D (da_cons (de_var 2) (da_nil)) (by rfl) T.n_int (by decide +kernel)) (de_var 1))))))
    (dss_nil))
    (dss_cons (ds_set 3 sc__law_dial_by.nd (de_ix (de_var 0) (de_int)))
    (dss_cons (ds_sub (de_op or_addA op_addD (de_var 3) (de_int)) (de_var 0) (de_int))
    (dss_cons (ds_if (dt_cmp (op_eqA c.hu) op_eqDD (de_ix (de_var 0) (de_int)) (de_lst (da_nil)))
    (dss_one (ds_ret (de_int)))
    (dss_nil))
    (dss_cons (ds_set 4 sc__law_dial_by.nd (de_ix (de_ix (de_var 0) (de_int)) (de_op op_mod op_modD (de_callT call_int1 int_D (da_cons (de_var 3) (da_nil)) (by rfl) T.n_int (by decide +kernel)) (de_callB call_len len_D (da_cons (de_ix (de_var 0) (de_int)) (da_nil)) (by rfl) T.n_len (by decide +kernel)))))
    (dss_cons (ds_if (dw_t (dw_and (dt_cmp op_lt op_ltD (de_var 3) (de_callB call_len len_D (da_cons (de_ix (de_var 0) (de_int)) (da_nil)) (by rfl) T.n_len (by decide +kernel))) (dw_and1 (dt_cmp op_ge op_geD (de_callB call_abs abs_D (da_cons (de_var 4) (da_nil)) (by rfl) T.n_abs (by decide +kernel)) (de_op op_pow op_powD (de_int) (de_int))))))
    (dss_cons (ds_set 2 sc__law_dial_by.nd (de_op or_addA op_addD (de_op or_mulA op_mulD (de_int) (de_op op_sub op_subD (de_callB call_abs abs_D (da_cons (de_callT call_int1 int_D (da_cons (de_var 4) (da_nil)) (by rfl) T.n_int (by decide +kernel)) (da_nil)) (by rfl) T.n_abs (by decide +kernel)) (de_op op_pow op_powD (de_int) (de_int)))) (de_callT call_int1 int_D (da_cons (de_cmp op_lt op_ltD (de_var 4) (de_int)) (da_nil)) (by rfl) T.n_int (by decide +kernel))))
    (dss_cons (ds_sub (de_op op_fdivW op_fdivD (de_var 2) (de_var 1)) (de_var 0) (de_int))
    (dss_one (ds_ret (de_op op_mod op_modD (de_callT call_int1 int_D (da_cons (de_var 2) (da_nil)) (by rfl) T.n_int (by decide +kernel)) (de_var 1))))))
    (dss_nil))
    (dss_cons (ds_set 5 sc__law_dial_by.nd (de_op op_mod op_modD (de_callT call_int1 int_D (da_cons (de_op op_pow op_powD (de_op or_addA op_addD (de_op or_addA op_addD (de_op op_mod op_modD (de_callT call_int1 int_D (da_cons (de_var 4) (da_nil)) (by rfl) T.n_int (by decide +kernel)) (de_int)) (de_op or_mulA op_mulD (de_int) (de_var 3))) (de_int)) (de_int)) (da_nil)) (by rfl) T.n_int (by decide +kernel)) (de_int)))
    (dss_cons (ds_set 5 sc__law_dial_by.nd (de_op op_mod op_modD (de_callT call_int1 int_D (da_cons (de_op op_pow op_powD (de_op or_addA op_addD (de_op or_addA op_addD (de_op or_mulA op_mulD (de_var 5) (de_op or_addA op_addD (de_op or_mulA op_mulD (de_int) (de_var 3)) (de_int))) (de_op or_mulA op_mulD (de_op or_mulA op_mulD (de_int) (de_var 3)) (de_var 3))) (de_int)) (de_int)) (da_nil)) (by rfl) T.n_int (by decide +kernel)) (de_int)))
    (dss_one (ds_ret (de_op op_mod op_modD (de_callT call_int1 int_D (da_cons (de_op op_fdivW op_fdivD (de_var 5) (de_int)) (da_nil)) (by rfl) T.n_int (by decide +kernel)) (de_var 1))))))))))))
theorem ok__law_pick (T : Top K mg) (h__law_dial_by : FnAt P w K mg base 1 s__law_dial_by "_law_dial_by" ["gauge", "many"] F__law_dial_by) {f : Addr} {fd : FuncData} (Fx : Fun K "_law_pick" "_law_pick" s__law_pick f fd) : FnG P w K mg base 2 f fd ["gauge", "some"] F__law_pick :=
  fn_def (k := 1) (b := B__law_pick) Fx sc__law_pick (fun cdv A outer s H E c =>
    dss_one (ds_ret (de_ix (de_var 1) (de_call h__law_dial_by c.hr c.hG c.tk (da_cons (de_var 0) (da_cons (de_callB call_len len_D (da_cons (de_var 1) (da_nil)) (by rfl) T.n_len (by decide +kernel)) (da_nil))) (by rfl)))))
theorem ok__law_is_whole (T : Top K mg)  {f : Addr} {fd : FuncData} (Fx : Fun K "_law_is_whole" "_law_is_whole" s__law_is_whole f fd) : FnG P w K mg base 1 f fd ["value"] F__law_is_whole :=
  fn_def (k := 0) (b := B__law_is_whole) Fx sc__law_is_whole (fun cdv A outer s H E c =>
    dss_one (ds_ret (de_and (de_callB call_isiA isi_D (da_cons (de_var 0) (da_cons (de_ty (by rfl) T.n_int (by decide +kernel)) (da_nil))) (by rfl) T.n_isinstance (by decide +kernel)) (de_one (de_not (de_callB call_isiA isi_D (da_cons (de_var 0) (da_cons (de_ty (by rfl) T.n_bool (by decide +kernel)) (da_nil))) (by rfl) T.n_isinstance (by decide +kernel)))))))
theorem ok__law_is_number (T : Top K mg) (h__law_is_whole : FnAt P w K mg base 1 s__law_is_whole "_law_is_whole" ["value"] F__law_is_whole) {f : Addr} {fd : FuncData} (Fx : Fun K "_law_is_number" "_law_is_number" s__law_is_number f fd) : FnG P w K mg base 2 f fd ["value"] F__law_is_number :=
  fn_def (k := 1) (b := B__law_is_number) Fx sc__law_is_number (fun cdv A outer s H E c =>
    dss_cons (ds_if (dt_not (dt_val (de_callB call_isiA isi_D (da_cons (de_var 0) (da_cons (de_tup (da_cons (de_ty (by rfl) T.n_list (by decide +kernel)) (da_cons (de_ty (by rfl) T.n_tuple (by decide +kernel)) (da_nil)))) (da_nil))) (by rfl) T.n_isinstance (by decide +kernel))))
    (dss_one (ds_ret (de_call h__law_is_whole c.hr c.hG c.tk (da_cons (de_var 0) (da_nil)) (by rfl))))
    (dss_nil))
    (dss_cons (ds_if (dw_t (dw_or (dt_cmp (op_neA c.hu) op_neDD (de_callB call_len len_D (da_cons (de_var 0) (da_nil)) (by rfl) T.n_len (by decide +kernel)) (de_int)) (dw_or (dt_not (dt_val (de_call h__law_is_whole c.hr c.hG c.tk (da_cons (de_ix (de_var 0) (de_int)) (da_nil)) (by rfl)))) (dw_or (dt_not (dt_val (de_call h__law_is_whole c.hr c.hG c.tk (da_cons (de_ix (de_var 0) (de_int)) (da_nil)) (by rfl)))) (dw_or1 (dt_cmp op_lt op_ltD (de_ix (de_var 0) (de_int)) (de_int)))))))
    (dss_one (ds_ret (de_bl)))
    (dss_nil))
    (dss_cons (ds_par 1 2 c.calm sc__law_is_number.nd (da_cons (de_callB call_abs abs_D (da_cons (de_ix (de_var 0) (de_int)) (da_nil)) (by rfl) T.n_abs (by decide +kernel)) (da_cons (de_ix (de_var 0) (de_int)) (da_nil))))
    (dss_cons (ds_while c.po (dt_cmp op_gt op_gtD (de_var 2) (de_int))
    (dss_one (ds_par 1 2 c.calm sc__law_is_number.nd (da_cons (de_var 2) (da_cons (de_op op_mod op_modD (de_callT call_int1 int_D (da_cons (de_var 1) (da_nil)) (by rfl) T.n_int (by decide +kernel)) (de_var 2)) (da_nil))))))
    (dss_one (ds_ret (de_cmp (op_eqA c.hu) op_eqDD (de_var 1) (de_int))))))))
theorem ok__law_value (T : Top K mg) (h__law_pick : FnAt P w K mg base 2 s__law_pick "_law_pick" ["gauge", "some"] F__law_pick) (h__law_dial_by : FnAt P w K mg base 2 s__law_dial_by "_law_dial_by" ["gauge", "many"] F__law_dial_by) {f : Addr} {fd : FuncData} (Fx : Fun K "_law_value" "_law_value" s__law_value f fd) : FnG P w K mg base 3 f fd ["gauge"] F__law_value :=
  fn_def (k := 2) (b := B__law_value) Fx sc__law_value (fun cdv A outer s H E c =>
    dss_cons (ds_set 1 sc__law_value.nd (de_call h__law_pick c.hr c.hG c.tk (da_cons (de_var 0) (da_cons (de_lst (da_cons (de_int) (da_cons (de_int) (da_cons (de_un un_neg un_negD (de_int)) (da_cons (de_call h__law_dial_by c.hr c.hG c.tk (da_cons (de_var 0) (da_cons (de_int) (da_nil))) (by rfl)) (da_cons (de_op op_pow op_powD (de_int) (de_int)) (da_cons (de_un un_neg un_negD (de_op op_pow op_powD (de_int) (de_int))) (da_cons (de_op or_addA op_addD (de_op op_pow op_powD (de_int) (de_int)) (de_int)) (da_cons (de_un un_neg un_negD (de_op op_pow op_powD (de_int) (de_int))) (da_cons (de_int) (da_nil))))))))))) (da_nil))) (by rfl)))
    (dss_cons (ds_if (dt_cmp (op_eqA c.hu) op_eqDD (de_call h__law_dial_by c.hr c.hG c.tk (da_cons (de_var 0) (da_cons (de_int) (da_nil))) (by rfl)) (de_int))
    (dss_one (ds_ret (de_var 1)))
    (dss_nil))
    (dss_cons (ds_set 2 sc__law_value.nd (de_call h__law_pick c.hr c.hG c.tk (da_cons (de_var 0) (da_cons (de_lst (da_cons (de_int) (da_cons (de_int) (da_cons (de_op or_addA op_addD (de_int) (de_call h__law_dial_by c.hr c.hG c.tk (da_cons (de_var 0) (da_cons (de_int) (da_nil))) (by rfl))) (da_cons (de_int) (da_cons (de_int) (da_cons (de_int) (da_cons (de_un un_neg un_negD (de_int)) (da_cons (de_int) (da_cons (de_int) (da_cons (de_op op_pow op_powD (de_int) (de_int)) (da_nil)))))))))))) (da_nil))) (by rfl)))
    (dss_cons (ds_set 3 sc__law_value.nd (de_lst (da_cons (de_call h__law_pick c.hr c.hG c.tk (da_cons (de_var 0) (da_cons (de_lst (da_cons (de_var 1) (da_cons (de_op op_sub op_subD (de_op or_mulA op_mulD (de_int) (de_call h__law_dial_by c.hr c.hG c.tk (da_cons (de_var 0) (da_cons (de_int) (da_nil))) (by rfl))) (de_int)) (da_cons (de_op op_sub op_subD (de_op op_pow op_powD (de_int) (de_int)) (de_int)) (da_cons (de_op or_addA op_addD (de_op op_pow op_powD (de_int) (de_int)) (de_int)) (da_nil)))))) (da_nil))) (by rfl)) (da_cons (de_var 2) (da_nil)))))
    (dss_cons (ds_set 4 sc__law_value.nd (de_call h__law_pick c.hr c.hG c.tk (da_cons (de_var 0) (da_cons (de_lst (da_cons (de_non) (da_cons (de_bl) (da_cons (de_bl) (da_cons (de_str) (da_cons (de_str) (da_cons (de_tup (da_cons (de_int) (da_nil))) (da_cons (de_lst (da_cons (de_int) (da_nil))) (da_cons (de_dic0) (da_cons (de_tup (da_cons (de_int) (da_cons (de_int) (da_cons (de_int) (da_nil))))) (da_cons (de_tup (da_cons (de_int) (da_cons (de_bl) (da_nil)))) (da_cons (de_tup (da_cons (de_non) (da_cons (de_int) (da_nil)))) (da_cons (de_tup (da_cons (de_str) (da_cons (de_int) (da_nil)))) (da_cons (de_tup (da_cons (de_int) (da_cons (de_tup (da_cons (de_int) (da_cons (de_int) (da_nil)))) (da_nil)))) (da_cons (de_lst (da_cons (de_lst (da_cons (de_int) (da_cons (de_int) (da_nil)))) (da_nil))) (da_cons (de_tup (da_cons (de_int) (da_cons (de_str) (da_nil)))) (da_nil))))))))))))))))) (da_nil))) (by rfl)))
    (dss_one (ds_ret (de_call h__law_pick c.hr c.hG c.tk (da_cons (de_var 0) (da_cons (de_lst (da_cons (de_var 3) (da_cons (de_callT call_tuple_of tuple_D (da_cons (de_var 3) (da_nil)) (by rfl) T.n_tuple (by decide +kernel)) (da_cons (de_var 3) (da_cons (de_var 4) (da_nil)))))) (da_nil))) (by rfl)))))))))
theorem ok_law (T : Top K mg) (h__law_gauge : FnAt P w K mg base 4 s__law_gauge "_law_gauge" ["script"] F__law_gauge) (h__law_value : FnAt P w K mg base 4 s__law_value "_law_value" ["gauge"] F__law_value) (h__law_is_whole : FnAt P w K mg base 4 s__law_is_whole "_law_is_whole" ["value"] F__law_is_whole) (h__law_pick : FnAt P w K mg base 4 s__law_pick "_law_pick" ["gauge", "some"] F__law_pick) (h__law_dial_by : FnAt P w K mg base 4 s__law_dial_by "_law_dial_by" ["gauge", "many"] F__law_dial_by) (h_is_integer : FnAt P w K mg base 4 s_is_integer "is_integer" ["value"] F_is_integer) (h_is_within : FnAt P w K mg base 4 s_is_within "is_within" ["value", "least", "most"] F_is_within) (h__law_is_number : FnAt P w K mg base 4 s__law_is_number "_law_is_number" ["value"] F__law_is_number) (h_is_small : FnAt P w K mg base 4 s_is_small "is_small" ["value"] F_is_small) (h_is_number : FnAt P w K mg base 4 s_is_number "is_number" ["value"] F_is_number) {f : Addr} {fd : FuncData} (Fx : Fun K "law" "law" s_law f fd) : FnG P w K mg base 5 f fd ["script"] F_law :=
  fn_def (k := 4) (b := B_law) Fx sc_law (fun cdv A outer s H E c =>
    dss_cons (ds_set 1 sc_law.nd (de_call h__law_gauge c.hr c.hG c.tk (da_cons (de_var 0) (da_nil)) (by rfl)))
    (dss_cons (ds_for c.po c.calm (di_rng1 (da_cons (de_int) (da_nil)) (by rfl) T.n_range) (dg_name 2 sc_law.nd)
    (dss_cons (ds_set 3 sc_law.nd (de_call h__law_value c.hr c.hG c.tk (da_cons (de_var 1) (da_nil)) (by rfl)))
    (dss_cons (ds_par 4 5 c.calm sc_law.nd (da_cons (de_callB (call_reprD c.hG c.hu) repr_D (da_cons (de_var 3) (da_nil)) (by rfl) T.n_repr (by decide +kernel)) (da_cons (de_call h__law_is_whole c.hr c.hG c.tk (da_cons (de_var 3) (da_nil)) (by rfl)) (da_nil))))
    (dss_cons (ds_par 6 7 c.calm sc_law.nd (da_cons (de_call h__law_pick c.hr c.hG c.tk (da_cons (de_var 1) (da_cons (de_lst (da_cons (de_non) (da_cons (de_int) (da_cons (de_un un_neg un_negD (de_int)) (da_cons (de_call h__law_dial_by c.hr c.hG c.tk (da_cons (de_var 1) (da_cons (de_int) (da_nil))) (by rfl)) (da_nil)))))) (da_nil))) (by rfl)) (da_cons (de_call h__law_pick c.hr c.hG c.tk (da_cons (de_var 1) (da_cons (de_lst (da_cons (de_non) (da_cons (de_int) (da_cons (de_op op_pow op_powD (de_int) (de_int)) (da_cons (de_call h__law_dial_by c.hr c.hG c.tk (da_cons (de_var 1) (da_cons (de_int) (da_nil))) (by rfl)) (da_nil)))))) (da_nil))) (by rfl)) (da_nil))))
    (dss_cons (ds_set 8 sc_law.nd (de_and (de_var 5) (de_and (de_or (de_cmp op_isN op_isND (de_var 6) (de_non)) (de_one (de_cmp op_ge op_geD (de_var 3) (de_var 6)))) (de_one (de_or (de_cmp op_isN op_isND (de_var 7) (de_non)) (de_one (de_cmp op_le op_leD (de_var 3) (de_var 7))))))))
    (dss_cons (ds_if (dt_cmp (op_neA c.hu) op_neDD (de_callB (call_reprD c.hG c.hu) repr_D (da_cons (de_lst (da_cons (de_call h_is_integer c.hr c.hG c.tk (da_cons (de_var 3) (da_nil)) (by rfl)) (da_cons (de_callK0 h_is_integer c.hr c.hG c.tk kw_is_integer_0_value (dk_cons (de_var 3) (dk_nil)) (by rfl)) (da_nil)))) (da_nil)) (by rfl) T.n_repr (by decide +kernel)) (de_callB (call_reprD c.hG c.hu) repr_D (da_cons (de_lst (da_cons (de_var 5) (da_cons (de_var 5) (da_nil)))) (da_nil)) (by rfl) T.n_repr (by decide +kernel)))
    (dss_one (ds_ret (de_bl)))
    (dss_nil))
    (dss_cons (ds_if (dt_cmp (op_neA c.hu) op_neDD (de_callB (call_reprD c.hG c.hu) repr_D (da_cons (de_lst (da_cons (de_call h_is_within c.hr c.hG c.tk (da_cons (de_var 3) (da_cons (de_var 6) (da_cons (de_var 7) (da_nil)))) (by rfl)) (da_cons (de_callK0 h_is_within c.hr c.hG c.tk kw_is_within_0_most_value_least (dk_cons (de_var 7) (dk_cons (de_var 3) (dk_cons (de_var 6) (dk_nil)))) (by rfl)) (da_nil)))) (da_nil)) (by rfl) T.n_repr (by decide +kernel)) (de_callB (call_reprD c.hG c.hu) repr_D (da_cons (de_lst (da_cons (de_var 8) (da_cons (de_var 8) (da_nil)))) (da_nil)) (by rfl) T.n_repr (by decide +kernel)))
    (dss_one (ds_ret (de_bl)))
    (dss_nil))
    (dss_cons (ds_set 9 sc_law.nd (de_call h__law_is_number c.hr c.hG c.tk (da_cons (de_var 3) (da_nil)) (by rfl)))
    (dss_cons (ds_set 10 sc_law.nd (de_and (de_var 9) (de_one (de_if (dt_val (de_var 5)) (de_cmp op_le op_leD (de_callB call_abs abs_D (da_cons (de_var 3) (da_nil)) (by rfl) T.n_abs (by decide +kernel)) (de_op op_pow op_powD (de_int) (de_int))) (de_and (de_cmp op_le op_leD (de_callB call_abs abs_D (da_cons (de_ix (de_var 3) (de_int)) (da_nil)) (by rfl) T.n_abs (by decide +kernel)) (de_op op_pow op_powD (de_int) (de_int))) (de_one (de_cmp op_le op_leD (de_ix (de_var 3) (de_int)) (de_int))))))))
    (dss_cons (ds_if (dt_cmp (op_neA c.hu) op_neDD (de_callB (call_reprD c.hG c.hu) repr_D (da_cons (de_lst (da_cons (de_call h_is_number c.hr c.hG c.tk (da_cons (de_var 3) (da_nil)) (by rfl)) (da_cons (de_callK0 h_is_number c.hr c.hG c.tk kw_is_number_0_value (dk_cons (de_var 3) (dk_nil)) (by rfl)) (da_cons (de_call h_is_small c.hr c.hG c.tk (da_cons (de_var 3) (da_nil)) (by rfl)) (da_cons (de_callK0 h_is_small c.hr c.hG c.tk kw_is_small_0_value (dk_cons (de_var 3) (dk_nil)) (by rfl)) (da_nil)))))) (da_nil)) (by rfl) T.n_repr (by decide +kernel)) (de_callB (call_reprD c.hG c.hu) repr_D (da_cons (de_lst (da_cons (de_var 9) (da_cons (de_var 9) (da_cons (de_var 10) (da_cons (de_var 10) (da_nil)))))) (da_nil)) (by rfl) T.n_repr (by decide +kernel)))
    (dss_one (ds_ret (de_bl)))
    (dss_nil))
    (dss_one (ds_if (dt_cmp (op_neA c.hu) op_neDD (de_callB (call_reprD c.hG c.hu) repr_D (da_cons (de_var 3) (da_nil)) (by rfl) T.n_repr (by decide +kernel)) (de_var 4))
    (dss_one (ds_ret (de_bl)))
    (dss_nil)))))))))))))
    (dss_one (ds_ret (de_bl)))))
end
end My
end
section
set_option Elab.async false
set_option linter.all false
set_option maxRecDepth 100000
set_option maxHeartbeats 2000000
namespace My
open PySem PySem.Spec PyProof.Rows L2 DL
local macro_rules | `(tactic| walk_at "wp") => `(tactic| simp only [wp_def, wp_seq, wp_sIf, seqQ_nx, seqQ_rt, seqQ_ex, seqQ_bk, seqQ_ct, wp_sNx, wp_sSet, wp_sAsgT, wp_sRt, wp_sEx, wp_sPar, wp_sSub, wp_tV, wp_asB, wp_tNot, wp_tAnd, wp_tOr, wp_vAnd, wp_vOr, wp_vNot, wp_vIf, wp_dB, wp_dU, wp_cB, wp_aNil, wp_aCons, wp_dC, wp_var0, wp_varS, wp_dTup, wp_dLst, wp_dLstM, wp_dDic0, wp_sub, wp_add, wp_lt, wp_le, wp_gt, wp_ge, wp_neg, wp_mod, wp_fdiv, wp_pow, wp_mul, wp_int, wp_intb, wp_abs, wp_gcd, wp_bind, wp_pure, wp_ok, wp_cbad, wp_bad, wp_if, outC_rt, outC_nx, outC_ex, List.length_cons, List.length_nil, Nat.zero_add, Nat.reduceAdd, Nat.reduceSub, if_true, if_false, Bool.false_eq_true, List.map_cons, List.map_nil, List.replicate, List.cons_append, List.nil_append, List.set_cons_zero, List.set_cons_succ, List.set_nil, decide_true, decide_false, not_true, not_false_eq_true, Bool.not_true, Bool.not_false])
def isInt : D → Bool
  | .int _ => true
  | _ => false
theorem isi_int_int {i : Int} {M : Sto} : dIsi [.int i, .ty "int"] M = .ok (.bl true) M := by rfl
theorem whole_int {i : Int} {M : Sto} : F__law_is_whole [.int i] M = .ok (.bl true) M := by rfl
theorem whole_bl {i : Bool} {M : Sto} : F__law_is_whole [.bl i] M = .ok (.bl false) M := by rfl
theorem whole_non {M : Sto} : F__law_is_whole [.non] M = .ok (.bl false) M := by rfl
theorem whole_lst {ds : List D} {M : Sto} : F__law_is_whole [.lst ds] M = .ok (.bl false) M := by rfl
theorem whole_str {s : Str} {M : Sto} : F__law_is_whole [.str s] M = .ok (.bl false) M := by rfl
theorem isint_int {i : Int} {M : Sto} : F_is_integer [.int i] M = .ok (.bl true) M := by rfl
theorem num_odd1 {M : Sto} : F__law_is_number [.tup [.int 1, .tup [.int 2, .int 3]]] M = .ok (.bl false) M := by rfl
theorem num_odd2 {M : Sto} : F_is_number [.tup [.int 1, .tup [.int 2, .int 3]]] M = .ok (.bl false) M := by rfl
theorem num_odd3 {M : Sto} : F_is_small [.tup [.int 1, .tup [.int 2, .int 3]]] M = .ok (.bl false) M := by rfl
end My
end
section
set_option Elab.async false
set_option linter.all false
set_option maxRecDepth 100000
set_option maxHeartbeats 2000000
namespace My
open PySem PySem.Spec PyProof.Rows L2 DL
local macro_rules | `(tactic| walk_at "wp") => `(tactic| simp only [isint_int, whole_int, wp_eqs, wp_eqi, wp_isN, wp_isNn, isNon_int, isNon_non, wp_def, wp_seq, wp_sIf, seqQ_nx, seqQ_rt, seqQ_ex, seqQ_bk, seqQ_ct, wp_sNx, wp_sSet, wp_sAsgT, wp_sRt, wp_sEx, wp_sPar, wp_sSub, wp_tV, wp_asB, wp_tNot, wp_tAnd, wp_tOr, wp_vAnd, wp_vOr, wp_vNot, wp_vIf, wp_dB, wp_dU, wp_cB, wp_aNil, wp_aCons, wp_dC, wp_var0, wp_varS, wp_dTup, wp_dLst, wp_dLstM, wp_dDic0, wp_sub, wp_add, wp_lt, wp_le, wp_gt, wp_ge, wp_neg, wp_mod, wp_fdiv, wp_pow, wp_mul, wp_int, wp_intb, wp_abs, wp_gcd, wp_bind, wp_pure, wp_ok, wp_cbad, wp_bad, wp_if, outC_rt, outC_nx, outC_ex, List.length_cons, List.length_nil, Nat.zero_add, Nat.reduceAdd, Nat.reduceSub, if_true, if_false, Bool.false_eq_true, List.map_cons, List.map_nil, List.replicate, List.cons_append, List.nil_append, List.set_cons_zero, List.set_cons_succ, List.set_nil, decide_true, decide_false, not_true, not_false_eq_true, Bool.not_true, Bool.not_false])
def bnd (o : D) : Prop := o = .non ∨ ∃ i, o = .int i
def leO : D → Int → Bool
  | .int l, i => decide (l ≤ i)
  | _, _ => true
def geO : D → Int → Bool
  | .int l, i => decide (i ≤ l)
  | _, _ => true
theorem within_int {i : Int} {lo hi : D} {M : Sto} (h1 : bnd lo) (h2 : bnd hi) : F_is_within [.int i, lo, hi] M = .ok (.bl (leO lo i && geO hi i)) M := by
  refine wp_eq ?_
  unfold F_is_within B_is_within
  rcases h1 with h1 | ⟨l, h1⟩ <;> rcases h2 with h2 | ⟨h, h2⟩ <;> subst h1 <;> subst h2 <;> walk_at "wp"
  · exact ⟨rfl, trivial⟩
  · exact ⟨rfl, trivial⟩
  · by_cases z : l ≤ i <;> simp only [z] <;> (try walk_at "wp") <;> simp [leO, geO, z]
  · by_cases z : l ≤ i <;> simp only [z] <;> (try walk_at "wp") <;> simp [leO, geO, z]
theorem within_bl {i : Bool} {lo hi : D} {M : Sto} : F_is_within [.bl i, lo, hi] M = .ok (.bl false) M := by rfl
theorem within_lst {ds : List D} {lo hi : D} {M : Sto} : F_is_within [.lst ds, lo, hi] M = .ok (.bl false) M := by rfl
theorem within_str {s : Str} {lo hi : D} {M : Sto} : F_is_within [.str s, lo, hi] M = .ok (.bl false) M := by rfl
def numP (a u : Int) : Bool := decide (2 ≤ u) && decide ((Nat.gcd a.natAbs u.natAbs : Int) = 1)
theorem list_l {d e : D} {M : Sto} : F_is_list [.lst [d, e], .int 2, .int 2] M = .ok (.bl true) M := by rfl
theorem list_t {d e : D} {M : Sto} : F_is_list [.tup [d, e], .int 2, .int 2] M = .ok (.bl true) M := by rfl
theorem isint_l {ds : List D} {M : Sto} : F_is_integer [.lst ds] M = .ok (.bl false) M := by rfl
theorem isint_t {ds : List D} {M : Sto} : F_is_integer [.tup ds] M = .ok (.bl false) M := by rfl
theorem within2 {u : Int} {M : Sto} : F_is_within [.int u, .int 2, .non] M = .ok (.bl (decide (2 ≤ u))) M := by
  rw [within_int (.inr ⟨_, rfl⟩) (.inl rfl)]; simp [leO, geO]
theorem put_l2 {M : Sto} {d e : D} {o1 o2 o3 : Option D} : (Pat.tp [.nm 1, .nm 2]).put M (.lst [d, e]) [o1, o2, o3] = some [o1, some d, some e] := rfl
theorem put_t2 {M : Sto} {d e : D} {o1 o2 o3 : Option D} : (Pat.tp [.nm 1, .nm 2]).put M (.tup [d, e]) [o1, o2, o3] = some [o1, some d, some e] := rfl
local macro_rules | `(tactic| walk_at "wp") => `(tactic| simp only [isint_int, whole_int, list_l, list_t, isint_l, isint_t, within2, put_l2, put_t2, wp_eqs, wp_eqi, wp_isN, wp_isNn, isNon_int, isNon_non, wp_def, wp_seq, wp_sIf, seqQ_nx, seqQ_rt, seqQ_ex, seqQ_bk, seqQ_ct, wp_sNx, wp_sSet, wp_sAsgT, wp_sRt, wp_sEx, wp_sPar, wp_sSub, wp_tV, wp_asB, wp_tNot, wp_tAnd, wp_tOr, wp_vAnd, wp_vOr, wp_vNot, wp_vIf, wp_dB, wp_dU, wp_cB, wp_aNil, wp_aCons, wp_dC, wp_var0, wp_varS, wp_dTup, wp_dLst, wp_dLstM, wp_dDic0, wp_sub, wp_add, wp_lt, wp_le, wp_gt, wp_ge, wp_neg, wp_mod, wp_fdiv, wp_pow, wp_mul, wp_int, wp_intb, wp_abs, wp_gcd, wp_bind, wp_pure, wp_ok, wp_cbad, wp_bad, wp_if, outC_rt, outC_nx, outC_ex, List.length_cons, List.length_nil, Nat.zero_add, Nat.reduceAdd, Nat.reduceSub, if_true, if_false, Bool.false_eq_true, List.map_cons, List.map_nil, List.replicate, List.cons_append, List.nil_append, List.set_cons_zero, List.set_cons_succ, List.set_nil, decide_true, decide_false, not_true, not_false_eq_true, Bool.not_true, Bool.not_false])
theorem isnum_l {a u : Int} {M : Sto} : F_is_number [.lst [.int a, .int u]] M = .ok (.bl (numP a u)) M := by
  refine wp_eq ?_
  unfold F_is_number B_is_number
  walk_at "wp"
  by_cases z : 2 ≤ u <;> simp only [z] <;> (try walk_at "wp") <;> simp [numP, z]
theorem isnum_t {a u : Int} {M : Sto} : F_is_number [.tup [.int a, .int u]] M = .ok (.bl (numP a u)) M := by
  refine wp_eq ?_
  unfold F_is_number B_is_number
  walk_at "wp"
  by_cases z : 2 ≤ u <;> simp only [z] <;> (try walk_at "wp") <;> simp [numP, z]
theorem parts_l {a u : D} {M : Sto} : F_parts_of [.lst [a, u]] M = .ok (.tup [a, u]) M := by rfl
theorem parts_t {a u : D} {M : Sto} : F_parts_of [.tup [a, u]] M = .ok (.tup [a, u]) M := by rfl
theorem parts_i {a : Int} {M : Sto} : F_parts_of [.int a] M = .ok (.tup [.int a, .int 1]) M := by rfl
theorem isnum_i {a : Int} {M : Sto} : F_is_number [.int a] M = .ok (.bl true) M := by rfl
theorem withinM {u : Int} {M : Sto} : F_is_within [.int u, .int (-1000000), .int 1000000] M = .ok (.bl (decide (-1000000 ≤ u) && decide (u ≤ 1000000))) M := by
  rw [within_int (.inr ⟨_, rfl⟩) (.inr ⟨_, rfl⟩)]; simp [leO, geO]
local macro_rules | `(tactic| walk_at "wp") => `(tactic| simp only [isint_int, whole_int, list_l, list_t, isint_l, isint_t, within2, put_l2, put_t2, isnum_l, isnum_t, isnum_i, parts_l, parts_t, parts_i, withinM, wp_eqs, wp_eqi, wp_isN, wp_isNn, isNon_int, isNon_non, wp_def, wp_seq, wp_sIf, seqQ_nx, seqQ_rt, seqQ_ex, seqQ_bk, seqQ_ct, wp_sNx, wp_sSet, wp_sAsgT, wp_sRt, wp_sEx, wp_sPar, wp_sSub, wp_tV, wp_asB, wp_tNot, wp_tAnd, wp_tOr, wp_vAnd, wp_vOr, wp_vNot, wp_vIf, wp_dB, wp_dU, wp_cB, wp_aNil, wp_aCons, wp_dC, wp_var0, wp_varS, wp_dTup, wp_dLst, wp_dLstM, wp_dDic0, wp_sub, wp_add, wp_lt, wp_le, wp_gt, wp_ge, wp_neg, wp_mod, wp_fdiv, wp_pow, wp_mul, wp_int, wp_intb, wp_abs, wp_gcd, wp_bind, wp_pure, wp_ok, wp_cbad, wp_bad, wp_if, outC_rt, outC_nx, outC_ex, List.length_cons, List.length_nil, Nat.zero_add, Nat.reduceAdd, Nat.reduceSub, if_true, if_false, Bool.false_eq_true, List.map_cons, List.map_nil, List.replicate, List.cons_append, List.nil_append, List.set_cons_zero, List.set_cons_succ, List.set_nil, decide_true, decide_false, not_true, not_false_eq_true, Bool.not_true, Bool.not_false])
def smP (a u : Int) : Bool := (decide (-1000000 ≤ a) && decide (a ≤ 1000000)) && decide (u ≤ 1000)
theorem small_i {a : Int} {M : Sto} : F_is_small [.int a] M = .ok (.bl (smP a 1)) M := by
  refine wp_eq ?_
  unfold F_is_small B_is_small
  walk_at "wp"
  by_cases z : -1000000 ≤ a <;> by_cases y : a ≤ 1000000 <;> simp only [z, y, Bool.and_true, Bool.and_false, Bool.true_and, Bool.false_and, decide_true, decide_false] <;> (try walk_at "wp") <;> simp [smP, z, y]
theorem small_l {a u : Int} {M : Sto} : F_is_small [.lst [.int a, .int u]] M = .ok (.bl (numP a u && smP a u)) M := by
  refine wp_eq ?_
  unfold F_is_small B_is_small
  walk_at "wp"
  cases numP a u <;> (try walk_at "wp")
  · simp
  · by_cases z : -1000000 ≤ a <;> by_cases y : a ≤ 1000000 <;> simp only [z, y, Bool.and_true, Bool.and_false, Bool.true_and, Bool.false_and, decide_true, decide_false] <;> (try walk_at "wp") <;> simp [smP, z, y]
theorem small_t {a u : Int} {M : Sto} : F_is_small [.tup [.int a, .int u]] M = .ok (.bl (numP a u && smP a u)) M := by
  refine wp_eq ?_
  unfold F_is_small B_is_small
  walk_at "wp"
  cases numP a u <;> (try walk_at "wp")
  · simp
  · by_cases z : -1000000 ≤ a <;> by_cases y : a ≤ 1000000 <;> simp only [z, y, Bool.and_true, Bool.and_false, Bool.true_and, Bool.false_and, decide_true, decide_false] <;> (try walk_at "wp") <;> simp [smP, z, y]
end My
end
section
set_option Elab.async false
set_option linter.all false
set_option maxRecDepth 100000
set_option maxHeartbeats 2000000
namespace My
open PySem PySem.Spec PyProof.Rows L2 DL
theorem isi_l {ds : List D} {M : Sto} : dIsi [.lst ds, .tup [.ty "list", .ty "tuple"]] M = .ok (.bl true) M := by rfl
theorem isi_t {ds : List D} {M : Sto} : dIsi [.tup ds, .tup [.ty "list", .ty "tuple"]] M = .ok (.bl true) M := by rfl
theorem isi_i {i : Int} {M : Sto} : dIsi [.int i, .tup [.ty "list", .ty "tuple"]] M = .ok (.bl false) M := by rfl
theorem len_l {a b : D} {M : Sto} : dLen [.lst [a, b]] M = .ok (.int 2) M := by rfl
theorem len_t {a b : D} {M : Sto} : dLen [.tup [a, b]] M = .ok (.int 2) M := by rfl
theorem ix_l0 {a b : D} {M : Sto} : dIx (.lst [a, b]) (.int 0) M = .ok a M := by rfl
theorem ix_t0 {a b : D} {M : Sto} : dIx (.tup [a, b]) (.int 0) M = .ok a M := by rfl
theorem ix_l1 {a b : D} {M : Sto} : dIx (.lst [a, b]) (.int 1) M = .ok b M := by rfl
theorem ix_t1 {a b : D} {M : Sto} : dIx (.tup [a, b]) (.int 1) M = .ok b M := by rfl
theorem le2 : 2 ≤ sizeLine := by decide
local macro_rules | `(tactic| walk_at "wp") => `(tactic| simp only [isint_int, whole_int, isi_l, isi_t, isi_i, len_l, len_t, ix_l0, ix_l1, ix_t0, ix_t1, le2, true_and, ne_eq, not_false_eq_true, wp_eqs, wp_eqi, wp_isN, wp_isNn, isNon_int, isNon_non, wp_def, wp_seq, wp_sIf, seqQ_nx, seqQ_rt, seqQ_ex, seqQ_bk, seqQ_ct, wp_sNx, wp_sSet, wp_sAsgT, wp_sRt, wp_sEx, wp_sPar, wp_sSub, wp_tV, wp_asB, wp_tNot, wp_tAnd, wp_tOr, wp_vAnd, wp_vOr, wp_vNot, wp_vIf, wp_dB, wp_dU, wp_cB, wp_aNil, wp_aCons, wp_dC, wp_var0, wp_varS, wp_dTup, wp_dLst, wp_dLstM, wp_dDic0, wp_sub, wp_add, wp_lt, wp_le, wp_gt, wp_ge, wp_neg, wp_mod, wp_fdiv, wp_pow, wp_mul, wp_int, wp_intb, wp_abs, wp_gcd, wp_bind, wp_pure, wp_ok, wp_cbad, wp_bad, wp_if, outC_rt, outC_nx, outC_ex, List.length_cons, List.length_nil, Nat.zero_add, Nat.reduceAdd, Nat.reduceSub, if_true, if_false, Bool.false_eq_true, List.map_cons, List.map_nil, List.replicate, List.cons_append, List.nil_append, List.set_cons_zero, List.set_cons_succ, List.set_nil, decide_true, decide_false, not_true, not_false_eq_true, Bool.not_true, Bool.not_false])
noncomputable abbrev eucW : SF := whileS (tV (dB dGt (dVar 2) (dC (.int 0)))) (sPar 1 2 (aCons (dVar 2) (aCons (dB dMod (cB dInt (aCons (dVar 1) (aNil))) (dVar 2)) (aNil))))
theorem euc {v : D} {M : Sto} {x y : Nat} {Q : Out → Sto → Prop} {E : EC} (q : ∀ y', Q (.nx [some v, some (.int (Nat.gcd x y : Nat)), y']) M) : wp (eucW [some v, some (.int x), some (.int y)] M) Q E := by
  refine wp_while (fun n ρ M' => ∃ a b : Nat, ρ = [some v, some (.int a), some (.int b)] ∧ n = b ∧ M' = M ∧ Nat.gcd a b = Nat.gcd x y) (fun n ρ M' h => ?_) ⟨x, y, rfl, rfl, rfl, rfl⟩
  obtain ⟨a, b, e1, e2, e3, g⟩ := h
  subst e1; subst e2; subst e3
  walk_at "wp"
  by_cases hb : 0 < n
  · have hb' : (0 : Int) < (n : Int) := by omega
    simp only [hb']
    (try walk_at "wp")
    refine ⟨_, _, rfl, ?_⟩
    exact ⟨a % n, Nat.mod_lt _ hb, n, a % n, by simp, rfl, rfl, by rw [← g, Nat.gcd_comm n, ← Nat.gcd_rec, Nat.gcd_comm]⟩
  · have : n = 0 := by omega
    subst this
    simp only [Int.natCast_zero, Int.lt_irrefl]
    (try walk_at "wp")
    rw [Nat.gcd_zero_right] at g
    rw [g]
    exact q _
theorem whole_l {ds : List D} {M : Sto} : F__law_is_whole [.lst ds] M = .ok (.bl false) M := by rfl
theorem whole_t {ds : List D} {M : Sto} : F__law_is_whole [.tup ds] M = .ok (.bl false) M := by rfl
theorem lnum_i {i : Int} {M : Sto} : F__law_is_number [.int i] M = .ok (.bl true) M := by rfl
theorem abs_nat {a : Int} : (if a < 0 then -a else a) = (a.natAbs : Int) := by split <;> omega
theorem gcd_pos {a u : Int} (h : ¬ u < 2) : Nat.gcd a.natAbs u.toNat = Nat.gcd a.natAbs u.natAbs := by rw [show u.toNat = u.natAbs by omega]
theorem lnum_l {a u : Int} {M : Sto} : F__law_is_number [.lst [.int a, .int u]] M = .ok (.bl (numP a u)) M := by
  refine wp_eq ?_
  unfold F__law_is_number B__law_is_number
  walk_at "wp"
  by_cases z : u < 2
  · simp only [z]
    (try walk_at "wp")
    simp [numP]; omega
  · simp only [z]
    (try walk_at "wp")
    rw [abs_nat, show D.int u = D.int (u.toNat : Int) by rw [Int.toNat_of_nonneg (by omega)]]
    refine ⟨_, _, rfl, euc fun y' => ?_⟩
    (try walk_at "wp")
    rw [gcd_pos z]
    have : 2 ≤ u := by omega
    simp [numP, this]
theorem lnum_t {a u : Int} {M : Sto} : F__law_is_number [.tup [.int a, .int u]] M = .ok (.bl (numP a u)) M := by
  refine wp_eq ?_
  unfold F__law_is_number B__law_is_number
  walk_at "wp"
  by_cases z : u < 2
  · simp only [z]
    (try walk_at "wp")
    simp [numP]; omega
  · simp only [z]
    (try walk_at "wp")
    rw [abs_nat, show D.int u = D.int (u.toNat : Int) by rw [Int.toNat_of_nonneg (by omega)]]
    refine ⟨_, _, rfl, euc fun y' => ?_⟩
    (try walk_at "wp")
    rw [gcd_pos z]
    have : 2 ≤ u := by omega
    simp [numP, this]
end My
end
section
set_option Elab.async false
set_option linter.all false
set_option maxRecDepth 100000
set_option maxHeartbeats 2000000
namespace My
open PySem PySem.Spec PyProof.Rows L2 DL
def small (i : Int) : Prop := i.natAbs ≤ 10 ^ 30
def odds : List D := [.non, .bl true, .bl false, .str "1", .str "1/2", .tup [.int 1], .lst [.int 0], .dic [] [], .tup [.int 1, .int 2, .int 3], .tup [.int 1, .bl true], .tup [.non, .int 2], .tup [.str "1", .int 2], .tup [.int 1, .tup [.int 2, .int 3]], .lst [.lst [.int 1, .int 2]], .tup [.int 1, .str "2"]]
inductive Val : D → Prop
  | i {a : Int} : small a → Val (.int a)
  | l {a u : Int} : small a → small u → Val (.lst [.int a, .int u])
  | t {a u : Int} : small a → small u → Val (.tup [.int a, .int u])
  | o {d : D} : d ∈ odds → Val d
theorem odd_cases {P : D → Prop} (h : odds.all (fun _ => true) = true) (p : P .non ∧ P (.bl true) ∧ P (.bl false) ∧ P (.str "1") ∧ P (.str "1/2") ∧ P (.tup [.int 1]) ∧ P (.lst [.int 0]) ∧ P (.dic [] []) ∧ P (.tup [.int 1, .int 2, .int 3]) ∧ P (.tup [.int 1, .bl true]) ∧ P (.tup [.non, .int 2]) ∧ P (.tup [.str "1", .int 2]) ∧ P (.tup [.int 1, .tup [.int 2, .int 3]]) ∧ P (.lst [.lst [.int 1, .int 2]]) ∧ P (.tup [.int 1, .str "2"])) : ∀ d ∈ odds, P d := by
  obtain ⟨p1, p2, p3, p4, p5, p6, p7, p8, p9, p10, p11, p12, p13, p14, p15⟩ := p
  intro d hd
  unfold odds at hd
  simp only [List.mem_cons, List.not_mem_nil, or_false] at hd
  rcases hd with h | h | h | h | h | h | h | h | h | h | h | h | h | h | h <;> subst h <;> assumption
theorem small_log {i : Int} (h : small i) : i.natAbs.log2 < 1920 := by
  unfold small at h
  have : (10 : Nat) ^ 30 < 2 ^ 100 := by decide
  exact log_fits (k := 100) (by omega)
def numV : D → Bool
  | .int _ => true
  | .lst [.int a, .int u] => numP a u
  | .tup [.int a, .int u] => numP a u
  | _ => false
def smV : D → Bool
  | .int a => smP a 1
  | .lst [.int a, .int u] => numP a u && smP a u
  | .tup [.int a, .int u] => numP a u && smP a u
  | _ => false
def inV (lo hi : D) : D → Bool
  | .int i => leO lo i && geO hi i
  | _ => false
variable {M : Sto} {d lo hi : D}
theorem v_whole (h : Val d) : F__law_is_whole [d] M = .ok (.bl (isInt d)) M := by
  cases h with
  | i h => rfl
  | l _ _ => rfl
  | t _ _ => rfl
  | o h => exact odd_cases (P := fun d => F__law_is_whole [d] M = .ok (.bl (isInt d)) M) rfl ⟨rfl, rfl, rfl, rfl, rfl, rfl, rfl, rfl, rfl, rfl, rfl, rfl, rfl, rfl, rfl⟩ d h
theorem v_isint (h : Val d) : F_is_integer [d] M = .ok (.bl (isInt d)) M := by
  cases h with
  | i h => rfl
  | l _ _ => rfl
  | t _ _ => rfl
  | o h => exact odd_cases (P := fun d => F_is_integer [d] M = .ok (.bl (isInt d)) M) rfl ⟨rfl, rfl, rfl, rfl, rfl, rfl, rfl, rfl, rfl, rfl, rfl, rfl, rfl, rfl, rfl⟩ d h
theorem v_within (h : Val d) (h1 : bnd lo) (h2 : bnd hi) : F_is_within [d, lo, hi] M = .ok (.bl (inV lo hi d)) M := by
  cases h with
  | i h => exact within_int h1 h2
  | l _ _ => rfl
  | t _ _ => rfl
  | o h => exact odd_cases (P := fun d => F_is_within [d, lo, hi] M = .ok (.bl (inV lo hi d)) M) rfl ⟨rfl, rfl, rfl, rfl, rfl, rfl, rfl, rfl, rfl, rfl, rfl, rfl, rfl, rfl, rfl⟩ d h
theorem v_lnum (h : Val d) : F__law_is_number [d] M = .ok (.bl (numV d)) M := by
  cases h with
  | i h => rfl
  | l _ _ => exact lnum_l
  | t _ _ => exact lnum_t
  | o h => exact odd_cases (P := fun d => F__law_is_number [d] M = .ok (.bl (numV d)) M) rfl ⟨rfl, rfl, rfl, rfl, rfl, rfl, rfl, rfl, rfl, rfl, rfl, rfl, rfl, rfl, rfl⟩ d h
theorem v_num (h : Val d) : F_is_number [d] M = .ok (.bl (numV d)) M := by
  cases h with
  | i h => rfl
  | l _ _ => exact isnum_l
  | t _ _ => exact isnum_t
  | o h => exact odd_cases (P := fun d => F_is_number [d] M = .ok (.bl (numV d)) M) rfl ⟨rfl, rfl, rfl, rfl, rfl, rfl, rfl, rfl, rfl, rfl, rfl, rfl, rfl, rfl, rfl⟩ d h
theorem v_small (h : Val d) : F_is_small [d] M = .ok (.bl (smV d)) M := by
  cases h with
  | i h => exact small_i
  | l _ _ => exact small_l
  | t _ _ => exact small_t
  | o h => exact odd_cases (P := fun d => F_is_small [d] M = .ok (.bl (smV d)) M) rfl ⟨rfl, rfl, rfl, rfl, rfl, rfl, rfl, rfl, rfl, rfl, rfl, rfl, rfl, rfl, rfl⟩ d h
theorem v_repr (h : Val d) : ∃ s, ∀ M, dRepr [d] M = .ok (.str s) M := by
  cases h with
  | i h => exact ⟨_, fun M => repr_eq rfl (reprOk_of (by simp only [okS, decide_eq_true_eq]; exact small_log h) (by simp [PyData.depth]) (by simp only [lenB]; decide)) (by simp)⟩
  | l h1 h2 => exact ⟨_, fun M => repr_eq rfl (reprOk_of (by simp only [okS, okSs, decide_eq_true_eq, Bool.and_true, Bool.and_eq_true]; exact ⟨small_log h1, small_log h2⟩) (by simp [PyData.depth, PyData.depthAll]) (by simp only [lenB, lenBs]; decide)) (by simp)⟩
  | t h1 h2 => exact ⟨_, fun M => repr_eq rfl (reprOk_of (by simp only [okS, okSs, decide_eq_true_eq, Bool.and_true, Bool.and_eq_true]; exact ⟨small_log h1, small_log h2⟩) (by simp [PyData.depth, PyData.depthAll]) (by simp only [lenB, lenBs]; decide)) (by simp)⟩
  | o h =>
    refine odd_cases (P := fun d => ∃ s, ∀ M, dRepr [d] M = .ok (.str s) M) rfl ⟨?_, ?_, ?_, ?_, ?_, ?_, ?_, ⟨_, fun M => rfl⟩, ?_, ?_, ?_, ?_, ?_, ?_, ?_⟩ d h <;> exact ⟨_, fun M => repr_eq rfl (by decide +kernel) (by simp)⟩
theorem rep2 {a b : Bool} : dRepr [.lst [.bl a, .bl b]] M = .ok (.str (PyData.shown (.list [.bool a, .bool b]))) M := repr_eq rfl (by cases a <;> cases b <;> decide +kernel) (by simp)
theorem rep4 {a b c e : Bool} : dRepr [.lst [.bl a, .bl b, .bl c, .bl e]] M = .ok (.str (PyData.shown (.list [.bool a, .bool b, .bool c, .bool e]))) M := repr_eq rfl (by cases a <;> cases b <;> cases c <;> cases e <;> decide +kernel) (by simp)
end My
end
section
set_option Elab.async false
set_option linter.all false
set_option maxRecDepth 100000
set_option maxHeartbeats 2000000
namespace My
open PySem PySem.Spec PyProof.Rows L2 DL
theorem dial_ok : DialOk F__law_dial_by := dialA_ok (p1 := 2147483543) (a1 := 43003) (b1 := 8017) (p2 := 2147483497) (b2 := 8039) (a2 := 57037) (c2 := 43013) (p3 := 2147483477) (by omega) (by omega) (by omega) (by omega) (by omega)
section
variable {n : Nat} {B m : Int} {M : Sto} {E : EC} {ds : List D} {Q : D → Sto → Prop}
theorem dial (h : Gau n B M) (hB : B ≤ 500000) (hm : 1 ≤ m) (hm2 : m < 2 ^ 64) (q : ∀ v M', 0 ≤ v → v < m → Gau n (B + 1) M' → But n M M' → Q (.int v) M') : wp (F__law_dial_by [.ptr n, .int m] M) Q E :=
  wp_mono (dial_ok n B m M E h hB hm hm2) (fun d M' ⟨v, e, a, b, c, f⟩ => by subst e; exact q v M' a b c f) fun _ _ _ _ z => z
theorem pick (h : Gau n B M) (hB : B ≤ 500000) (h1 : 1 ≤ ds.length) (h2 : ds.length < 2 ^ 64) (q : ∀ d M', d ∈ ds → Gau n (B + 1) M' → But n M M' → Q d M') : wp (F__law_pick [.ptr n, .lst ds] M) Q E :=
  wp_mono (pick_ok dial_ok h hB h1 h2) (fun d M' ⟨a, b, c⟩ => q d M' a b c) fun _ _ _ _ z => z
local macro_rules | `(tactic| walk_at "wp") => `(tactic| simp only [sizeLine_eq, Int.reduceLE, Int.reduceLT, Int.reduceAbs, Int.natAbs_neg, Nat.reducePow, Nat.reduceLT, Nat.reduceLeDiff, true_and, Int.reduceToNat, Int.reducePow, Int.reduceNeg, Int.reduceAdd, Int.reduceSub, Int.reduceMul, and_self, List.length_map, wp_eqs, wp_eqi, wp_isN, wp_isNn, isNon_int, isNon_non, wp_def, wp_seq, wp_sIf, seqQ_nx, seqQ_rt, seqQ_ex, seqQ_bk, seqQ_ct, wp_sNx, wp_sSet, wp_sAsgT, wp_sRt, wp_sEx, wp_sPar, wp_sSub, wp_tV, wp_asB, wp_tNot, wp_tAnd, wp_tOr, wp_vAnd, wp_vOr, wp_vNot, wp_vIf, wp_dB, wp_dU, wp_cB, wp_aNil, wp_aCons, wp_dC, wp_var0, wp_varS, wp_dTup, wp_dLst, wp_dLstM, wp_dDic0, wp_sub, wp_add, wp_lt, wp_le, wp_gt, wp_ge, wp_neg, wp_mod, wp_fdiv, wp_pow, wp_mul, wp_int, wp_intb, wp_abs, wp_gcd, wp_bind, wp_pure, wp_ok, wp_cbad, wp_bad, wp_if, outC_rt, outC_nx, outC_ex, List.length_cons, List.length_nil, Nat.zero_add, Nat.reduceAdd, Nat.reduceSub, if_true, if_false, Bool.false_eq_true, List.map_cons, List.map_nil, List.replicate, List.cons_append, List.nil_append, List.set_cons_zero, List.set_cons_succ, List.set_nil, decide_true, decide_false, not_true, not_false_eq_true, Bool.not_true, Bool.not_false])
theorem value_ok (h : Gau n B M) (hB : B ≤ 400000) : wp (F__law_value [.ptr n] M) (fun d M' => Val d ∧ Gau n (B + 20) M' ∧ But n M M') E := by
  unfold F__law_value B__law_value
  (try walk_at "wp")
  refine dial h (by omega) (by omega) (by omega) fun v1 M1 v1a v1b g1 b1 => ?_
  (try walk_at "wp")
  refine pick g1 (by omega) (by simp) (by simp) fun w M2 hw g2 b2 => ?_
  obtain ⟨i, hi, e⟩ : ∃ i, small i ∧ w = .int i := by
    unfold small
    simp only [List.mem_cons, List.not_mem_nil, or_false] at hw
    rcases hw with e | e | e | e | e | e | e | e | e <;> exact ⟨_, by omega, e⟩
  subst e
  refine dial g2 (by omega) (by omega) (by omega) fun v3 M3 v3a v3b g3 b3 => ?_
  (try walk_at "wp")
  by_cases z3 : v3 = 0
  · simp only [z3]
    (try walk_at "wp")
    exact ⟨.i hi, g3.mono (by omega), (b1.trans b2).trans b3⟩
  · simp only [z3]
    (try walk_at "wp")
    refine dial g3 (by omega) (by omega) (by omega) fun v4 M4 v4a v4b g4 b4 => ?_
    (try walk_at "wp")
    refine pick g4 (by omega) (by simp) (by simp) fun w5 M5 hw g5 b5 => ?_
    obtain ⟨u, hu, e⟩ : ∃ i, small i ∧ w5 = .int i := by
      unfold small
      simp only [List.mem_cons, List.not_mem_nil, or_false] at hw
      rcases hw with e | e | e | e | e | e | e | e | e | e <;> exact ⟨_, by omega, e⟩
    subst e
    refine dial g5 (by omega) (by omega) (by omega) fun v6 M6 v6a v6b g6 b6 => ?_
    (try walk_at "wp")
    refine ⟨mulOk_l (by decide), ?_⟩
    refine pick g6 (by omega) (by simp) (by simp) fun w7 M7 hw g7 b7 => ?_
    obtain ⟨a, ha, e⟩ : ∃ a, small a ∧ w7 = .int a := by
      unfold small at hi ⊢
      simp only [List.mem_cons, List.not_mem_nil, or_false] at hw
      rcases hw with e | e | e | e <;> exact ⟨_, by omega, e⟩
    subst e
    (try walk_at "wp")
    refine pick g7 (by omega) (by simp) (by simp) fun w8 M8 ho g8 b8 => ?_
    (try walk_at "wp")
    show wp (F__law_pick [D.ptr n, D.lst [D.lst [.int a, D.int u], .tup [.int a, .int u], D.lst [.int a, D.int u], w8]] M8) _ _
    refine pick g8 (by omega) (by simp) (by simp) fun w9 M9 hw g9 b9 => ?_
    (try walk_at "wp")
    refine ⟨?_, g9.mono (by omega), (((((((b1.trans b2).trans b3).trans b4).trans b5).trans b6).trans b7).trans b8).trans b9⟩
    simp only [List.mem_cons, List.not_mem_nil, or_false] at hw
    rcases hw with e | e | e | e
    · exact e ▸ .l ha hu
    · exact e ▸ .t ha hu
    · exact e ▸ .l ha hu
    · exact e ▸ .o ho
end
end My
end
section
set_option Elab.async false
set_option linter.all false
set_option maxRecDepth 100000
set_option maxHeartbeats 2000000
namespace My
open PySem PySem.Spec PyProof.Rows L2 DL
section
variable {Q : D → Sto → Prop} {E : EC} {M : Sto} {d lo hi : D}
theorem wq_whole (h : Val d) : wp (F__law_is_whole [d] M) Q E = Q (.bl (isInt d)) M := by rw [v_whole h]; rfl
theorem wq_isint (h : Val d) : wp (F_is_integer [d] M) Q E = Q (.bl (isInt d)) M := by rw [v_isint h]; rfl
theorem wq_within (h : Val d) (h1 : bnd lo) (h2 : bnd hi) : wp (F_is_within [d, lo, hi] M) Q E = Q (.bl (inV lo hi d)) M := by rw [v_within h h1 h2]; rfl
theorem wq_lnum (h : Val d) : wp (F__law_is_number [d] M) Q E = Q (.bl (numV d)) M := by rw [v_lnum h]; rfl
theorem wq_num (h : Val d) : wp (F_is_number [d] M) Q E = Q (.bl (numV d)) M := by rw [v_num h]; rfl
theorem wq_small (h : Val d) : wp (F_is_small [d] M) Q E = Q (.bl (smV d)) M := by rw [v_small h]; rfl
theorem wq_rep2 {a b : Bool} : wp (dRepr [.lst [.bl a, .bl b]] M) Q E = Q (.str (PyData.shown (.list [.bool a, .bool b]))) M := by rw [rep2]; rfl
theorem wq_rep4 {a b c e : Bool} : wp (dRepr [.lst [.bl a, .bl b, .bl c, .bl e]] M) Q E = Q (.str (PyData.shown (.list [.bool a, .bool b, .bool c, .bool e]))) M := by rw [rep4]; rfl
theorem wp_cK {F : List D → C D} {n m : Nat} {o : List Nat} {g h : DL.Env → C (List D)} {ρ : DL.Env} : wp (cK F n m o g h ρ M) Q E = wp (g ρ M) (fun xs M1 => wp (h ρ M1) (fun ys M2 => wp ((if xs.length = n ∧ ys.length = m then (match pickAll (xs ++ ys) o with
  | some zs => F zs
  | none => C.bad) else C.bad) M2) Q E) E) E := by
  unfold cK; rw [wp_bind]; congr 1; funext xs M1; rw [wp_bind]; (try rfl)
theorem odd_facts : ∀ d ∈ odds, isInt d = false ∧ numV d = false ∧ smV d = false ∧ inV lo hi d = false := odd_cases (P := fun d => isInt d = false ∧ numV d = false ∧ smV d = false ∧ inV lo hi d = false) rfl ⟨⟨rfl, rfl, rfl, rfl⟩, ⟨rfl, rfl, rfl, rfl⟩, ⟨rfl, rfl, rfl, rfl⟩, ⟨rfl, rfl, rfl, rfl⟩, ⟨rfl, rfl, rfl, rfl⟩, ⟨rfl, rfl, rfl, rfl⟩, ⟨rfl, rfl, rfl, rfl⟩, ⟨rfl, rfl, rfl, rfl⟩, ⟨rfl, rfl, rfl, rfl⟩, ⟨rfl, rfl, rfl, rfl⟩, ⟨rfl, rfl, rfl, rfl⟩, ⟨rfl, rfl, rfl, rfl⟩, ⟨rfl, rfl, rfl, rfl⟩, ⟨rfl, rfl, rfl, rfl⟩, ⟨rfl, rfl, rfl, rfl⟩⟩
local macro_rules | `(tactic| walk_at "wp") => `(tactic| simp only [sizeLine_eq, Int.reduceLE, Int.reduceLT, Int.reduceAbs, Int.natAbs_neg, Nat.reducePow, Nat.reduceLT, Nat.reduceLeDiff, true_and, Int.reduceToNat, Int.reducePow, Int.reduceNeg, Int.reduceAdd, Int.reduceSub, Int.reduceMul, and_self, List.length_map, wp_eqs, wp_eqi, wp_isN, wp_isNn, isNon_int, isNon_non, wp_def, wp_seq, wp_sIf, seqQ_nx, seqQ_rt, seqQ_ex, seqQ_bk, seqQ_ct, wp_sNx, wp_sSet, wp_sAsgT, wp_sRt, wp_sEx, wp_sPar, wp_sSub, wp_tV, wp_asB, wp_tNot, wp_tAnd, wp_tOr, wp_vAnd, wp_vOr, wp_vNot, wp_vIf, wp_dB, wp_dU, wp_cB, wp_aNil, wp_aCons, wp_dC, wp_var0, wp_varS, wp_dTup, wp_dLst, wp_dLstM, wp_dDic0, wp_sub, wp_add, wp_lt, wp_le, wp_gt, wp_ge, wp_neg, wp_mod, wp_fdiv, wp_pow, wp_mul, wp_int, wp_intb, wp_abs, wp_gcd, wp_bind, wp_pure, wp_ok, wp_cbad, wp_bad, wp_if, outC_rt, outC_nx, outC_ex, List.length_cons, List.length_nil, Nat.zero_add, Nat.reduceAdd, Nat.reduceSub, if_true, if_false, Bool.false_eq_true, List.map_cons, List.map_nil, List.replicate, List.cons_append, List.nil_append, List.set_cons_zero, List.set_cons_succ, List.set_nil, decide_true, decide_false, not_true, not_false_eq_true, Bool.not_true, Bool.not_false])
local macro_rules | `(tactic| walk_at "w0") => `(tactic| simp only [eq_self, wp_cK, pickAll, List.getElem?_cons_zero, List.getElem?_cons_succ, sizeLine_eq, Int.reduceLE, Int.reduceLT, Int.reduceAbs, Int.natAbs_neg, Nat.reducePow, Nat.reduceLT, Nat.reduceLeDiff, true_and, Int.reduceToNat, Int.reducePow, Int.reduceNeg, Int.reduceAdd, Int.reduceSub, Int.reduceMul, and_self, List.length_map, wp_eqs, wp_eqi, wp_isN, wp_isNn, isNon_int, isNon_non, wp_def, wp_seq, seqQ_nx, seqQ_rt, seqQ_ex, seqQ_bk, seqQ_ct, wp_sNx, wp_sSet, wp_sAsgT, wp_sRt, wp_sEx, wp_sPar, wp_sSub, wp_tV, wp_asB, wp_tNot, wp_tAnd, wp_tOr, wp_vNot, wp_dB, wp_dU, wp_cB, wp_aNil, wp_aCons, wp_dC, wp_var0, wp_varS, wp_dTup, wp_dLst, wp_dLstM, wp_dDic0, wp_sub, wp_add, wp_lt, wp_le, wp_gt, wp_ge, wp_neg, wp_mod, wp_fdiv, wp_pow, wp_mul, wp_int, wp_intb, wp_abs, wp_gcd, wp_bind, wp_pure, wp_ok, wp_cbad, wp_bad, wp_if, outC_rt, outC_nx, outC_ex, List.length_cons, List.length_nil, Nat.zero_add, Nat.reduceAdd, Nat.reduceSub, if_true, if_false, Bool.false_eq_true, List.map_cons, List.map_nil, List.replicate, List.cons_append, List.nil_append, List.set_cons_zero, List.set_cons_succ, List.set_nil, decide_true, decide_false, not_true, not_false_eq_true, Bool.not_true, Bool.not_false])
theorem wp_rng {E : EC} {M : Sto} {Q : List D → Sto → Prop} {ρ : DL.Env} {k : Int} (h : 0 ≤ k ∧ k < 2 ^ 62) : wp (dRng rng1 (aCons (dC (.int k)) aNil) ρ M) Q E = Q (rgI 0 k.toNat) M := by
  show wp ((if -(2 ^ 62) ≤ k ∧ k < 2 ^ 62 then C.pure (rgI 0 k.toNat) else C.bad) M) Q E = _
  rw [if_pos ⟨by omega, h.2⟩]; rfl
theorem rg_len {lo : Int} {n : Nat} : (rgI lo n).length = n := by unfold rgI; simp
theorem not_int {d : D} (h : isInt d = false) : inV lo hi d = false := by
  cases d <;> first | rfl | cases h
theorem int_cases {d : D} : (∃ i, d = .int i) ∨ isInt d = false := by
  cases d <;> first | exact .inl ⟨_, rfl⟩ | exact .inr rfl
section
variable {s g j k x8 x9 x10 : Option D}
theorem within_expr (h1 : bnd lo) (h2 : bnd hi) : wp (vAnd (dVar 5) (vAnd (vOr (dB (dIsN false) (dVar 6) (dC D.non)) (dB dGe (dVar 3) (dVar 6))) (vOr (dB (dIsN false) (dVar 7) (dC D.non)) (dB dLe (dVar 3) (dVar 7)))) [s, g, j, some d, k, some (.bl (isInt d)), some lo, some hi, x8, x9, x10] M) Q E = Q (.bl (inV lo hi d)) M := by
  rcases int_cases (d := d) with ⟨i, e⟩ | e
  · subst e
    rw [show isInt (.int i) = true from rfl]
    rcases h1 with h1 | ⟨l, h1⟩ <;> rcases h2 with h2 | ⟨h, h2⟩ <;> subst h1 <;> subst h2 <;> (try walk_at "wp")
    · rfl
    · rfl
    · by_cases z : l ≤ i <;> simp only [z] <;> (try walk_at "wp") <;> simp [inV, leO, geO, z]
    · by_cases z : l ≤ i <;> simp only [z] <;> (try walk_at "wp") <;> simp [inV, leO, geO, z]
  · rw [e, not_int e]
    (try walk_at "wp")
theorem abs_small {a u : Int} : smP a u = (decide ((if a < 0 then -a else a) ≤ 1000000) && decide (u ≤ 1000)) := by
  unfold smP
  congr 1
  rw [Bool.eq_iff_iff]
  simp only [Bool.and_eq_true, decide_eq_true_eq]
  split <;> omega
theorem ix_l0' {a b : D} : wp (dIx (.lst [a, b]) (.int 0) M) Q E = Q a M := rfl
theorem ix_t0' {a b : D} : wp (dIx (.tup [a, b]) (.int 0) M) Q E = Q a M := rfl
theorem ix_l1' {a b : D} : wp (dIx (.lst [a, b]) (.int 1) M) Q E = Q b M := rfl
theorem ix_t1' {a b : D} : wp (dIx (.tup [a, b]) (.int 1) M) Q E = Q b M := rfl
local macro_rules | `(tactic| walk_at "w1") => `(tactic| simp only [ix_l0', ix_t0', ix_l1', ix_t1', sizeLine_eq, Int.reduceLE, Int.reduceLT, Int.reduceAbs, Int.natAbs_neg, Nat.reducePow, Nat.reduceLT, Nat.reduceLeDiff, true_and, Int.reduceToNat, Int.reducePow, Int.reduceNeg, Int.reduceAdd, Int.reduceSub, Int.reduceMul, and_self, List.length_map, wp_eqs, wp_eqi, wp_isN, wp_isNn, isNon_int, isNon_non, wp_def, wp_seq, wp_sIf, seqQ_nx, seqQ_rt, seqQ_ex, seqQ_bk, seqQ_ct, wp_sNx, wp_sSet, wp_sAsgT, wp_sRt, wp_sEx, wp_sPar, wp_sSub, wp_tV, wp_asB, wp_tNot, wp_tAnd, wp_tOr, wp_vAnd, wp_vOr, wp_vNot, wp_vIf, wp_dB, wp_dU, wp_cB, wp_aNil, wp_aCons, wp_dC, wp_var0, wp_varS, wp_dTup, wp_dLst, wp_dLstM, wp_dDic0, wp_sub, wp_add, wp_lt, wp_le, wp_gt, wp_ge, wp_neg, wp_mod, wp_fdiv, wp_pow, wp_mul, wp_int, wp_intb, wp_abs, wp_gcd, wp_bind, wp_pure, wp_ok, wp_cbad, wp_bad, wp_if, outC_rt, outC_nx, outC_ex, List.length_cons, List.length_nil, Nat.zero_add, Nat.reduceAdd, Nat.reduceSub, if_true, if_false, Bool.false_eq_true, List.map_cons, List.map_nil, List.replicate, List.cons_append, List.nil_append, List.set_cons_zero, List.set_cons_succ, List.set_nil, decide_true, decide_false, not_true, not_false_eq_true, Bool.not_true, Bool.not_false])
theorem small_expr (h : Val d) : wp (vAnd (dVar 9) (vIf (tV (dVar 5)) (dB dLe (cB dAbs (aCons (dVar 3) aNil)) (dB dPow (dC (D.int 10)) (dC (D.int 6)))) (vAnd (dB dLe (cB dAbs (aCons (dB dIx (dVar 3) (dC (D.int 0))) aNil)) (dB dPow (dC (D.int 10)) (dC (D.int 6)))) (dB dLe (dB dIx (dVar 3) (dC (D.int 1))) (dC (D.int 1000))))) [s, g, j, some d, k, some (.bl (isInt d)), some lo, some hi, x8, some (.bl (numV d)), x10] M) Q E = Q (.bl (smV d)) M := by
  cases h with
  | @i a h =>
    rw [show isInt (.int a) = true from rfl, show numV (.int a) = true from rfl, show smV (.int a) = smP a 1 from rfl, abs_small]
    (try walk_at "w1")
    simp
  | @l a u _ _ =>
    rw [show isInt (.lst [.int a, .int u]) = false from rfl, show numV (.lst [.int a, .int u]) = numP a u from rfl, show smV (.lst [.int a, .int u]) = (numP a u && smP a u) from rfl, abs_small]
    cases numP a u <;> (try walk_at "w1")
    · simp
    · by_cases z : (if a < 0 then -a else a) ≤ 1000000 <;> simp only [z] <;> (try walk_at "w1") <;> simp
  | @t a u _ _ =>
    rw [show isInt (.tup [.int a, .int u]) = false from rfl, show numV (.tup [.int a, .int u]) = numP a u from rfl, show smV (.tup [.int a, .int u]) = (numP a u && smP a u) from rfl, abs_small]
    cases numP a u <;> (try walk_at "w1")
    · simp
    · by_cases z : (if a < 0 then -a else a) ≤ 1000000 <;> simp only [z] <;> (try walk_at "w1") <;> simp
  | o h =>
    obtain ⟨e1, e2, e3, _⟩ := odd_facts (lo := lo) (hi := hi) d h
    rw [e2, e3]
    (try walk_at "w1")
end
theorem law_true (ns : List Int) (hn : ns.length ≤ 63) (_ : ∀ z ∈ ns, Builtin.Int.intBits z ≤ 1048576) : ∃ M', F_law [.fz (ns.map D.int)] [] = .ok (.bl true) M' := by
  obtain ⟨b, M', e, h⟩ := wp_ex (x := F_law [.fz (ns.map D.int)] []) (R := fun d => d = .bl true) (by
    unfold F_law B_law
    rw [wp_def]
    simp only [List.length_cons, List.length_nil, Nat.zero_add, if_true, List.map_cons, List.map_nil, List.replicate, List.cons_append, List.nil_append, Nat.reduceSub]
    rw [wp_seq, wp_sSet, wp_cB, wp_aCons, wp_var0, wp_aNil]
    refine wp_mono (gauge_ok (k := 61) hn) (fun g M1 hg => ?_) fun _ _ _ _ z => z
    obtain ⟨e1, g1, _⟩ := hg
    subst e1
    show wp (sSeq _ _ _ _) _ _
    rw [wp_seq, wp_sFor, wp_rng (by omega)]
    refine wp_for (fun i ρ M' => ∃ s x2 x3 x4 x5 x6 x7 x8 x9 x10, ρ = [s, some (.ptr 0), x2, x3, x4, x5, x6, x7, x8, x9, x10] ∧ Gau 0 (30 * i) M') (i := 0) (fun j d ρ M' hd hi => ?_) ⟨_, _, _, _, _, _, _, _, _, _, rfl, by simpa using g1⟩ fun ρ M' hi => ?_
    · obtain ⟨s, x2, x3, x4, x5, x6, x7, x8, x9, x10, e, g2⟩ := hi
      subst e
      have hj : j < 14 := by have := (List.getElem?_eq_some_iff.mp hd).1; rw [rg_len] at this; exact this
      rw [Nat.zero_add] at g2 ⊢
      refine ⟨_, rfl, ?_⟩
      dsimp only [List.set]
      (try walk_at "w0")
      refine wp_mono (value_ok g2 (by omega)) (fun v M2 ⟨hv, g3, _⟩ => ?_) fun _ _ _ _ z => z
      obtain ⟨rs, hr⟩ := v_repr hv
      rw [hr, wp_ok, wq_whole hv]
      refine ⟨_, _, rfl, ?_⟩
      refine dial g3 (by omega) (by omega) (by omega) fun v4 M4 v4a v4b g4 _ => ?_
      refine pick g4 (by omega) (by simp) (by simp) fun lo M5 hlo g5 _ => ?_
      have hlo' : bnd lo := by
        unfold bnd
        simp only [List.mem_cons, List.not_mem_nil, or_false] at hlo
        rcases hlo with e | e | e | e <;> subst e <;> simp
      refine dial g5 (by omega) (by omega) (by omega) fun v6 M6 v6a v6b g6 _ => ?_
      refine pick g6 (by omega) (by simp) (by simp) fun hi M7 hhi g7 _ => ?_
      have hhi' : bnd hi := by
        unfold bnd
        simp only [List.mem_cons, List.not_mem_nil, or_false] at hhi
        rcases hhi with e | e | e | e <;> subst e <;> simp
      refine ⟨_, _, rfl, ?_⟩
      rw [within_expr hlo' hhi', wp_sIf]
      (try walk_at "w0")
      (try simp only [wq_isint hv, wq_rep2, wq_within hv hlo' hhi', wq_lnum hv])
      (try walk_at "w0")
      (try simp only [eq_self, decide_true, Bool.not_true, Bool.false_eq_true, if_false])
      (try walk_at "w0")
      rw [wp_sIf]
      (try walk_at "w0")
      (try simp only [wq_isint hv, wq_rep2, wq_within hv hlo' hhi', wq_lnum hv])
      (try walk_at "w0")
      (try simp only [eq_self, decide_true, Bool.not_true, Bool.false_eq_true, if_false])
      (try walk_at "w0")
      (try simp only [wq_isint hv, wq_rep2, wq_within hv hlo' hhi', wq_lnum hv])
      rw [small_expr hv, wp_sIf]
      (try walk_at "w0")
      (try simp only [wq_num hv, wq_small hv, wq_rep4])
      (try walk_at "w0")
      (try simp only [eq_self, decide_true, Bool.not_true, Bool.false_eq_true, if_false])
      (try walk_at "w0")
      rw [wp_sIf]
      (try walk_at "w0")
      rw [hr, wp_ok]
      (try walk_at "w0")
      (try simp only [eq_self, decide_true, Bool.not_true, Bool.false_eq_true, if_false])
      (try walk_at "w0")
      exact ⟨_, _, _, _, _, _, _, _, _, _, rfl, g7.mono (by omega)⟩
    · obtain ⟨s, x2, x3, x4, x5, x6, x7, x8, x9, x10, e, g2⟩ := hi
      subst e
      rfl)
  exact ⟨M', by rw [e, h]⟩
end
end My
end
set_option Elab.async false
set_option linter.all false
set_option maxRecDepth 100000
set_option maxHeartbeats 4000000
namespace My
open PySem PySem.Spec PyProof.Rows L2 DL
theorem all_mk {l : PySem.W.OpenLaw} {w : World} {K : PySem.W.Frag} {h : Heap} {mg : Str → Option Value} {fa : Addr} (X : K.In h) (G : h.Ns mainGlobals mg) (hfa : mg "law" = some (.ref fa))
    {f_is_integer f_is_within f_is_list f_parts_of f_is_number f_is_small f__law_gauge f__law_dial_by f__law_pick f__law_is_whole f__law_is_number f__law_value f_law : Addr} {od_is_integer an_is_integer od_is_within an_is_within od_is_list an_is_list od_parts_of an_parts_of od_is_number an_is_number od_is_small an_is_small od__law_gauge an__law_gauge od__law_dial_by an__law_dial_by od__law_pick an__law_pick od__law_is_whole an__law_is_whole od__law_is_number an__law_is_number od__law_value an__law_value od_law an_law : Option Addr} {sl_is_integer sl_is_within sl_is_list sl_parts_of sl_is_number sl_is_small sl__law_gauge sl__law_dial_by sl__law_pick sl__law_is_whole sl__law_is_number sl__law_value sl_law : Array (Option Value)} {oc_is_integer kV_is_integer dc_is_integer pm_is_integer cd_is_integer ct_is_integer oc_is_within kV_is_within dc_is_within pm_is_within cd_is_within ct_is_within oc_is_list kV_is_list dc_is_list pm_is_list cd_is_list ct_is_list oc_parts_of kV_parts_of dc_parts_of pm_parts_of cd_parts_of ct_parts_of oc_is_number kV_is_number dc_is_number pm_is_number cd_is_number ct_is_number oc_is_small kV_is_small dc_is_small pm_is_small cd_is_small ct_is_small oc__law_gauge kV__law_gauge dc__law_gauge pm__law_gauge cd__law_gauge ct__law_gauge oc__law_dial_by kV__law_dial_by dc__law_dial_by pm__law_dial_by cd__law_dial_by ct__law_dial_by oc__law_pick kV__law_pick dc__law_pick pm__law_pick cd__law_pick ct__law_pick oc__law_is_whole kV__law_is_whole dc__law_is_whole pm__law_is_whole cd__law_is_whole ct__law_is_whole oc__law_is_number kV__law_is_number dc__law_is_number pm__law_is_number cd__law_is_number ct__law_is_number oc__law_value kV__law_value dc__law_value pm__law_value cd__law_value ct__law_value oc_law kV_law dc_law pm_law cd_law ct_law : Value}
    {t_MOST_ABOVE : Tok}
    {t_MOST_UNDER : Tok}
    (a_is_integer : PySem.W.nsIn K mainGlobals "is_integer" = some (some (.ref f_is_integer)))
    (l_is_integer : K.lookup f_is_integer = some ⟨oc_is_integer, od_is_integer, .func (PySem.W.fnOf "is_integer" "is_integer" (defArgs s_is_integer) (defBody s_is_integer) (defScope s_is_integer) .none kV_is_integer dc_is_integer pm_is_integer an_is_integer cd_is_integer ct_is_integer), sl_is_integer⟩)
    (c_is_integer : PySem.W.codeIn K cd_is_integer "is_integer" = true) (k_is_integer : PySem.W.keepIn K (.ref f_is_integer) = true)
    (a_is_within : PySem.W.nsIn K mainGlobals "is_within" = some (some (.ref f_is_within)))
    (l_is_within : K.lookup f_is_within = some ⟨oc_is_within, od_is_within, .func (PySem.W.fnOf "is_within" "is_within" (defArgs s_is_within) (defBody s_is_within) (defScope s_is_within) .none kV_is_within dc_is_within pm_is_within an_is_within cd_is_within ct_is_within), sl_is_within⟩)
    (c_is_within : PySem.W.codeIn K cd_is_within "is_within" = true) (k_is_within : PySem.W.keepIn K (.ref f_is_within) = true)
    (a_is_list : PySem.W.nsIn K mainGlobals "is_list" = some (some (.ref f_is_list)))
    (l_is_list : K.lookup f_is_list = some ⟨oc_is_list, od_is_list, .func (PySem.W.fnOf "is_list" "is_list" (defArgs s_is_list) (defBody s_is_list) (defScope s_is_list) .none kV_is_list dc_is_list pm_is_list an_is_list cd_is_list ct_is_list), sl_is_list⟩)
    (c_is_list : PySem.W.codeIn K cd_is_list "is_list" = true) (k_is_list : PySem.W.keepIn K (.ref f_is_list) = true)
    (a_parts_of : PySem.W.nsIn K mainGlobals "parts_of" = some (some (.ref f_parts_of)))
    (l_parts_of : K.lookup f_parts_of = some ⟨oc_parts_of, od_parts_of, .func (PySem.W.fnOf "parts_of" "parts_of" (defArgs s_parts_of) (defBody s_parts_of) (defScope s_parts_of) .none kV_parts_of dc_parts_of pm_parts_of an_parts_of cd_parts_of ct_parts_of), sl_parts_of⟩)
    (c_parts_of : PySem.W.codeIn K cd_parts_of "parts_of" = true) (k_parts_of : PySem.W.keepIn K (.ref f_parts_of) = true)
    (a_is_number : PySem.W.nsIn K mainGlobals "is_number" = some (some (.ref f_is_number)))
    (l_is_number : K.lookup f_is_number = some ⟨oc_is_number, od_is_number, .func (PySem.W.fnOf "is_number" "is_number" (defArgs s_is_number) (defBody s_is_number) (defScope s_is_number) .none kV_is_number dc_is_number pm_is_number an_is_number cd_is_number ct_is_number), sl_is_number⟩)
    (c_is_number : PySem.W.codeIn K cd_is_number "is_number" = true) (k_is_number : PySem.W.keepIn K (.ref f_is_number) = true)
    (a_is_small : PySem.W.nsIn K mainGlobals "is_small" = some (some (.ref f_is_small)))
    (l_is_small : K.lookup f_is_small = some ⟨oc_is_small, od_is_small, .func (PySem.W.fnOf "is_small" "is_small" (defArgs s_is_small) (defBody s_is_small) (defScope s_is_small) .none kV_is_small dc_is_small pm_is_small an_is_small cd_is_small ct_is_small), sl_is_small⟩)
    (c_is_small : PySem.W.codeIn K cd_is_small "is_small" = true) (k_is_small : PySem.W.keepIn K (.ref f_is_small) = true)
    (a__law_gauge : PySem.W.nsIn K mainGlobals "_law_gauge" = some (some (.ref f__law_gauge)))
    (l__law_gauge : K.lookup f__law_gauge = some ⟨oc__law_gauge, od__law_gauge, .func (PySem.W.fnOf "_law_gauge" "_law_gauge" (defArgs s__law_gauge) (defBody s__law_gauge) (defScope s__law_gauge) .none kV__law_gauge dc__law_gauge pm__law_gauge an__law_gauge cd__law_gauge ct__law_gauge), sl__law_gauge⟩)
    (c__law_gauge : PySem.W.codeIn K cd__law_gauge "_law_gauge" = true) (k__law_gauge : PySem.W.keepIn K (.ref f__law_gauge) = true)
    (a__law_dial_by : PySem.W.nsIn K mainGlobals "_law_dial_by" = some (some (.ref f__law_dial_by)))
    (l__law_dial_by : K.lookup f__law_dial_by = some ⟨oc__law_dial_by, od__law_dial_by, .func (PySem.W.fnOf "_law_dial_by" "_law_dial_by" (defArgs s__law_dial_by) (defBody s__law_dial_by) (defScope s__law_dial_by) .none kV__law_dial_by dc__law_dial_by pm__law_dial_by an__law_dial_by cd__law_dial_by ct__law_dial_by), sl__law_dial_by⟩)
    (c__law_dial_by : PySem.W.codeIn K cd__law_dial_by "_law_dial_by" = true) (k__law_dial_by : PySem.W.keepIn K (.ref f__law_dial_by) = true)
    (a__law_pick : PySem.W.nsIn K mainGlobals "_law_pick" = some (some (.ref f__law_pick)))
    (l__law_pick : K.lookup f__law_pick = some ⟨oc__law_pick, od__law_pick, .func (PySem.W.fnOf "_law_pick" "_law_pick" (defArgs s__law_pick) (defBody s__law_pick) (defScope s__law_pick) .none kV__law_pick dc__law_pick pm__law_pick an__law_pick cd__law_pick ct__law_pick), sl__law_pick⟩)
    (c__law_pick : PySem.W.codeIn K cd__law_pick "_law_pick" = true) (k__law_pick : PySem.W.keepIn K (.ref f__law_pick) = true)
    (a__law_is_whole : PySem.W.nsIn K mainGlobals "_law_is_whole" = some (some (.ref f__law_is_whole)))
    (l__law_is_whole : K.lookup f__law_is_whole = some ⟨oc__law_is_whole, od__law_is_whole, .func (PySem.W.fnOf "_law_is_whole" "_law_is_whole" (defArgs s__law_is_whole) (defBody s__law_is_whole) (defScope s__law_is_whole) .none kV__law_is_whole dc__law_is_whole pm__law_is_whole an__law_is_whole cd__law_is_whole ct__law_is_whole), sl__law_is_whole⟩)
    (c__law_is_whole : PySem.W.codeIn K cd__law_is_whole "_law_is_whole" = true) (k__law_is_whole : PySem.W.keepIn K (.ref f__law_is_whole) = true)
    (a__law_is_number : PySem.W.nsIn K mainGlobals "_law_is_number" = some (some (.ref f__law_is_number)))
    (l__law_is_number : K.lookup f__law_is_number = some ⟨oc__law_is_number, od__law_is_number, .func (PySem.W.fnOf "_law_is_number" "_law_is_number" (defArgs s__law_is_number) (defBody s__law_is_number) (defScope s__law_is_number) .none kV__law_is_number dc__law_is_number pm__law_is_number an__law_is_number cd__law_is_number ct__law_is_number), sl__law_is_number⟩)
    (c__law_is_number : PySem.W.codeIn K cd__law_is_number "_law_is_number" = true) (k__law_is_number : PySem.W.keepIn K (.ref f__law_is_number) = true)
    (a__law_value : PySem.W.nsIn K mainGlobals "_law_value" = some (some (.ref f__law_value)))
    (l__law_value : K.lookup f__law_value = some ⟨oc__law_value, od__law_value, .func (PySem.W.fnOf "_law_value" "_law_value" (defArgs s__law_value) (defBody s__law_value) (defScope s__law_value) .none kV__law_value dc__law_value pm__law_value an__law_value cd__law_value ct__law_value), sl__law_value⟩)
    (c__law_value : PySem.W.codeIn K cd__law_value "_law_value" = true) (k__law_value : PySem.W.keepIn K (.ref f__law_value) = true)
    (a_law : PySem.W.nsIn K mainGlobals "law" = some (some (.ref f_law)))
    (l_law : K.lookup f_law = some ⟨oc_law, od_law, .func (PySem.W.fnOf "law" "law" (defArgs s_law) (defBody s_law) (defScope s_law) .none kV_law dc_law pm_law an_law cd_law ct_law), sl_law⟩)
    (c_law : PySem.W.codeIn K cd_law "law" = true) (k_law : PySem.W.keepIn K (.ref f_law) = true)
    (z_abs : PySem.W.nsIn K mainGlobals "abs" = some none)
    (z_bool : PySem.W.nsIn K mainGlobals "bool" = some none)
    (z_gcd : PySem.W.nsIn K mainGlobals "gcd" = some (some (.builtin "math.gcd")))
    (z_int : PySem.W.nsIn K mainGlobals "int" = some none)
    (z_isinstance : PySem.W.nsIn K mainGlobals "isinstance" = some none)
    (z_len : PySem.W.nsIn K mainGlobals "len" = some none)
    (z_list : PySem.W.nsIn K mainGlobals "list" = some none)
    (z_range : PySem.W.nsIn K mainGlobals "range" = some none)
    (z_repr : PySem.W.nsIn K mainGlobals "repr" = some none)
    (z_tuple : PySem.W.nsIn K mainGlobals "tuple" = some none)
    (z_MOST_ABOVE : PySem.W.nsIn K mainGlobals "MOST_ABOVE" = some (some (.int 1000000 t_MOST_ABOVE)))
    (z_MOST_UNDER : PySem.W.nsIn K mainGlobals "MOST_UNDER" = some (some (.int 1000 t_MOST_UNDER)))
    : ∃ fd : FuncData, (∀ (s : Shared) (u : Value), BindsTo s fd ⟨[u], []⟩ [("script", u)]) ∧ ∀ base : Heap, K.In base → base.Ns mainGlobals mg → FnG l.prog w K mg base 5 fa fd ["script"] F_law := by
  have T : Top K mg := ⟨PySem.W.mg_none_of X G z_abs, PySem.W.mg_none_of X G z_bool, PySem.W.mg_of X G z_gcd, PySem.W.mg_none_of X G z_int, PySem.W.mg_none_of X G z_isinstance, PySem.W.mg_none_of X G z_len, PySem.W.mg_none_of X G z_list, PySem.W.mg_none_of X G z_range, PySem.W.mg_none_of X G z_repr, PySem.W.mg_none_of X G z_tuple, ⟨_, PySem.W.mg_of X G z_MOST_ABOVE⟩, ⟨_, PySem.W.mg_of X G z_MOST_UNDER⟩⟩
  have e := hfa.symm.trans (PySem.W.mg_of X G a_law)
  cases e
  have F_is_integer' := fun_mk (st := s_is_integer) l_is_integer c_is_integer k_is_integer
  have F_is_within' := fun_mk (st := s_is_within) l_is_within c_is_within k_is_within
  have F_is_list' := fun_mk (st := s_is_list) l_is_list c_is_list k_is_list
  have F_parts_of' := fun_mk (st := s_parts_of) l_parts_of c_parts_of k_parts_of
  have F_is_number' := fun_mk (st := s_is_number) l_is_number c_is_number k_is_number
  have F_is_small' := fun_mk (st := s_is_small) l_is_small c_is_small k_is_small
  have F__law_gauge' := fun_mk (st := s__law_gauge) l__law_gauge c__law_gauge k__law_gauge
  have F__law_dial_by' := fun_mk (st := s__law_dial_by) l__law_dial_by c__law_dial_by k__law_dial_by
  have F__law_pick' := fun_mk (st := s__law_pick) l__law_pick c__law_pick k__law_pick
  have F__law_is_whole' := fun_mk (st := s__law_is_whole) l__law_is_whole c__law_is_whole k__law_is_whole
  have F__law_is_number' := fun_mk (st := s__law_is_number) l__law_is_number c__law_is_number k__law_is_number
  have F__law_value' := fun_mk (st := s__law_value) l__law_value c__law_value k__law_value
  have F_law' := fun_mk (st := s_law) l_law c_law k_law
  have b_is_integer := F_is_integer'.binds (ps := ["value"]) fun _ _ _ _ _ _ us hl => match us, hl with | [_], _ => rfl
  have b_is_within := F_is_within'.binds (ps := ["value", "least", "most"]) fun _ _ _ _ _ _ us hl => match us, hl with | [_, _, _], _ => rfl
  have b_is_list := F_is_list'.binds (ps := ["value", "least", "most"]) fun _ _ _ _ _ _ us hl => match us, hl with | [_, _, _], _ => rfl
  have b_parts_of := F_parts_of'.binds (ps := ["number"]) fun _ _ _ _ _ _ us hl => match us, hl with | [_], _ => rfl
  have b_is_number := F_is_number'.binds (ps := ["value"]) fun _ _ _ _ _ _ us hl => match us, hl with | [_], _ => rfl
  have b_is_small := F_is_small'.binds (ps := ["value"]) fun _ _ _ _ _ _ us hl => match us, hl with | [_], _ => rfl
  have b__law_gauge := F__law_gauge'.binds (ps := ["script"]) fun _ _ _ _ _ _ us hl => match us, hl with | [_], _ => rfl
  have b__law_dial_by := F__law_dial_by'.binds (ps := ["gauge", "many"]) fun _ _ _ _ _ _ us hl => match us, hl with | [_, _], _ => rfl
  have b__law_pick := F__law_pick'.binds (ps := ["gauge", "some"]) fun _ _ _ _ _ _ us hl => match us, hl with | [_, _], _ => rfl
  have b__law_is_whole := F__law_is_whole'.binds (ps := ["value"]) fun _ _ _ _ _ _ us hl => match us, hl with | [_], _ => rfl
  have b__law_is_number := F__law_is_number'.binds (ps := ["value"]) fun _ _ _ _ _ _ us hl => match us, hl with | [_], _ => rfl
  have b__law_value := F__law_value'.binds (ps := ["gauge"]) fun _ _ _ _ _ _ us hl => match us, hl with | [_], _ => rfl
  refine ⟨PySem.W.fnOf "law" "law" (defArgs s_law) (defBody s_law) (defScope s_law) .none kV_law dc_law pm_law an_law cd_law ct_law, fun s v => .of_eq rfl, fun base _ _ => ?_⟩
  have h_is_integer : FnAt l.prog w K mg base 1 s_is_integer "is_integer" ["value"] F_is_integer := ⟨_, _, PySem.W.mg_of X G a_is_integer, F_is_integer', b_is_integer, ok_is_integer T  F_is_integer'⟩
  have h_is_within : FnAt l.prog w K mg base 2 s_is_within "is_within" ["value", "least", "most"] F_is_within := ⟨_, _, PySem.W.mg_of X G a_is_within, F_is_within', b_is_within, ok_is_within T (h_is_integer.mono (by decide)) F_is_within'⟩
  have h_is_list : FnAt l.prog w K mg base 1 s_is_list "is_list" ["value", "least", "most"] F_is_list := ⟨_, _, PySem.W.mg_of X G a_is_list, F_is_list', b_is_list, ok_is_list T  F_is_list'⟩
  have h_parts_of : FnAt l.prog w K mg base 1 s_parts_of "parts_of" ["number"] F_parts_of := ⟨_, _, PySem.W.mg_of X G a_parts_of, F_parts_of', b_parts_of, ok_parts_of T  F_parts_of'⟩
  have h_is_number : FnAt l.prog w K mg base 3 s_is_number "is_number" ["value"] F_is_number := ⟨_, _, PySem.W.mg_of X G a_is_number, F_is_number', b_is_number, ok_is_number T (h_is_integer.mono (by decide)) (h_is_list.mono (by decide)) (h_is_within.mono (by decide)) F_is_number'⟩
  have h_is_small : FnAt l.prog w K mg base 4 s_is_small "is_small" ["value"] F_is_small := ⟨_, _, PySem.W.mg_of X G a_is_small, F_is_small', b_is_small, ok_is_small T (h_is_number.mono (by decide)) (h_parts_of.mono (by decide)) (h_is_within.mono (by decide)) F_is_small'⟩
  have h__law_gauge : FnAt l.prog w K mg base 1 s__law_gauge "_law_gauge" ["script"] F__law_gauge := ⟨_, _, PySem.W.mg_of X G a__law_gauge, F__law_gauge', b__law_gauge, ok__law_gauge T  F__law_gauge'⟩
  have h__law_dial_by : FnAt l.prog w K mg base 1 s__law_dial_by "_law_dial_by" ["gauge", "many"] F__law_dial_by := ⟨_, _, PySem.W.mg_of X G a__law_dial_by, F__law_dial_by', b__law_dial_by, ok__law_dial_by T  F__law_dial_by'⟩
  have h__law_pick : FnAt l.prog w K mg base 2 s__law_pick "_law_pick" ["gauge", "some"] F__law_pick := ⟨_, _, PySem.W.mg_of X G a__law_pick, F__law_pick', b__law_pick, ok__law_pick T (h__law_dial_by.mono (by decide)) F__law_pick'⟩
  have h__law_is_whole : FnAt l.prog w K mg base 1 s__law_is_whole "_law_is_whole" ["value"] F__law_is_whole := ⟨_, _, PySem.W.mg_of X G a__law_is_whole, F__law_is_whole', b__law_is_whole, ok__law_is_whole T  F__law_is_whole'⟩
  have h__law_is_number : FnAt l.prog w K mg base 2 s__law_is_number "_law_is_number" ["value"] F__law_is_number := ⟨_, _, PySem.W.mg_of X G a__law_is_number, F__law_is_number', b__law_is_number, ok__law_is_number T (h__law_is_whole.mono (by decide)) F__law_is_number'⟩
  have h__law_value : FnAt l.prog w K mg base 3 s__law_value "_law_value" ["gauge"] F__law_value := ⟨_, _, PySem.W.mg_of X G a__law_value, F__law_value', b__law_value, ok__law_value T (h__law_pick.mono (by decide)) (h__law_dial_by.mono (by decide)) F__law_value'⟩
  exact ok_law T (h__law_gauge.mono (by decide)) (h__law_value.mono (by decide)) (h__law_is_whole.mono (by decide)) (h__law_pick.mono (by decide)) (h__law_dial_by.mono (by decide)) (h_is_integer.mono (by decide)) (h_is_within.mono (by decide)) (h__law_is_number.mono (by decide)) (h_is_small.mono (by decide)) (h_is_number.mono (by decide)) F_law'
end My
open PySem PySem.W PyProof.Rows
set_option maxHeartbeats 0 in
theorem PySem.Challenge.cw_timesfloor_k02_what_any_value_is_holds : PySem.Challenge.rw_timesfloor_k02_what_any_value_is.Holds := by
  w_on; o_law; k_head; (case hw => w_witness2)
  k_fill
  refine DL.walk_D (l := PySem.Challenge.rw_timesfloor_k02_what_any_value_is) (n := 63) (k := 5) (x := "script") (F := fun _ => My.F_law) rfl (by decide) rfl ⟨rfl, by decide, by decide⟩ (fun w h Y => PySem.W.kIn_of Y) ?F (fun _ ns h1 h2 => My.law_true ns h1 h2)
  case F =>
    intro w mg fa h KX G hmg
    refine' My.all_mk KX G hmg ?a_is_integer ?l_is_integer ?c_is_integer ?k_is_integer ?a_is_within ?l_is_within ?c_is_within ?k_is_within ?a_is_list ?l_is_list ?c_is_list ?k_is_list ?a_parts_of ?l_parts_of ?c_parts_of ?k_parts_of ?a_is_number ?l_is_number ?c_is_number ?k_is_number ?a_is_small ?l_is_small ?c_is_small ?k_is_small ?a__law_gauge ?l__law_gauge ?c__law_gauge ?k__law_gauge ?a__law_dial_by ?l__law_dial_by ?c__law_dial_by ?k__law_dial_by ?a__law_pick ?l__law_pick ?c__law_pick ?k__law_pick ?a__law_is_whole ?l__law_is_whole ?c__law_is_whole ?k__law_is_whole ?a__law_is_number ?l__law_is_number ?c__law_is_number ?k__law_is_number ?a__law_value ?l__law_value ?c__law_value ?k__law_value ?a_law ?l_law ?c_law ?k_law ?z_abs ?z_bool ?z_gcd ?z_int ?z_isinstance ?z_len ?z_list ?z_range ?z_repr ?z_tuple ?z_MOST_ABOVE ?z_MOST_UNDER
    (case a_is_integer => k_is); (case l_is_integer => k_is); (case c_is_integer => k_is); (case k_is_integer => k_is); (case a_is_within => k_is); (case l_is_within => k_is); (case c_is_within => k_is); (case k_is_within => k_is); (case a_is_list => k_is); (case l_is_list => k_is); (case c_is_list => k_is); (case k_is_list => k_is); (case a_parts_of => k_is); (case l_parts_of => k_is); (case c_parts_of => k_is); (case k_parts_of => k_is); (case a_is_number => k_is); (case l_is_number => k_is); (case c_is_number => k_is); (case k_is_number => k_is); (case a_is_small => k_is); (case l_is_small => k_is); (case c_is_small => k_is); (case k_is_small => k_is); (case a__law_gauge => k_is); (case l__law_gauge => k_is); (case c__law_gauge => k_is); (case k__law_gauge => k_is); (case a__law_dial_by => k_is); (case l__law_dial_by => k_is); (case c__law_dial_by => k_is); (case k__law_dial_by => k_is); (case a__law_pick => k_is); (case l__law_pick => k_is); (case c__law_pick => k_is); (case k__law_pick => k_is); (case a__law_is_whole => k_is); (case l__law_is_whole => k_is); (case c__law_is_whole => k_is); (case k__law_is_whole => k_is); (case a__law_is_number => k_is); (case l__law_is_number => k_is); (case c__law_is_number => k_is); (case k__law_is_number => k_is); (case a__law_value => k_is); (case l__law_value => k_is); (case c__law_value => k_is); (case k__law_value => k_is); (case a_law => k_is); (case l_law => k_is); (case c_law => k_is); (case k_law => k_is); (case z_abs => k_is); (case z_bool => k_is); (case z_gcd => k_is); (case z_int => k_is); (case z_isinstance => k_is); (case z_len => k_is); (case z_list => k_is); (case z_range => k_is); (case z_repr => k_is); (case z_tuple => k_is); (case z_MOST_ABOVE => k_is); (case z_MOST_UNDER => k_is)
