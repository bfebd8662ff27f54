import PyProof.Rows.All
import Wide.All
import OpenK.AllK
import Wide.FinOn
import HandS.ForMost
import HandS.Exc
import HandS.ExcOwn
import HandS.ExcInit
import HandS.Lambda
import HandS.EndTab
import HandS.TupAny
import HandS.TupMul
import HandS.Wide
import HandS.IsInst
import HandS.Gcd
import HandS.Conv
import HandS.Flow
import HandS.Style
import HandS.WordsExc
import HandS.TryOnly
import HandS.EndBits
import HandS.Zip
import HandS.Small
import HandS.AnyAll
import KE.KDictZip
import HandS.RevTup
import HandS.GenList
import HandS.Star
import KE.GoesEnumKw
import OpenK.KMore
import PyProof.Rows.CallKw2
import HandS.ExcValue
import HandS.ExcField
import HandS.ExcIs
import KE.KExcIs
import PyProof.InstNe
import HandS.SlotsOwn
import HandS.More
import HandS.RaiseMore
import HandS.Text
import HandS.HeadHook3
import PyProof.CollectIter
import PyProof.WalksMore
import PyProof.MakeMany
import HandS.ClsMeth
import HandS.Deep
import KE.KDflt
import PySem.Challenge.RW_timesfloor_k18_rows_refused
section
set_option Elab.async false
set_option linter.all false
set_option maxRecDepth 100000
set_option maxHeartbeats 1000000
/-! the data layer: values as plain data, a store of things that change -/
namespace DL
open PySem PySem.Spec PyProof.Rows L2

inductive D where
  | non | bl (b : Bool) | int (i : Int) | str (x : Str) | ty (n : String) | obj (a : Addr)
  | lst (ds : List D) | fz (ds : List D) | tup (ds : List D) | ft (ds : List D) | dic (ks : List Key) (ds : List D) | ins (x : Str) (fn : List Str) (ds : List D)
  | ptr (n : Nat) | exc (x : Str) (fn : List Str) (ds : List D) | cls (x : Str)

/-- what stands in the store: a thing that may change, or one that is fixed from now on -/
inductive MO where
  | lst (ds : List D)
  | frz (d : D)
  | ins (x : Str) (fn : List Str) (ds : List D)
  | tbl (x : Str) (q : Str)

abbrev Sto := List MO
abbrev Env := List (Option D)

/-- where the class of this name stands -/
def clsAt (K : PySem.W.Frag) (x : Str) : Option Addr := match PySem.W.nsIn K mainGlobals x with
  | some (some (.ref a)) => some a
  | _ => none
/-- an exception of the class at C, its dict at dx, behind its handling -/
def XO (a C dx : Addr) : HO := .ext fun h => ∃ (oe : Obj) (vs : Array Value), h.get? a = some oe ∧ Zc (.ref C) (some dx) oe ∧ oe.data = .fields vs
mutual
def Rep (K : PySem.W.Frag) (G : Hp) (ps : List Addr) : D → V → Prop
  | .non, v => v = .non
  | .bl b, v => v = .bl b
  | .int i, v => v = .int i
  | .str x, v => v = .str x
  | .ty n, v => v = .ty n
  | .obj a, v => v = .ref a
  | .lst ds, v => ∃ a xs, v = .ref a ∧ G a = some (.lst xs) ∧ Reps K G ps ds xs
  | .fz ds, v => ∃ a xs, v = .ref a ∧ SqL K G a xs ∧ Reps K G ps ds xs
  | .tup ds, v => ∃ a xs, v = .ref a ∧ G a = some (.tup xs) ∧ Reps K G ps ds xs
  | .ft ds, v => ∃ a xs, v = .ref a ∧ SqT K G a xs ∧ Reps K G ps ds xs
  | .dic ks ds, v => ∃ a kvs, v = .ref a ∧ G a = some (.dK kvs) ∧ kvs.map (·.1) = ks ∧ Reps K G ps ds (kvs.map (·.2))
  | .ins x fn ds, v => ∃ a C dx kvs, v = .ref a ∧ clsAt K x = some C ∧ G a = some (.ins C dx kvs) ∧ G dx = some (.own a) ∧ kvs.map (·.1) = fn ∧ Reps K G ps ds (kvs.map (·.2))
  | .exc x fn ds, v => ∃ a C dx kvs, v = .ref a ∧ clsAt K x = some C ∧ G a = some (XO a C dx) ∧ G dx = some (.xd kvs) ∧ kvs.map (·.1) = fn ∧ Reps K G ps ds (kvs.map (·.2))
  | .cls x, v => ∃ C, v = .ref C ∧ clsAt K x = some C
  | .ptr n, v => ∃ a, v = .ref a ∧ ps[n]? = some a
def Reps (K : PySem.W.Frag) (G : Hp) (ps : List Addr) : List D → List V → Prop
  | [], xs => xs = []
  | d :: ds, xs => ∃ x r, xs = x :: r ∧ Rep K G ps d x ∧ Reps K G ps ds r
end

/-- the fixed heap and the pointers grow -/
structure Ext (G : Hp) (ps : List Addr) (G' : Hp) (ps' : List Addr) : Prop where
  sub : ∀ a o, G a = some o → G' a = some o
  pre : ∃ more, ps' = ps ++ more
theorem Ext.refl {G : Hp} {ps : List Addr} : Ext G ps G ps := ⟨fun _ _ h => h, [], by simp⟩
theorem Ext.trans {G G1 G2 : Hp} {p p1 p2 : List Addr} (x : Ext G p G1 p1) (y : Ext G1 p1 G2 p2) : Ext G p G2 p2 :=
  ⟨fun a o h => y.sub a o (x.sub a o h), let ⟨m, e⟩ := x.pre; let ⟨m', e'⟩ := y.pre; ⟨m ++ m', by rw [e', e, List.append_assoc]⟩⟩
theorem Ext.ptr {G G' : Hp} {p p' : List Addr} (x : Ext G p G' p') {n : Nat} {a : Addr} (h : p[n]? = some a) : p'[n]? = some a := by
  obtain ⟨m, e⟩ := x.pre
  rw [e, List.getElem?_append_left (List.getElem?_eq_some_iff.mp h).1]
  exact h
theorem Ext.seqL {K : PySem.W.Frag} {G G' : Hp} {p p' : List Addr} (x : Ext G p G' p') {a : Addr} {xs : List V} (h : SqL K G a xs) : SqL K G' a xs := by
  rcases h with (h | ⟨o, h⟩) | h
  · exact .inl (.inl (x.sub _ _ h))
  · exact .inl (.inr ⟨o, x.sub _ _ h⟩)
  · exact .inr h
theorem Ext.seqT {K : PySem.W.Frag} {G G' : Hp} {p p' : List Addr} (x : Ext G p G' p') {a : Addr} {xs : List V} (h : SqT K G a xs) : SqT K G' a xs := by
  rcases h with (h | ⟨o, h⟩) | h
  · exact .inl (.inl (x.sub _ _ h))
  · exact .inl (.inr ⟨o, x.sub _ _ h⟩)
  · exact .inr h
section
variable {K : PySem.W.Frag} {G G' : Hp} {p p' : List Addr}
mutual
theorem Rep.mono (x : Ext G p G' p') : ∀ {d : D} {v : V}, Rep K G p d v → Rep K G' p' d v
  | .non, _, h => by unfold Rep at h ⊢; exact h
  | .bl _, _, h => by unfold Rep at h ⊢; exact h
  | .int _, _, h => by unfold Rep at h ⊢; exact h
  | .str _, _, h => by unfold Rep at h ⊢; exact h
  | .ty _, _, h => by unfold Rep at h ⊢; exact h
  | .obj _, _, h => by unfold Rep at h ⊢; exact h
  | .lst ds, _, h => by unfold Rep at h ⊢; obtain ⟨a, xs, e, s, r⟩ := h; exact ⟨a, xs, e, x.sub _ _ s, Reps.mono x r⟩
  | .fz ds, _, h => by unfold Rep at h ⊢; obtain ⟨a, xs, e, s, r⟩ := h; exact ⟨a, xs, e, x.seqL s, Reps.mono x r⟩
  | .tup ds, _, h => by unfold Rep at h ⊢; obtain ⟨a, xs, e, s, r⟩ := h; exact ⟨a, xs, e, x.sub _ _ s, Reps.mono x r⟩
  | .ft ds, _, h => by unfold Rep at h ⊢; obtain ⟨a, xs, e, s, r⟩ := h; exact ⟨a, xs, e, x.seqT s, Reps.mono x r⟩
  | .dic ks ds, _, h => by unfold Rep at h ⊢; obtain ⟨a, kvs, e, s, k, r⟩ := h; exact ⟨a, kvs, e, x.sub _ _ s, k, Reps.mono x r⟩
  | .ins _ fn ds, _, h => by unfold Rep at h ⊢; obtain ⟨a, C, dx, kvs, e, c, s, o, k, r⟩ := h; exact ⟨a, C, dx, kvs, e, c, x.sub _ _ s, x.sub _ _ o, k, Reps.mono x r⟩
  | .exc _ fn ds, _, h => by unfold Rep at h ⊢; obtain ⟨a, C, dx, kvs, e, c, s, o, k, r⟩ := h; exact ⟨a, C, dx, kvs, e, c, x.sub _ _ s, x.sub _ _ o, k, Reps.mono x r⟩
  | .cls _, _, h => by unfold Rep at h ⊢; exact h
  | .ptr n, _, h => by unfold Rep at h ⊢; obtain ⟨a, e, s⟩ := h; exact ⟨a, e, x.ptr s⟩
theorem Reps.mono (x : Ext G p G' p') : ∀ {ds : List D} {vs : List V}, Reps K G p ds vs → Reps K G' p' ds vs
  | [], _, h => by unfold Reps at h ⊢; exact h
  | d :: ds, _, h => by unfold Reps at h ⊢; obtain ⟨y, r, e, a, b⟩ := h; exact ⟨y, r, e, Rep.mono x a, Reps.mono x b⟩
end
theorem Reps.nil : Reps K G p [] [] := by unfold Reps; rfl
theorem Reps.cons {d : D} {ds : List D} {v : V} {vs : List V} (a : Rep K G p d v) (b : Reps K G p ds vs) : Reps K G p (d :: ds) (v :: vs) := by
  unfold Reps; exact ⟨v, vs, rfl, a, b⟩
theorem Reps.len : ∀ {ds : List D} {vs : List V}, Reps K G p ds vs → ds.length = vs.length
  | [], _, h => by unfold Reps at h; subst h; rfl
  | d :: ds, _, h => by unfold Reps at h; obtain ⟨y, r, e, _, b⟩ := h; subst e; rw [List.length_cons, List.length_cons, Reps.len b]
theorem Reps.get : ∀ {ds : List D} {vs : List V} {i : Nat} {d : D}, Reps K G p ds vs → ds[i]? = some d → ∃ v, vs[i]? = some v ∧ Rep K G p d v
  | [], _, _, _, _, e => by simp at e
  | d :: ds, _, 0, _, h, e => by
    unfold Reps at h; obtain ⟨y, r, e', a, _⟩ := h; subst e'
    simp only [List.getElem?_cons_zero, Option.some.injEq] at e; subst e
    exact ⟨y, rfl, a⟩
  | d :: ds, _, i + 1, _, h, e => by
    unfold Reps at h; obtain ⟨y, r, e', _, b⟩ := h; subst e'
    exact Reps.get (i := i) b (by simpa using e)
theorem Reps.append : ∀ {ds es : List D} {vs us : List V}, Reps K G p ds vs → Reps K G p es us → Reps K G p (ds ++ es) (vs ++ us)
  | [], _, _, _, h, h' => by unfold Reps at h; subst h; exact h'
  | d :: ds, _, _, _, h, h' => by
    unfold Reps at h; obtain ⟨y, r, e, a, b⟩ := h; subst e
    exact Reps.cons a (Reps.append b h')
theorem Reps.take : ∀ {ds : List D} {vs : List V} (n : Nat), Reps K G p ds vs → Reps K G p (ds.take n) (vs.take n)
  | _, _, 0, _ => by rw [List.take_zero, List.take_zero]; exact Reps.nil
  | [], _, n + 1, h => by unfold Reps at h; subst h; rw [List.take_nil, List.take_nil]; exact Reps.nil
  | d :: ds, _, n + 1, h => by
    unfold Reps at h; obtain ⟨y, r, e, a, b⟩ := h; subst e
    exact Reps.cons a (Reps.take n b)
theorem Reps.drop : ∀ {ds : List D} {vs : List V} (n : Nat), Reps K G p ds vs → Reps K G p (ds.drop n) (vs.drop n)
  | _, _, 0, h => h
  | [], _, n + 1, h => by unfold Reps at h; subst h; rw [List.drop_nil, List.drop_nil]; exact Reps.nil
  | d :: ds, _, n + 1, h => by
    unfold Reps at h; obtain ⟨y, r, e, a, b⟩ := h; subst e
    exact Reps.drop n b
theorem Reps.set : ∀ {ds : List D} {vs : List V} (n : Nat) {d : D} {v : V}, Reps K G p ds vs → Rep K G p d v → Reps K G p (ds.set n d) (vs.set n v)
  | [], _, _, _, _, h, _ => by unfold Reps at h; subst h; exact Reps.nil
  | d :: ds, _, 0, _, _, h, h' => by
    unfold Reps at h; obtain ⟨y, r, e, a, b⟩ := h; subst e
    exact Reps.cons h' b
  | d :: ds, _, n + 1, _, _, h, h' => by
    unfold Reps at h; obtain ⟨y, r, e, a, b⟩ := h; subst e
    exact Reps.cons a (Reps.set n b h')
theorem Reps.one {d : D} {vs : List V} (h : Reps K G p [d] vs) : ∃ v, vs = [v] ∧ Rep K G p d v := by
  unfold Reps at h; obtain ⟨y, r, e, a, b⟩ := h; unfold Reps at b; subst b; exact ⟨y, e, a⟩
theorem Reps.two {d e : D} {vs : List V} (h : Reps K G p [d, e] vs) : ∃ v u, vs = [v, u] ∧ Rep K G p d v ∧ Rep K G p e u := by
  unfold Reps at h; obtain ⟨y, r, q, a, b⟩ := h; obtain ⟨u, q', c⟩ := Reps.one b; subst q'; exact ⟨y, u, q, a, c⟩
theorem Reps.uncons {d : D} {ds : List D} {vs : List V} (h : Reps K G p (d :: ds) vs) : ∃ v r, vs = v :: r ∧ Rep K G p d v ∧ Reps K G p ds r := by
  unfold Reps at h; exact h
theorem Reps.ints : ∀ (ns : List Int), Reps K G p (ns.map D.int) (ns.map V.int)
  | [] => Reps.nil
  | n :: ns => Reps.cons (by unfold Rep; rfl) (Reps.ints ns)
end

/-! ### the store and the slots -/
def MOk (K : PySem.W.Frag) (G : Hp) (ps : List Addr) (H : Hp) (n : Nat) : MO → Prop
  | .lst ds => ∃ a xs, ps[n]? = some a ∧ G a = none ∧ H a = some (.lst xs) ∧ Reps K G ps ds xs
  | .frz d => ∃ a, ps[n]? = some a ∧ Rep K G ps d (.ref a)
  | .ins x fn ds => ∃ a C dx kvs, ps[n]? = some a ∧ clsAt K x = some C ∧ G a = none ∧ H a = some (.ins C dx kvs) ∧ G dx = some (.own a) ∧ kvs.map (·.1) = fn ∧ Reps K G ps ds (kvs.map (·.2))
  | .tbl x q => ∃ c P, PySem.W.tabIn K x = some (c, P) ∧ ps[n]? = some P ∧ G P = none ∧ ∃ qs : Array Value, H P = some (.tbl qs) ∧ TriplesOk qs.toList ∧ ∀ (pos : Pos) (cv : Value), codeAmong pos qs.toList = some cv → ∃ c, cv = .ref c ∧ G c = some (LamX.CodeO c q)
/-- the store stands in the heap -/
structure Sto0 (K : PySem.W.Frag) (G : Hp) (ps : List Addr) (M : Sto) (H : Hp) : Prop where
  sub : ∀ a o, G a = some o → H a = some o
  mem : ∀ n mo, M[n]? = some mo → MOk K G ps H n mo
  nd : ps.Nodup
  len : ps.length = M.length
  old : ∀ (n : Nat) a, ps[n]? = some a → H a ≠ none
def Slots (K : PySem.W.Frag) (G : Hp) (ps : List Addr) (ρ : Env) (σ : L2.St) : Prop :=
  ∀ (i : Nat) d, ρ[i]? = some (some d) → ∃ v, σ[i]? = some (some v) ∧ Rep K G ps d v
structure Sta (K : PySem.W.Frag) (G : Hp) (ps : List Addr) (M : Sto) (ρ : Env) (σ : L2.St) (H : Hp) : Prop where
  sto : Sto0 K G ps M H
  env : Slots K G ps ρ σ
theorem Slots.mono {K : PySem.W.Frag} {G G' : Hp} {p p' : List Addr} {ρ : Env} {σ : L2.St} (x : Ext G p G' p') (h : Slots K G p ρ σ) : Slots K G' p' ρ σ :=
  fun i d e => let ⟨v, a, b⟩ := h i d e; ⟨v, a, b.mono x⟩

/-! ### outcomes -/
inductive Res (α : Type) where
  | ok (a : α) (M : Sto)
  | err (x : Str) (fn : List Str) (ds : List D) (M : Sto)
  | bad
abbrev C (α : Type) := Sto → Res α
@[inline] def C.pure {α : Type} (a : α) : C α := fun M => .ok a M
@[inline] def Res.bind {α β : Type} : Res α → (α → C β) → Res β
  | .ok a M, f => f a M
  | .err c n d M, _ => .err c n d M
  | .bad, _ => .bad
@[inline] def C.bind {α β : Type} (x : C α) (f : α → C β) : C β := fun M => (x M).bind f
@[inline] def C.bad {α : Type} : C α := fun _ => .bad
/-- o or nothing -/
@[inline] def C.of {α : Type} : Option α → C α
  | some a => C.pure a
  | none => C.bad

/-- an exception at dd: its own dict -/
def ErrAt (K : PySem.W.Frag) (G : Hp) (ps : List Addr) (dd : Addr) (fn : List Str) (ds : List D) : Prop :=
  ∃ kvs, G dd = some (.xd kvs) ∧ kvs.map (·.1) = fn ∧ Reps K G ps ds (kvs.map (·.2))

/-- a step: the fixed heap and the pointers grow; what is neither stays as it is -/
structure Stp (G : Hp) (ps : List Addr) (H G' : Hp) (ps' : List Addr) (H' : Hp) : Prop where
  ext : Ext G ps G' ps'
  keep : ∀ a o, H a = some o → a ∉ ps → H' a = some o
  fresh : ∀ a ∈ ps', a ∈ ps ∨ H a = none
  newG : ∀ a o, G' a = some o → G a = some o ∨ H a = none ∨ a ∈ ps
theorem Stp.refl {G : Hp} {ps : List Addr} {H : Hp} : Stp G ps H G ps H := ⟨Ext.refl, fun _ _ h _ => h, fun _ h => .inl h, fun _ _ h => .inl h⟩
theorem Stp.trans {G G1 G2 H H1 H2 : Hp} {p p1 p2 : List Addr} (x : Stp G p H G1 p1 H1) (y : Stp G1 p1 H1 G2 p2 H2) : Stp G p H G2 p2 H2 where
  ext := x.ext.trans y.ext
  keep := fun a o h n => y.keep a o (x.keep a o h n) fun z => (x.fresh a z).elim n fun q => by rw [q] at h; cases h
  fresh := fun a h => by
    rcases y.fresh a h with z | z
    · exact x.fresh a z
    · cases q : H a with
      | none => exact .inr rfl
      | some o =>
        by_cases m : a ∈ p
        · exact .inl m
        · rw [x.keep a o q m] at z; cases z
  newG := fun a o h => by
    rcases y.newG a o h with z | z | z
    · exact x.newG a o z
    · cases q : H a with
      | none => exact .inr (.inl rfl)
      | some o' =>
        by_cases m : a ∈ p
        · exact .inr (.inr m)
        · rw [x.keep a o' q m] at z; cases z
    · rcases x.fresh a z with m | m
      · exact .inr (.inr m)
      · exact .inr (.inl m)

/-- what is wanted behind an outcome -/
def Post {α : Type} (K : PySem.W.Frag) (W : WX) (σ : L2.St) (P : α → Hp → List Addr → Sto → Hp → Prop) (G : Hp) (ps : List Addr) (H : Hp) : Res α → Prop
  | .ok a M => ∀ G' ps' H', Stp G ps H G' ps' H' → Sto0 K G' ps' M H' → P a G' ps' M H'
  | .err x fn ds M => ∀ C dd G' ps' H', clsAt K x = some C → Stp G ps H G' ps' H' → Sto0 K G' ps' M H' → ErrAt K G' ps' dd fn ds → W (.ref C) (some dd) σ H'
  | .bad => False
theorem Post.ext {α : Type} {K : PySem.W.Frag} {W : WX} {σ : L2.St} {P : α → Hp → List Addr → Sto → Hp → Prop} {G G' H H' : Hp} {ps ps' : List Addr} (x : Stp G ps H G' ps' H') : ∀ {r : Res α}, Post K W σ P G ps H r → Post K W σ P G' ps' H' r
  | .ok a M, h => fun G1 p1 H1 y z => h G1 p1 H1 (x.trans y) z
  | .err c fn ds M, h => fun C dd G1 p1 H1 hc y z => h C dd G1 p1 H1 hc (x.trans y) z
  | .bad, h => h
abbrev PP (α : Type) := α → Hp → List Addr → Sto → Hp → Prop
/-- a computation that hangs on the slots -/
def TDp {α : Type} (K : PySem.W.Frag) (W : WX) (P : PP α) (f : Env → C α) (σ : L2.St) (H : Hp) : Prop :=
  ∃ ρ G ps M, Sto0 K G ps M H ∧ Slots K G ps ρ σ ∧ Post K W σ P G ps H (f ρ M)
def PD (K : PySem.W.Frag) (Q : VK) : PP D := fun d G ps _ H => ∀ v, Rep K G ps d v → Q v H
def PDs (K : PySem.W.Frag) (Q : List V → Hp → Prop) : PP (List D) := fun ds G ps _ H => ∀ vs, Reps K G ps ds vs → Q vs H
def PB (Q : Bool → Hp → Prop) : PP Bool := fun b _ _ _ H => Q b H
abbrev TD (K : PySem.W.Frag) (W : WX) (f : Env → C D) : TE := fun σ H Q => TDp K W (PD K Q) f σ H
abbrev TDs (K : PySem.W.Frag) (W : WX) (f : Env → C (List D)) : TA := fun σ H Q => TDp K W (PDs K Q) f σ H
abbrev TB (K : PySem.W.Frag) (W : WX) (f : Env → C Bool) : TT := fun σ H Q => TDp K W (PB Q) f σ H
section
variable {α : Type} {K : PySem.W.Frag} {W : WX} {P : PP α} {σ : L2.St} {H : Hp}
def At1 (K : PySem.W.Frag) (W : WX) (P : PP α) (k : Env → D → C α) (σ : L2.St) (v : V) (H : Hp) : Prop :=
  ∃ ρ G ps M x, Sto0 K G ps M H ∧ Slots K G ps ρ σ ∧ Rep K G ps x v ∧ Post K W σ P G ps H (k ρ x M)
def At2 (K : PySem.W.Frag) (W : WX) (P : PP α) (k : Env → D → D → C α) (σ : L2.St) (v u : V) (H : Hp) : Prop :=
  ∃ ρ G ps M x y, Sto0 K G ps M H ∧ Slots K G ps ρ σ ∧ Rep K G ps x v ∧ Rep K G ps y u ∧ Post K W σ P G ps H (k ρ x y M)
def At3 (K : PySem.W.Frag) (W : WX) (P : PP α) (k : Env → D → D → D → C α) (σ : L2.St) (v u t : V) (H : Hp) : Prop :=
  ∃ ρ G ps M x y z, Sto0 K G ps M H ∧ Slots K G ps ρ σ ∧ Rep K G ps x v ∧ Rep K G ps y u ∧ Rep K G ps z t ∧ Post K W σ P G ps H (k ρ x y z M)
def AtL (K : PySem.W.Frag) (W : WX) (P : PP α) (k : Env → List D → C α) (σ : L2.St) (vs : List V) (H : Hp) : Prop :=
  ∃ ρ G ps M xs, Sto0 K G ps M H ∧ Slots K G ps ρ σ ∧ Reps K G ps xs vs ∧ Post K W σ P G ps H (k ρ xs M)
/-- one after another -/
theorem post_bind {β : Type} {R : PP β} {G : Hp} {ps : List Addr} {r : Res β} {k : β → C α} (h : Post K W σ P G ps H (r.bind k))
    (hk : ∀ a M G' ps' H', r = .ok a M → Stp G ps H G' ps' H' → Sto0 K G' ps' M H' → Post K W σ P G' ps' H' (k a M) → R a G' ps' M H') : Post K W σ R G ps H r := by
  cases r with
  | ok a M => exact fun G' ps' H' x s => hk a M G' ps' H' rfl x s (Post.ext x h)
  | err c fn ds M => exact h
  | bad => exact h
theorem seq1 {f : Env → C D} {k : Env → D → C α} (h : TDp K W P (fun ρ => C.bind (f ρ) (k ρ)) σ H) : TD K W f σ H (At1 K W P k σ) := by
  obtain ⟨ρ, G, ps, M, s, e, p⟩ := h
  exact ⟨ρ, G, ps, M, s, e, post_bind (k := k ρ) p fun a M' G' ps' H' _ x s' q v r => ⟨ρ, G', ps', M', a, s', e.mono x.ext, r, q⟩⟩
theorem seqL {f : Env → C (List D)} {k : Env → List D → C α} (h : TDp K W P (fun ρ => C.bind (f ρ) (k ρ)) σ H) : TDs K W f σ H (AtL K W P k σ) := by
  obtain ⟨ρ, G, ps, M, s, e, p⟩ := h
  exact ⟨ρ, G, ps, M, s, e, post_bind (k := k ρ) p fun a M' G' ps' H' _ x s' q v r => ⟨ρ, G', ps', M', a, s', e.mono x.ext, r, q⟩⟩
theorem seqB {f : Env → C Bool} {k : Env → Bool → C α} (h : TDp K W P (fun ρ => C.bind (f ρ) (k ρ)) σ H) : TB K W f σ H (fun b H1 => TDp K W P (fun ρ => k ρ b) σ H1) := by
  obtain ⟨ρ, G, ps, M, s, e, p⟩ := h
  exact ⟨ρ, G, ps, M, s, e, post_bind (k := k ρ) p fun a M' G' ps' H' _ x s' q => ⟨ρ, G', ps', M', s', e.mono x.ext, q⟩⟩
theorem At1.next {g : Env → C D} {k : Env → D → D → C α} {v : V} (h : At1 K W P (fun ρ x => C.bind (g ρ) (k ρ x)) σ v H) : TD K W g σ H (At2 K W P k σ v) := by
  obtain ⟨ρ, G, ps, M, x, s, e, r, p⟩ := h
  exact ⟨ρ, G, ps, M, s, e, post_bind (k := k ρ x) p fun a M' G' ps' H' _ y s' q v' r' => ⟨ρ, G', ps', M', x, a, s', e.mono y.ext, r.mono y.ext, r', q⟩⟩
theorem At1.nextB {g : Env → C Bool} {k : Env → D → Bool → C α} {v : V} (h : At1 K W P (fun ρ x => C.bind (g ρ) (k ρ x)) σ v H) : TB K W g σ H (fun b H1 => At1 K W P (fun ρ x => k ρ x b) σ v H1) := by
  obtain ⟨ρ, G, ps, M, x, s, e, r, p⟩ := h
  exact ⟨ρ, G, ps, M, s, e, post_bind (k := k ρ x) p fun a M' G' ps' H' _ y s' q => ⟨ρ, G', ps', M', x, s', e.mono y.ext, r.mono y.ext, q⟩⟩
theorem At1.nextL {g : Env → C (List D)} {k : Env → D → List D → C α} {v : V} (h : At1 K W P (fun ρ x => C.bind (g ρ) (k ρ x)) σ v H) :
    TDs K W g σ H (fun us H2 => ∃ ρ G ps M x ys, Sto0 K G ps M H2 ∧ Slots K G ps ρ σ ∧ Rep K G ps x v ∧ Reps K G ps ys us ∧ Post K W σ P G ps H2 (k ρ x ys M)) := by
  obtain ⟨ρ, G, ps, M, x, s, e, r, p⟩ := h
  exact ⟨ρ, G, ps, M, s, e, post_bind (k := k ρ x) p fun a M' G' ps' H' _ y s' q v' r' => ⟨ρ, G', ps', M', x, a, s', e.mono y.ext, r.mono y.ext, r', q⟩⟩
theorem At1.go {k : Env → D → C α} {v : V} (h : At1 K W P k σ v H) : ∃ x, TDp K W P (fun ρ => k ρ x) σ H := by
  obtain ⟨ρ, G, ps, M, x, s, e, r, p⟩ := h
  exact ⟨x, ρ, G, ps, M, s, e, p⟩
theorem At2.next {g : Env → C D} {k : Env → D → D → D → C α} {v u : V} (h : At2 K W P (fun ρ x y => C.bind (g ρ) (k ρ x y)) σ v u H) : TD K W g σ H (At3 K W P k σ v u) := by
  obtain ⟨ρ, G, ps, M, x, y, s, e, r, r2, p⟩ := h
  exact ⟨ρ, G, ps, M, s, e, post_bind (k := k ρ x y) p fun a M' G' ps' H' _ z s' q v' r' => ⟨ρ, G', ps', M', x, y, a, s', e.mono z.ext, r.mono z.ext, r2.mono z.ext, r', q⟩⟩
end

/-! ### the judgements -/
abbrev DE (X : Cx) (W : WX) (e : Expr) (f : Env → C D) : Prop := PE X e (TD X.K W f)
abbrev DA (X : Cx) (W : WX) (es : List Expr) (f : Env → C (List D)) : Prop := PA X es (TDs X.K W f)
abbrev DT (X : Cx) (W : WX) (e : Expr) (f : Env → C Bool) : Prop := PT X e (TB X.K W f)
theorem pe_imp {X : Cx} {e : Expr} {t t' : TE} (h : PE X e t) (i : ∀ σ H Q, t' σ H Q → t σ H Q) : PE X e t' := ⟨fun pins s σ H Q I q => h.run pins s σ H Q I (i σ H Q q)⟩
theorem pa_imp {X : Cx} {e : List Expr} {t t' : TA} (h : PA X e t) (i : ∀ σ H Q, t' σ H Q → t σ H Q) : PA X e t' := ⟨fun po pins s σ H Q I q => h.run po pins s σ H Q I (i σ H Q q)⟩
theorem pt_imp {X : Cx} {e : Expr} {t t' : TT} (h : PT X e t) (i : ∀ σ H Q, t' σ H Q → t σ H Q) : PT X e t' := ⟨fun pins s σ H Q I q => h.run pins s σ H Q I (i σ H Q q)⟩
theorem pw_imp {X : Cx} {e : Expr} {t t' : TT} (h : PW X e t) (i : ∀ σ H Q, t' σ H Q → t σ H Q) : PW X e t' := ⟨fun wh pins s σ H Q I q => h.run wh pins s σ H Q I (i σ H Q q)⟩
theorem ps_imp {X : Cx} {e : Stmt} {t t' : TS} (h : PS X e t) (i : ∀ D σ H, t' D σ H → t D σ H) : PS X e t' := ⟨fun pins s σ H D I q => h.run pins s σ H D I (i D σ H q)⟩
theorem pss_imp {X : Cx} {e : List Stmt} {t t' : TS} (h : PSs X e t) (i : ∀ D σ H, t' D σ H → t D σ H) : PSs X e t' := ⟨fun pins s σ H D I q => h.run pins s σ H D I (i D σ H q)⟩

/-! ### names, constants -/
def dVar (i : Nat) : Env → C D := fun ρ => C.of ((ρ[i]?).join)
def dC (d : D) : Env → C D := fun _ => C.pure d
section
variable {X : Cx} {W : WX}
theorem dVar_imp {i : Nat} : ∀ σ H Q, TD X.K W (dVar i) σ H Q → tVar i σ H Q := fun σ H Q h => by
  obtain ⟨ρ, G, ps, M, s, e, p⟩ := h
  unfold dVar at p
  cases q : (ρ[i]?).join with
  | none => rw [q] at p; exact p.elim
  | some d =>
    rw [q] at p
    obtain ⟨v, hv, r⟩ := e i d (by
      cases z : ρ[i]? with
      | none => rw [z] at q; cases q
      | some o => rw [z] at q; exact congrArg some q)
    exact ⟨v, hv, p G ps H Stp.refl s v r⟩
theorem de_var (i : Nat) {x : Str} {pos : Pos} (hN : X.N[i]? = some x := by rfl) (hv : Vis X.env.scope x := by first | exact Or.inl rfl | exact Or.inr (Or.inl rfl) | exact Or.inr (Or.inr rfl)) (hd : (x == ("__debug__" : Str)) = false := by decide)
    (hcd : (x == ("__classdict__" : Str)) = false := by decide) : DE X W (.Name x pos) (dVar i) := pe_imp (pe_var hN hv hd hcd) dVar_imp
theorem dC_imp {d : D} {v : V} (r : ∀ G ps, Rep X.K G ps d v) : ∀ σ H Q, TD X.K W (dC d) σ H Q → tC v σ H Q := fun σ H Q h => by
  obtain ⟨ρ, G, ps, M, s, e, p⟩ := h
  exact p G ps H Stp.refl s v (r G ps)
theorem de_int {i j pos} : DE X W (.Constant (.int i) j pos) (dC (.int i)) := pe_imp pe_int (dC_imp fun _ _ => by unfold Rep; rfl)
theorem de_bl {i j pos} : DE X W (.Constant (.bool i) j pos) (dC (.bl i)) := pe_imp pe_bl (dC_imp fun _ _ => by unfold Rep; rfl)
theorem de_str {i j pos} : DE X W (.Constant (.str i) j pos) (dC (.str i)) := pe_imp pe_str (dC_imp fun _ _ => by unfold Rep; rfl)
theorem de_non {j pos} : DE X W (.Constant .none j pos) (dC .non) := pe_imp pe_non (dC_imp fun _ _ => by unfold Rep; rfl)
/-- a module's constant, a class, a def -/
theorem de_glob {x : Str} {d : D} {v : V} {u : Value} {pos : Pos} (hg : Gl X x) (hm : X.mg x = some u) (q : RelV v u) (r : ∀ G ps, Rep X.K G ps d v) (hd : (x == ("__debug__" : Str)) = false := by decide) : DE X W (.Name x pos) (dC d) :=
  pe_imp (pe_glob hg hm q hd) (dC_imp r)
theorem de_kint {x : Str} {i : Int} {pos : Pos} (hg : Gl X x) (hm : ∃ t, X.mg x = some (.int i t)) (hd : (x == ("__debug__" : Str)) = false := by decide) : DE X W (.Name x pos) (dC (.int i)) := by
  obtain ⟨t, e⟩ := hm
  exact de_glob (v := .int i) hg e ⟨t, rfl⟩ (fun _ _ => by unfold Rep; rfl) hd
theorem de_ty {x : Str} {n : String} {pos : Pos} (hg : Gl X x) (hm : X.mg x = none) (hv : bootBuiltins x = some (.type n)) (hn : x ≠ "__name__" := by decide) (hd : (x == ("__debug__" : Str)) = false := by decide) : DE X W (.Name x pos) (dC (.ty n)) :=
  pe_imp (pe_bltn (v := .ty n) hg hm hv rfl hn hd) (dC_imp fun _ _ => by unfold Rep; rfl)

/-! ### operators -/
def dB (k : D → D → C D) (f g : Env → C D) : Env → C D := fun ρ => C.bind (f ρ) fun x => C.bind (g ρ) fun y => k x y
def dU (k : D → C D) (f : Env → C D) : Env → C D := fun ρ => C.bind (f ρ) k
/-- what an operator's rule asks, from what the data say -/
def OpD (X : Cx) (W : WX) (k : D → D → C D) (r : R2) : Prop := ∀ σ v u H Q, At2 X.K W (PD X.K Q) (fun _ => k) σ v u H → r v u H Q
def UnD (X : Cx) (W : WX) (k : D → C D) (r : V → Hp → VK → Prop) : Prop := ∀ σ v H Q, At1 X.K W (PD X.K Q) (fun _ => k) σ v H → r v H Q
variable {a b : Expr} {f g : Env → C D} {pos : Pos} {k : D → D → C D} {r : R2}
theorem tdp_mono {α : Type} {K : PySem.W.Frag} {W : WX} {P P' : PP α} {f : Env → C α} {σ : L2.St} {H : Hp} (h : TDp K W P f σ H) (i : ∀ a G ps M H', P a G ps M H' → P' a G ps M H') : TDp K W P' f σ H := by
  obtain ⟨ρ, G, ps, M, s, e, p⟩ := h
  refine ⟨ρ, G, ps, M, s, e, ?_⟩
  cases q : f ρ M with
  | ok a M' => rw [q] at p; exact fun G' ps' H' x s' => i _ _ _ _ _ (p G' ps' H' x s')
  | err c fn ds M' => rw [q] at p; exact p
  | bad => rw [q] at p; exact p
theorem td_mono {K : PySem.W.Frag} {W : WX} {Q Q' : VK} {f : Env → C D} {σ : L2.St} {H : Hp} (h : TD K W f σ H Q) (i : ∀ v H', Q v H' → Q' v H') : TD K W f σ H Q' :=
  tdp_mono h fun _ _ _ _ H' q v r => i v H' (q v r)
theorem tOp_of (hk : OpD X W k r) : ∀ σ H Q, TD X.K W (dB k f g) σ H Q → tOp r (TD X.K W f) (TD X.K W g) σ H Q := fun σ H Q h =>
  td_mono (seq1 (k := fun ρ x => C.bind (g ρ) fun y => k x y) h) fun v H1 h2 => td_mono (At1.next (k := fun _ x y => k x y) h2) fun u H2 h3 => hk σ v u H2 Q h3
theorem de_op {op : Operator} (ho : OpR X (binaryOp op) r) (hk : OpD X W k r) (ha : DE X W a f) (hb : DE X W b g) : DE X W (.BinOp a op b pos) (dB k f g) := pe_imp (pe_op ho ha hb) (tOp_of hk)
theorem de_cmp {op : CmpOp} (ho : OpR X (compareOp op) r) (hk : OpD X W k r) (ha : DE X W a f) (hb : DE X W b g) (hm : behindInMarks op b = false := by first | exact nomark _ | rfl) : DE X W (.Compare a [op] [b] pos) (dB k f g) := pe_imp (pe_cmpR ho ha hb hm) (tOp_of hk)
theorem de_un {op : UnaryOp} {k : D → C D} {r : V → Hp → VK → Prop} (ho : UnR X (unaryOp op) r) (hk : UnD X W k r) (ha : DE X W a f) : DE X W (.UnaryOp op a pos) (dU k f) :=
  pe_imp (pe_un ho ha) fun σ H Q h => td_mono (seq1 (k := fun _ x => k x) h) fun v H1 h2 => hk σ v H1 Q h2
end
end DL
end
section
set_option Elab.async false
set_option linter.all false
set_option maxRecDepth 100000
set_option maxHeartbeats 1000000
namespace DL
open PySem PySem.Spec PyProof.Rows L2
/-! ### the store's turns -/
section
variable {K : PySem.W.Frag} {G : Hp} {ps : List Addr} {M : Sto} {H : Hp}
theorem Sto0.gnone (s : Sto0 K G ps M H) {p : Addr} (h : H p = none) : G p = none := by
  cases q : G p with
  | none => rfl
  | some o => have := s.sub p o q; rw [h] at this; cases this
theorem Sto0.pne (s : Sto0 K G ps M H) {p : Addr} (h : H p = none) {n : Nat} {a : Addr} (e : ps[n]? = some a) : a ≠ p := fun z => s.old n a e (z ▸ h)
theorem ext_new {o : HO} {p : Addr} (h : G p = none) : Ext G ps (upd G p o) ps :=
  ⟨fun a u e => by rw [upd_ne (ne_of_none e h)]; exact e, [], by simp⟩
theorem Sto0.stp {o : HO} {p : Addr} (s : Sto0 K G ps M H) (h : H p = none) : Stp G ps H (upd G p o) ps (upd H p o) :=
  ⟨ext_new (s.gnone h), fun a u e _ => by rw [upd_ne (ne_of_none e h)]; exact e, fun _ h => .inl h, fun a u e => by
    by_cases z : a = p
    · subst z; exact .inr (.inl h)
    · rw [upd_ne z] at e; exact .inl e⟩
theorem Sto0.stpP {o : HO} {p : Addr} (s : Sto0 K G ps M H) (h : H p = none) : Stp G ps H G (ps ++ [p]) (upd H p o) :=
  ⟨⟨fun _ _ h => h, [p], rfl⟩, fun a u e _ => by rw [upd_ne (ne_of_none e h)]; exact e, fun a m => (List.mem_append.mp m).elim .inl fun z => .inr (by rw [List.mem_singleton.mp z]; exact h), fun _ _ e => .inl e⟩
theorem Sto0.stpJ {o : HO} {p : Addr} (s : Sto0 K G ps M H) (h : H p = none) : Stp G ps H G ps (upd H p o) :=
  ⟨Ext.refl, fun a u e _ => by rw [upd_ne (ne_of_none e h)]; exact e, fun _ h => .inl h, fun _ _ e => .inl e⟩
theorem Sto0.stpS {o : HO} {n : Nat} {a : Addr} (s : Sto0 K G ps M H) (h : ps[n]? = some a) : Stp G ps H G ps (upd H a o) :=
  ⟨Ext.refl, fun b u e m => by rw [upd_ne fun z => m (by rw [z]; exact List.mem_of_getElem? h)]; exact e, fun _ h => .inl h, fun _ _ e => .inl e⟩
theorem ext_ptr {p : Addr} : Ext G ps G (ps ++ [p]) := ⟨fun _ _ h => h, [p], rfl⟩
theorem MOk.mono {G' : Hp} {ps' : List Addr} {H' : Hp} {n : Nat} {mo : MO} (x : Ext G ps G' ps') (hg : ∀ a, ps[n]? = some a → G a = none → G' a = none) (hh : ∀ a o, ps[n]? = some a → H a = some o → H' a = some o) (m : MOk K G ps H n mo) : MOk K G' ps' H' n mo := by
  cases mo with
  | lst ds => obtain ⟨a, xs, e, g, h, r⟩ := m; exact ⟨a, xs, x.ptr e, hg a e g, hh a _ e h, r.mono x⟩
  | frz d => obtain ⟨a, e, r⟩ := m; exact ⟨a, x.ptr e, r.mono x⟩
  | ins c fn ds => obtain ⟨a, C, dx, kvs, e, hc, g, h, o, k, r⟩ := m; exact ⟨a, C, dx, kvs, x.ptr e, hc, hg a e g, hh a _ e h, x.sub _ _ o, k, r.mono x⟩
  | tbl y q => obtain ⟨c, P, hc, e, g, qs, h, t, a⟩ := m; exact ⟨c, P, hc, x.ptr e, hg P e g, qs, hh P _ e h, t, fun pos cv hc => let ⟨c, e1, e2⟩ := a pos cv hc; ⟨c, e1, x.sub _ _ e2⟩⟩
/-- a new fixed thing -/
theorem Sto0.new {o : HO} {p : Addr} (s : Sto0 K G ps M H) (h : H p = none) : Sto0 K (upd G p o) ps M (upd H p o) where
  sub := fun a u e => by
    by_cases z : a = p
    · subst z; rw [upd_same] at e ⊢; exact e
    · rw [upd_ne z] at e ⊢; exact s.sub a u e
  mem := fun n mo e => (s.mem n mo e).mono (ext_new (s.gnone h)) (fun a e2 g => by rw [upd_ne (s.pne h e2)]; exact g) (fun a u e2 q => by rw [upd_ne (s.pne h e2)]; exact q)
  nd := s.nd
  len := s.len
  old := fun n a e => by rw [upd_ne (s.pne h e)]; exact s.old n a e
/-- a new thing that nobody asks -/
theorem Sto0.junk {o : HO} {p : Addr} (s : Sto0 K G ps M H) (h : H p = none) : Sto0 K G ps M (upd H p o) where
  sub := fun a u e => by rw [upd_ne (ne_of_none (s.sub a u e) h)]; exact s.sub a u e
  mem := fun n mo e => (s.mem n mo e).mono Ext.refl (fun _ _ g => g) (fun a u e2 q => by rw [upd_ne (s.pne h e2)]; exact q)
  nd := s.nd
  len := s.len
  old := fun n a e => by rw [upd_ne (s.pne h e)]; exact s.old n a e
theorem Sto0.lt (s : Sto0 K G ps M H) {n : Nat} {a : Addr} (e : ps[n]? = some a) : n < M.length := by
  rw [← s.len]; exact (List.getElem?_eq_some_iff.mp e).1
/-- a new list that may change -/
theorem Sto0.newM {p : Addr} {xs : List V} {ds : List D} (s : Sto0 K G ps M H) (h : H p = none) (r : Reps K G ps ds xs) : Sto0 K G (ps ++ [p]) (M ++ [.lst ds]) (upd H p (.lst xs)) where
  sub := fun a u e => by rw [upd_ne (ne_of_none (s.sub a u e) h)]; exact s.sub a u e
  mem := fun n mo e => by
    by_cases z : n < M.length
    · rw [List.getElem?_append_left z] at e
      exact (s.mem n mo e).mono ext_ptr (fun _ _ g => g) (fun a u e2 q => by rw [upd_ne (s.pne h e2)]; exact q)
    · have e' : n = M.length := by
        have := (List.getElem?_eq_some_iff.mp e).1
        rw [List.length_append, List.length_singleton] at this
        omega
      subst e'
      rw [List.getElem?_append_right (Nat.le_refl _), Nat.sub_self] at e
      have e2 : MO.lst ds = mo := by simpa using e
      subst e2
      refine ⟨p, xs, ?_, s.gnone h, upd_same, r.mono ext_ptr⟩
      rw [← s.len, List.getElem?_append_right (Nat.le_refl _), Nat.sub_self]
      rfl
  nd := by
    rw [List.nodup_append]
    refine ⟨s.nd, by simp, fun a ha b hb => ?_⟩
    have hb' : b = p := by simpa using hb
    subst hb'
    obtain ⟨i, hi⟩ := List.getElem?_of_mem ha
    exact s.pne h hi
  len := by rw [List.length_append, List.length_append, s.len]; rfl
  old := fun n a e => by
    by_cases z : a = p
    · subst z; rw [upd_same]; simp
    · rw [upd_ne z]
      have := List.mem_of_getElem? e
      rcases List.mem_append.mp this with q | q
      · obtain ⟨i, hi⟩ := List.getElem?_of_mem q
        exact s.old i a hi
      · exact absurd (by simpa using q) z
theorem nd_ix {n m : Nat} {a : Addr} (nd : ps.Nodup) (e : ps[n]? = some a) (e' : ps[m]? = some a) : n = m := by
  obtain ⟨h1, e1⟩ := List.getElem?_eq_some_iff.mp e
  obtain ⟨h2, e2⟩ := List.getElem?_eq_some_iff.mp e'
  exact (List.getElem_inj nd).mp (e1.trans e2.symm)
/-- a list is changed -/
theorem Sto0.set {n : Nat} {a : Addr} {xs' : List V} {ds ds' : List D} (s : Sto0 K G ps M H) (hm : M[n]? = some (.lst ds)) (hp : ps[n]? = some a) (r : Reps K G ps ds' xs') : Sto0 K G ps (M.set n (.lst ds')) (upd H a (.lst xs')) := by
  obtain ⟨a', xs0, e, g, h, _⟩ := s.mem n _ hm
  have ea : a' = a := Option.some.inj (e.symm.trans hp)
  subst ea
  refine ⟨fun b u q => ?_, fun m mo q => ?_, s.nd, by rw [List.length_set]; exact s.len, fun m b q => ?_⟩
  · have : b ≠ a' := fun z => by rw [z, g] at q; cases q
    rw [upd_ne this]; exact s.sub b u q
  · by_cases z : m = n
    · subst z
      rw [List.getElem?_set_self (List.getElem?_eq_some_iff.mp hm).1] at q
      cases q
      exact ⟨a', xs', e, g, upd_same, r⟩
    · rw [List.getElem?_set_ne (Ne.symm z)] at q
      exact (s.mem m mo q).mono Ext.refl (fun _ _ g => g) (fun b u e2 q2 => by
        have : b ≠ a' := fun w => z (nd_ix s.nd e2 (w ▸ e))
        rw [upd_ne this]; exact q2)
  · by_cases z : b = a'
    · subst z; rw [upd_same]; simp
    · rw [upd_ne z]; exact s.old m b q
/-- a list is fixed from now on -/
theorem Sto0.freeze {n : Nat} {ds : List D} (s : Sto0 K G ps M H) (hm : M[n]? = some (.lst ds)) : ∃ a G', ps[n]? = some a ∧ Stp G ps H G' ps H ∧ Sto0 K G' ps (M.set n (.frz (.lst ds))) H ∧ Rep K G' ps (.lst ds) (.ref a) := by
  obtain ⟨a, xs, e, g, h, r⟩ := s.mem n _ hm
  have x : Ext G ps (upd G a (.lst xs)) ps := ext_new g
  have rr : Rep K (upd G a (.lst xs)) ps (.lst ds) (.ref a) := by unfold Rep; exact ⟨a, xs, rfl, upd_same, r.mono x⟩
  refine ⟨a, upd G a (.lst xs), e, ⟨x, fun _ _ h _ => h, fun _ h => .inl h, fun b u q => by
    by_cases z : b = a
    · subst z; exact .inr (.inr (List.mem_of_getElem? e))
    · rw [upd_ne z] at q; exact .inl q⟩, ⟨fun b u q => ?_, fun m mo q => ?_, s.nd, by rw [List.length_set]; exact s.len, s.old⟩, rr⟩
  · by_cases z : b = a
    · subst z; rw [upd_same] at q; cases q; exact h
    · rw [upd_ne z] at q; exact s.sub b u q
  · by_cases z : m = n
    · subst z
      rw [List.getElem?_set_self (List.getElem?_eq_some_iff.mp hm).1] at q
      cases q
      exact ⟨a, e, rr⟩
    · rw [List.getElem?_set_ne (Ne.symm z)] at q
      exact (s.mem m mo q).mono x (fun b e2 g2 => by
        have : b ≠ a := fun w => z (nd_ix s.nd e2 (w ▸ e))
        rw [upd_ne this]; exact g2) (fun b u e2 q2 => q2)
end

/-! ### what is read off a value -/
def asSeq (M : Sto) : D → Option (List D)
  | .lst ds => some ds
  | .fz ds => some ds
  | .tup ds => some ds
  | .ft ds => some ds
  | .ptr n => match M[n]? with
    | some (.lst ds) => some ds
    | some (.frz (.lst ds)) => some ds
    | _ => none
  | _ => none
def isLst : D → Bool
  | .lst _ => true | .fz _ => true | .ptr _ => true | _ => false
section
variable {K : PySem.W.Frag} {G : Hp} {ps : List Addr} {M : Sto} {H : Hp}
theorem Sto0.seqL (s : Sto0 K G ps M H) {a : Addr} {xs : List V} (h : SqL K G a xs) : SqL K H a xs := by
  rcases h with (h | ⟨o, h⟩) | h
  · exact .inl (.inl (s.sub _ _ h))
  · exact .inl (.inr ⟨o, s.sub _ _ h⟩)
  · exact .inr h
theorem Sto0.seqT (s : Sto0 K G ps M H) {a : Addr} {xs : List V} (h : SqT K G a xs) : SqT K H a xs := by
  rcases h with (h | ⟨o, h⟩) | h
  · exact .inl (.inl (s.sub _ _ h))
  · exact .inl (.inr ⟨o, s.sub _ _ h⟩)
  · exact .inr h
theorem asSeq_tup {d : D} {ds : List D} (s : Sto0 K G ps M H) {v : V} (r : Rep K G ps d v) (e : asSeq M d = some ds) (hl : isLst d = false) : ∃ a xs, v = .ref a ∧ SqT K H a xs ∧ Reps K G ps ds xs := by
  cases d with
  | tup es => cases e; unfold Rep at r; obtain ⟨a, xs, e, q, r⟩ := r; exact ⟨a, xs, e, .inl (.inl (s.sub _ _ q)), r⟩
  | ft es => cases e; unfold Rep at r; obtain ⟨a, xs, e, q, r⟩ := r; exact ⟨a, xs, e, s.seqT q, r⟩
  | lst _ => cases hl
  | fz _ => cases hl
  | ptr _ => cases hl
  | _ => cases e
theorem asSeq_lst {d : D} {ds : List D} (s : Sto0 K G ps M H) {v : V} (r : Rep K G ps d v) (e : asSeq M d = some ds) (hl : isLst d = true) : ∃ a xs, v = .ref a ∧ SqL K H a xs ∧ Reps K G ps ds xs := by
  cases d with
  | lst es => cases e; unfold Rep at r; obtain ⟨a, xs, e, q, r⟩ := r; exact ⟨a, xs, e, .inl (.inl (s.sub _ _ q)), r⟩
  | fz es => cases e; unfold Rep at r; obtain ⟨a, xs, e, q, r⟩ := r; exact ⟨a, xs, e, s.seqL q, r⟩
  | ptr n =>
    unfold Rep at r; obtain ⟨a, e', q⟩ := r
    dsimp only [asSeq] at e
    cases z : M[n]? with
    | none => rw [z] at e; cases e
    | some mo =>
      rw [z] at e
      cases mo with
      | lst es =>
        cases e
        obtain ⟨a', xs, e2, _, h, r⟩ := s.mem n _ z
        have : a' = a := Option.some.inj (e2.symm.trans q)
        subst this
        exact ⟨a', xs, e', .inl (.inl h), r⟩
      | frz d' =>
        cases d' with
        | lst es =>
          cases e
          obtain ⟨a', e2, r⟩ := s.mem n _ z
          have : a' = a := Option.some.inj (e2.symm.trans q)
          subst this
          unfold Rep at r
          obtain ⟨b, xs, e3, g, r⟩ := r
          have : b = a' := (V.ref.inj e3).symm
          subst this
          exact ⟨b, xs, e', .inl (.inl (s.sub _ _ g)), r⟩
        | _ => cases e
      | ins c fn es => cases e
      | tbl _ _ => cases e
  | _ => first | cases hl | cases e
/-- a sequence is read -/
theorem asSeq_rep {d : D} {ds : List D} (s : Sto0 K G ps M H) {v : V} (r : Rep K G ps d v) (e : asSeq M d = some ds) : ∃ a xs, v = .ref a ∧ (SqL K H a xs ∨ SqT K H a xs) ∧ Reps K G ps ds xs := by
  cases h : isLst d with
  | true => obtain ⟨a, xs, e, q, r⟩ := asSeq_lst s r e h; exact ⟨a, xs, e, .inl q, r⟩
  | false => obtain ⟨a, xs, e, q, r⟩ := asSeq_tup s r e h; exact ⟨a, xs, e, .inr q, r⟩
end

/-! ### what a primitive does -/
def primI (g : Int → Int → D) (c : Int → Int → Bool) : D → D → C D
  | .int i, .int j => if c i j then C.pure (g i j) else C.bad
  | _, _ => C.bad
section
variable {X : Cx} {W : WX}
theorem At2.out {α : Type} {K : PySem.W.Frag} {P : PP α} {k : D → D → C α} {σ : L2.St} {v u : V} {H : Hp} (h : At2 K W P (fun _ => k) σ v u H) : ∃ G ps M x y, Sto0 K G ps M H ∧ Rep K G ps x v ∧ Rep K G ps y u ∧ Post K W σ P G ps H (k x y M) := by
  obtain ⟨ρ, G, ps, M, x, y, s, e, r1, r2, p⟩ := h
  exact ⟨G, ps, M, x, y, s, r1, r2, p⟩
theorem At1.out {α : Type} {K : PySem.W.Frag} {P : PP α} {k : D → C α} {σ : L2.St} {v : V} {H : Hp} (h : At1 K W P (fun _ => k) σ v H) : ∃ G ps M x, Sto0 K G ps M H ∧ Rep K G ps x v ∧ Post K W σ P G ps H (k x M) := by
  obtain ⟨ρ, G, ps, M, x, s, e, r1, p⟩ := h
  exact ⟨G, ps, M, x, s, r1, p⟩
/-- ints -/
theorem primI_of {c : Int → Int → Bool} {C' : Int → Int → Prop} {g : Int → Int → D} {g' : Int → Int → V} (hc : ∀ i j, c i j = true → C' i j) (hg : ∀ i j G ps, Rep X.K G ps (g i j) (g' i j)) : OpD X W (primI g c) (rI C' g') := fun σ v u H Q h => by
  obtain ⟨G, ps, M, x, y, s, r1, r2, p⟩ := h.out
  unfold primI at p
  split at p
  · rename_i i j
    unfold Rep at r1 r2
    split at p
    · rename_i hcc
      exact ⟨i, j, r1, r2, hc i j hcc, p G ps H Stp.refl s _ (hg i j G ps)⟩
    · exact p.elim
  · exact p.elim
def dSub := primI (fun i j => .int (i - j)) (fun _ _ => true)
theorem op_subD : OpD X W dSub (rI0 fun i j => .int (i - j)) := fun σ v u H Q h => by
  obtain ⟨i, j, a, b, _, q⟩ := primI_of (X := X) (W := W) (C' := fun _ _ => True) (g' := fun i j => .int (i - j)) (fun _ _ _ => trivial) (fun i j G ps => by unfold Rep; rfl) σ v u H Q h
  exact ⟨i, j, a, b, q⟩
/-- log2 as a bound that is reckoned -/
def small2 (n : Nat) (i : Int) : Bool := decide (i.natAbs.log2 < n)
def dFdiv := primI (fun i j => .int (i / j)) (fun _ j => decide (0 < j) && small2 9000 j)
theorem op_fdivD : OpD X W dFdiv (rI CDivW fun i j => .int (i / j)) := primI_of (fun i j h => by
  simp only [Bool.and_eq_true, decide_eq_true_eq, small2] at h; exact h) (fun i j G ps => by unfold Rep; rfl)
def dMod := primI (fun i j => .int (i % j)) (fun _ j => decide (0 < j))
theorem op_modD : OpD X W dMod (rI (fun _ j => 0 < j) fun i j => .int (i % j)) := primI_of (fun i j h => of_decide_eq_true h) (fun i j G ps => by unfold Rep; rfl)
def dPow := primI (fun i j => .int (i ^ j.toNat)) (fun i j => decide (0 ≤ j ∧ j ≤ 1000000 ∧ i.natAbs < 2 ^ 64))
theorem op_powD : OpD X W dPow (rI CPow fun i j => .int (i ^ j.toNat)) := primI_of (fun i j h => by simp only [decide_eq_true_eq] at h; exact h) (fun i j G ps => by unfold Rep; rfl)
def dLt := primI (fun i j => .bl (decide (i < j))) (fun _ _ => true)
def dLe := primI (fun i j => .bl (decide (i ≤ j))) (fun _ _ => true)
def dGt := primI (fun i j => .bl (decide (j < i))) (fun _ _ => true)
def dGe := primI (fun i j => .bl (decide (j ≤ i))) (fun _ _ => true)
theorem rI_of0 {g : Int → Int → D} {g' : Int → Int → V} (hg : ∀ i j G ps, Rep X.K G ps (g i j) (g' i j)) : OpD X W (primI g fun _ _ => true) (rI0 g') := fun σ v u H Q h => by
  obtain ⟨i, j, a, b, _, q⟩ := primI_of (X := X) (W := W) (C' := fun _ _ => True) (g' := g') (fun _ _ _ => trivial) hg σ v u H Q h
  exact ⟨i, j, a, b, q⟩
theorem op_ltD : OpD X W dLt (rI0 fun i j => .bl (decide (i < j))) := rI_of0 fun i j G ps => by unfold Rep; rfl
theorem op_leD : OpD X W dLe (rI0 fun i j => .bl (decide (i ≤ j))) := rI_of0 fun i j G ps => by unfold Rep; rfl
theorem op_gtD : OpD X W dGt (rI0 fun i j => .bl (decide (j < i))) := rI_of0 fun i j G ps => by unfold Rep; rfl
theorem op_geD : OpD X W dGe (rI0 fun i j => .bl (decide (j ≤ i))) := rI_of0 fun i j G ps => by unfold Rep; rfl

/-! + -/
def dAdd : D → D → C D
  | .int i, .int j => C.pure (.int (i + j))
  | .str x, .str y => if x.length + y.length ≤ sizeLine then C.pure (.str (x ++ y)) else C.bad
  | .lst x, .lst y => if x.length + y.length ≤ sizeLine then C.pure (.lst (x ++ y)) else C.bad
  | .tup x, .tup y => if x.length + y.length ≤ sizeLine then C.pure (.tup (x ++ y)) else C.bad
  | .int i, .bl k => C.pure (.int (i + b2i k))
  | _, _ => C.bad
abbrev rAddA (K : PySem.W.Frag) : R2 := fun x y H Q => (rI0 (fun i j => V.int (i + j)) x y H Q) ∨ (∃ i j, x = .str i ∧ y = .str j ∧ i.length + j.length ≤ sizeLine ∧ Q (.str (i ++ j)) H) ∨ rCat x y H Q ∨ rCatA K x y H Q ∨ (∃ i k, x = .int i ∧ y = .bl k ∧ Q (.int (i + b2i k)) H)
theorem or_addA : OpR X (binaryOp .Add) (rAddA X.K) := op_add.or (op_add_str.or (op_cat.or (op_catA.or op_add_ib)))
theorem op_addD : OpD X W dAdd (rAddA X.K) := fun σ v u H Q h => by
  obtain ⟨G, ps, M, x, y, s, r1, r2, p⟩ := h.out
  unfold dAdd at p
  split at p
  · unfold Rep at r1 r2
    exact .inl ⟨_, _, r1, r2, p G ps H Stp.refl s _ (by unfold Rep; rfl)⟩
  · unfold Rep at r1 r2
    split at p
    · rename_i hz
      exact .inr (.inl ⟨_, _, r1, r2, hz, p G ps H Stp.refl s _ (by unfold Rep; rfl)⟩)
    · exact p.elim
  · unfold Rep at r1 r2
    split at p
    · rename_i hz
      obtain ⟨a, xs, e1, g1, q1⟩ := r1
      obtain ⟨b, ys, e2, g2, q2⟩ := r2
      refine .inr (.inr (.inl ⟨a, b, xs, ys, e1, e2, s.sub _ _ g1, s.sub _ _ g2, by rw [← q1.len, ← q2.len]; exact hz, fun l hl => ?_⟩))
      have x := s.stp (o := .lst (xs ++ ys)) hl
      exact p _ ps _ x (s.new hl) _ (by unfold Rep; exact ⟨l, _, rfl, upd_same, (q1.mono x.ext).append (q2.mono x.ext)⟩)
    · exact p.elim
  · unfold Rep at r1 r2
    split at p
    · rename_i hz
      obtain ⟨a, xs, e1, g1, q1⟩ := r1
      obtain ⟨b, ys, e2, g2, q2⟩ := r2
      refine .inr (.inr (.inr (.inl ⟨a, b, xs, ys, e1, e2, .inl (.inl (s.sub _ _ g1)), .inl (.inl (s.sub _ _ g2)), by rw [← q1.len, ← q2.len]; exact hz, fun e => ?_, fun nx e => ?_, fun _ _ l hl => ?_⟩)))
      · subst e
        refine p G ps H Stp.refl s _ ?_
        rename_i ds es
        have e0 : ds = [] := List.length_eq_zero_iff.mp (by simpa using q1.len)
        subst e0
        rw [List.nil_append]
        unfold Rep
        exact ⟨b, ys, rfl, g2, q2⟩
      · subst e
        refine p G ps H Stp.refl s _ ?_
        rename_i ds es
        have e0 : es = [] := List.length_eq_zero_iff.mp (by simpa using q2.len)
        subst e0
        rw [List.append_nil]
        unfold Rep
        exact ⟨a, xs, rfl, g1, q1⟩
      · have x := s.stp (o := .tup (xs ++ ys)) hl
        exact p _ ps _ x (s.new hl) _ (by unfold Rep; exact ⟨l, _, rfl, upd_same, (q1.mono x.ext).append (q2.mono x.ext)⟩)
    · exact p.elim
  · unfold Rep at r1 r2
    exact .inr (.inr (.inr (.inr ⟨_, _, r1, r2, p G ps H Stp.refl s _ (by unfold Rep; rfl)⟩)))
  · exact p.elim
end
end DL
end
section
set_option Elab.async false
set_option linter.all false
set_option maxRecDepth 100000
set_option maxHeartbeats 1000000
namespace DL
open PySem PySem.Spec PyProof.Rows L2
/-! ### as plain data of the library -/
mutual
def py0 : D → Option PyData
  | .non => some .none
  | .bl b => some (.bool b)
  | .int i => some (.int i)
  | .str x => some (.str x)
  | .lst ds => (py0s ds).map .list
  | .fz ds => (py0s ds).map .list
  | .tup ds => (py0s ds).map .tuple
  | .ft ds => (py0s ds).map .tuple
  | _ => none
def py0s : List D → Option (List PyData)
  | [] => some []
  | d :: ds => match py0 d, py0s ds with
    | some x, some xs => some (x :: xs)
    | _, _ => none
end
def pyM (M : Sto) (d : D) : Option PyData :=
  match d with
  | .ptr n => match M[n]? with
    | some (.lst ds) => (py0s ds).map .list
    | some (.frz (.lst ds)) => (py0s ds).map .list
    | _ => none
  | d => py0 d
section
variable {K : PySem.W.Frag} {G : Hp} {ps : List Addr} {M : Sto} {H : Hp}
mutual
theorem Rep.dp (s : Sto0 K G ps M H) : ∀ {d : D} {v : V} {q : PyData}, Rep K G ps d v → py0 d = some q → Dp K H v q
  | .non, _, _, h, e => by unfold Rep at h; subst h; simp only [py0, Option.some.injEq] at e; subst e; exact .non
  | .bl b, _, _, h, e => by unfold Rep at h; subst h; simp only [py0, Option.some.injEq] at e; subst e; exact .bl b
  | .int i, _, _, h, e => by unfold Rep at h; subst h; simp only [py0, Option.some.injEq] at e; subst e; exact .int i
  | .str x, _, _, h, e => by unfold Rep at h; subst h; simp only [py0, Option.some.injEq] at e; subst e; exact .str x
  | .lst ds, _, _, h, e => by
    unfold Rep at h; obtain ⟨a, xs, e1, g, r⟩ := h; subst e1
    simp only [py0, Option.map_eq_some_iff] at e; obtain ⟨qs, e2, e3⟩ := e; subst e3
    exact .lst (.inl (.inl (s.sub _ _ g))) (Reps.dp s r e2)
  | .fz ds, _, _, h, e => by
    unfold Rep at h; obtain ⟨a, xs, e1, g, r⟩ := h; subst e1
    simp only [py0, Option.map_eq_some_iff] at e; obtain ⟨qs, e2, e3⟩ := e; subst e3
    exact .lst (s.seqL g) (Reps.dp s r e2)
  | .tup ds, _, _, h, e => by
    unfold Rep at h; obtain ⟨a, xs, e1, g, r⟩ := h; subst e1
    simp only [py0, Option.map_eq_some_iff] at e; obtain ⟨qs, e2, e3⟩ := e; subst e3
    exact .tup (.inl (.inl (s.sub _ _ g))) (Reps.dp s r e2)
  | .ft ds, _, _, h, e => by
    unfold Rep at h; obtain ⟨a, xs, e1, g, r⟩ := h; subst e1
    simp only [py0, Option.map_eq_some_iff] at e; obtain ⟨qs, e2, e3⟩ := e; subst e3
    exact .tup (s.seqT g) (Reps.dp s r e2)
  | .ty _, _, _, _, e => by simp [py0] at e
  | .obj _, _, _, _, e => by simp [py0] at e
  | .dic _ _, _, _, _, e => by simp [py0] at e
  | .ins _ _ _, _, _, _, e => by simp [py0] at e
  | .exc _ _ _, _, _, _, e => by simp [py0] at e
  | .cls _, _, _, _, e => by simp [py0] at e
  | .ptr _, _, _, _, e => by simp [py0] at e
theorem Reps.dp (s : Sto0 K G ps M H) : ∀ {ds : List D} {vs : List V} {qs : List PyData}, Reps K G ps ds vs → py0s ds = some qs → DpAll K H vs qs
  | [], _, _, h, e => by unfold Reps at h; subst h; simp only [py0s, Option.some.injEq] at e; subst e; exact .nil
  | d :: ds, _, _, h, e => by
    unfold Reps at h; obtain ⟨y, r, e1, a, b⟩ := h; subst e1
    simp only [py0s] at e
    cases q1 : py0 d with
    | none => rw [q1] at e; simp at e
    | some x =>
      cases q2 : py0s ds with
      | none => rw [q1, q2] at e; simp at e
      | some xs =>
        rw [q1, q2] at e; simp only [Option.some.injEq] at e; subst e
        exact .cons (Rep.dp s a q1) (Reps.dp s b q2)
end
theorem Rep.dpM (s : Sto0 K G ps M H) {d : D} {v : V} {q : PyData} (r : Rep K G ps d v) (e : pyM M d = some q) : Dp K H v q := by
  unfold pyM at e
  split at e
  · rename_i n
    split at e
    · rename_i ds z
      obtain ⟨qs, e2, e3⟩ := Option.map_eq_some_iff.mp e; subst e3
      unfold Rep at r; obtain ⟨a, e', hp⟩ := r; subst e'
      obtain ⟨a', xs, p2, _, h, rr⟩ := s.mem n _ z
      have : a' = a := Option.some.inj (p2.symm.trans hp)
      subst this
      exact .lst (.inl (.inl h)) (Reps.dp s rr e2)
    · rename_i ds z
      obtain ⟨qs, e2, e3⟩ := Option.map_eq_some_iff.mp e; subst e3
      unfold Rep at r; obtain ⟨a, e', hp⟩ := r; subst e'
      obtain ⟨a', p2, rr⟩ := s.mem n _ z
      have : a' = a := Option.some.inj (p2.symm.trans hp)
      subst this
      exact Rep.dp s rr (by simp only [py0, e2, Option.map_some])
    · cases e
  · exact Rep.dp s r e
end

/-! ### == and != -/
def dEqv (neg : Bool) : D → D → C D
  | .str a, .str b => C.pure (.bl (if neg then !decide (a = b) else decide (a = b)))
  | x, y => fun M => match pyM M x, pyM M y with
    | some a, some b => if SeqAt.shaped a && SeqAt.shaped b then .ok (.bl (if neg then !PyData.eqv a b else PyData.eqv a b)) M else .bad
    | _, _ => .bad
section
variable {X : Cx} {W : WX}
abbrev rEqA (K : PySem.W.Frag) : R2 := fun x y H Q => rEqD K x y H Q ∨ rEq x y H Q
abbrev rNeA (K : PySem.W.Frag) : R2 := fun x y H Q => rNeD K x y H Q ∨ rNe x y H Q
theorem op_eqA (hu : X.A.units + 64 < cLine) : OpR X (compareOp .Eq) (rEqA X.K) := fun pins s σ H x y v u Q I rx ry h => h.elim (fun h => op_eqD hu pins s σ H x y v u Q I rx ry h) fun h => op_eq pins s σ H x y v u Q I rx ry h
theorem op_neA (hu : X.A.units + 64 < cLine) : OpR X (compareOp .NotEq) (rNeA X.K) := fun pins s σ H x y v u Q I rx ry h => h.elim (fun h => op_neD hu pins s σ H x y v u Q I rx ry h) fun h => op_ne pins s σ H x y v u Q I rx ry h
theorem dec_strV {a b : Str} : decide (V.str a = V.str b) = decide (a = b) := by
  rw [Bool.eq_iff_iff]; simp
theorem eqv_of {σ : L2.St} {v u : V} {H : Hp} {Q : VK} {neg : Bool} (h : At2 X.K W (PD X.K Q) (fun _ => dEqv neg) σ v u H) :
    (∃ d e, Dp X.K H v d ∧ Dp X.K H u e ∧ SeqAt.shaped d = true ∧ SeqAt.shaped e = true ∧ Q (.bl (if neg then !PyData.eqv d e else PyData.eqv d e)) H) ∨ (scal v u = true ∧ Q (.bl (if neg then !decide (v = u) else decide (v = u))) H) := by
  obtain ⟨G, ps, M, x, y, s, r1, r2, p⟩ := h.out
  unfold dEqv at p
  split at p
  · unfold Rep at r1 r2; subst r1; subst r2
    refine .inr ⟨rfl, ?_⟩
    rw [dec_strV]
    exact p G ps H Stp.refl s _ (by unfold Rep; rfl)
  · dsimp only at p
    split at p
    · rename_i a b ea eb
      split at p
      · rename_i hs
        simp only [Bool.and_eq_true] at hs
        exact .inl ⟨a, b, r1.dpM s ea, r2.dpM s eb, hs.1, hs.2, p G ps H Stp.refl s _ (by unfold Rep; rfl)⟩
      · exact p.elim
    · exact p.elim
theorem op_eqDD : OpD X W (dEqv false) (rEqA X.K) := fun σ v u H Q h => eqv_of h
theorem op_neDD : OpD X W (dEqv true) (rNeA X.K) := fun σ v u H Q h => eqv_of h
/-- is None -/
def isNon : D → Bool
  | .non => true
  | _ => false
def dIsN (neg : Bool) : D → D → C D
  | x, .non => C.pure (.bl (if neg then !isNon x else isNon x))
  | _, _ => C.bad
theorem Rep.non_iff {K : PySem.W.Frag} {G : Hp} {ps : List Addr} {d : D} {v : V} (r : Rep K G ps d v) : decide (v = .non) = isNon d := by
  cases d <;> unfold Rep at r <;> first
    | (subst r; rfl)
    | (obtain ⟨a, C, dx, kvs, e, _⟩ := r; subst e; rfl)
    | (obtain ⟨a, xs, e, _⟩ := r; subst e; rfl)
    | (obtain ⟨a, e, _⟩ := r; subst e; rfl)
theorem isN_of {σ : L2.St} {v u : V} {H : Hp} {Q : VK} {neg : Bool} (h : At2 X.K W (PD X.K Q) (fun _ => dIsN neg) σ v u H) : u = .non ∧ Q (.bl (if neg then !decide (v = .non) else decide (v = .non))) H := by
  obtain ⟨G, ps, M, x, y, s, r1, r2, p⟩ := h.out
  unfold dIsN at p
  split at p
  · unfold Rep at r2
    refine ⟨r2, ?_⟩
    rw [r1.non_iff]
    exact p G ps H Stp.refl s _ (by unfold Rep; rfl)
  · exact p.elim
theorem op_isND : OpD X W (dIsN false) (fun x y H Q => y = .non ∧ Q (.bl (decide (x = .non))) H) := fun σ v u H Q h => isN_of h
theorem op_notND : OpD X W (dIsN true) (fun x y H Q => y = .non ∧ Q (.bl (!decide (x = .non))) H) := fun σ v u H Q h => isN_of h
/-! * -/
def mulOk (i j : Int) : Bool := decide (-(2 ^ 64) < i ∧ i < 2 ^ 64) || decide (-(2 ^ 64) < j ∧ j < 2 ^ 64) || decide (i.natAbs.log2 + j.natAbs.log2 < 1000000)
def dMul : D → D → C D
  | .int i, .int j => if mulOk i j = true then C.pure (.int (i * j)) else C.bad
  | .lst ds, .int k => if -(2 ^ 63) ≤ k ∧ k < 2 ^ 63 ∧ ds.length * k.toNat ≤ sizeLine then C.pure (.lst (List.replicate k.toNat ds).flatten) else C.bad
  | .tup ds, .int k => if ds ≠ [] ∧ 2 ≤ k ∧ k ≤ 1000 ∧ ds.length ≤ 1000 then C.pure (.tup (List.replicate k.toNat ds).flatten) else C.bad
  | _, _ => C.bad
theorem Reps.rep {K : PySem.W.Frag} {G : Hp} {ps : List Addr} {ds : List D} {xs : List V} (r : Reps K G ps ds xs) : ∀ n : Nat, Reps K G ps (List.replicate n ds).flatten (List.replicate n xs).flatten
  | 0 => Reps.nil
  | n + 1 => by
    rw [List.replicate_succ, List.replicate_succ, List.flatten_cons, List.flatten_cons]
    exact r.append (Reps.rep r n)
abbrev rMulA (K : PySem.W.Frag) : R2 := fun x y H Q => (rI CMulW (fun i j => V.int (i * j)) x y H Q) ∨ (rI CMul (fun i j => V.int (i * j)) x y H Q) ∨ rRep x y H Q ∨ rRepT K x y H Q
theorem or_mulA : OpR X (binaryOp .Mult) (rMulA X.K) := op_mulW.or (op_mul.or (op_rep.or op_repT))
theorem ne_nil_of {K : PySem.W.Frag} {G : Hp} {ps : List Addr} {ds : List D} {xs : List V} (r : Reps K G ps ds xs) (h : ds ≠ []) : xs ≠ [] := fun e => by
  subst e
  exact h (List.length_eq_zero_iff.mp (by simpa using r.len))
theorem op_mulD : OpD X W dMul (rMulA X.K) := fun σ v u H Q h => by
  obtain ⟨G, ps, M, x, y, s, r1, r2, p⟩ := h.out
  unfold dMul at p
  split at p
  · unfold Rep at r1 r2
    split at p
    · rename_i hz
      have fin := p G ps H Stp.refl s _ (by unfold Rep; rfl)
      unfold mulOk at hz
      simp only [Bool.or_eq_true, decide_eq_true_eq] at hz
      rcases hz with (hz | hz) | hz
      · exact .inr (.inl ⟨_, _, r1, r2, .inl hz, fin⟩)
      · exact .inr (.inl ⟨_, _, r1, r2, .inr hz, fin⟩)
      · exact .inl ⟨_, _, r1, r2, hz, fin⟩
    · exact p.elim
  · unfold Rep at r1 r2
    split at p
    · rename_i ds k hz
      obtain ⟨a, xs, e1, g1, q1⟩ := r1
      refine .inr (.inr (.inl ⟨a, _, xs, e1, r2, s.sub _ _ g1, hz.1, hz.2.1, by rw [← q1.len]; exact hz.2.2, fun l hl => ?_⟩))
      have z := s.stp (o := .lst (List.replicate (Int.toNat k) xs).flatten) hl
      exact p _ ps _ z (s.new hl) _ (by unfold Rep; exact ⟨l, _, rfl, upd_same, (q1.mono z.ext).rep _⟩)
    · exact p.elim
  · unfold Rep at r1 r2
    split at p
    · rename_i ds k hz
      obtain ⟨a, xs, e1, g1, q1⟩ := r1
      refine .inr (.inr (.inr ⟨a, _, xs, e1, r2, .inl (.inl (s.sub _ _ g1)), ne_nil_of q1 hz.1, hz.2.1, hz.2.2.1, by rw [← q1.len]; exact hz.2.2.2, fun l hl => ?_⟩))
      have z := s.stp (o := .tup (List.replicate (Int.toNat k) xs).flatten) hl
      exact p _ ps _ z (s.new hl) _ (by unfold Rep; exact ⟨l, _, rfl, upd_same, (q1.mono z.ext).rep _⟩)
    · exact p.elim
  · exact p.elim
/-! ### unary -/
def dNeg : D → C D
  | .int i => C.pure (.int (-i))
  | _ => C.bad
theorem un_negD : UnD X W dNeg (rU fun i => .int (-i)) := fun σ v H Q h => by
  obtain ⟨G, ps, M, x, s, r1, p⟩ := h.out
  unfold dNeg at p
  split at p
  · unfold Rep at r1
    exact ⟨_, r1, p G ps H Stp.refl s _ (by unfold Rep; rfl)⟩
  · exact p.elim

/-! ### tests -/
def asB : D → C Bool
  | .bl b => C.pure b
  | _ => C.bad
def tV (f : Env → C D) : Env → C Bool := fun ρ => C.bind (f ρ) asB
def tNotD (f : Env → C Bool) : Env → C Bool := fun ρ => C.bind (f ρ) fun b => C.pure (!b)
def tAndD (f g : Env → C Bool) : Env → C Bool := fun ρ => C.bind (f ρ) fun b => if b = true then g ρ else C.pure false
def tOrD (f g : Env → C Bool) : Env → C Bool := fun ρ => C.bind (f ρ) fun b => if b = true then C.pure true else g ρ
theorem asB_out {K : PySem.W.Frag} {Q : Bool → Hp → Prop} {σ : L2.St} {v : V} {H : Hp} (h : At1 K W (PB Q) (fun _ => asB) σ v H) : ∃ b, v = .bl b ∧ Q b H := by
  obtain ⟨G, ps, M, x, s, r1, p⟩ := h.out
  unfold asB at p
  split at p
  · unfold Rep at r1
    exact ⟨_, r1, p G ps H Stp.refl s⟩
  · exact p.elim
theorem tb_mono {K : PySem.W.Frag} {Q Q' : Bool → Hp → Prop} {f : Env → C Bool} {σ : L2.St} {H : Hp} (h : TB K W f σ H Q) (i : ∀ v H', Q v H' → Q' v H') : TB K W f σ H Q' :=
  tdp_mono h fun b _ _ _ H' q => i b H' q
theorem tb_pure {K : PySem.W.Frag} {Q : Bool → Hp → Prop} {b : Bool} {σ : L2.St} {H : Hp} (h : TDp K W (PB Q) (fun _ => C.pure b) σ H) : Q b H := by
  obtain ⟨ρ, G, ps, M, s, e, p⟩ := h
  exact p G ps H Stp.refl s
variable {a b : Expr} {f g : Env → C D} {t u : Env → C Bool} {pos : Pos} {rest : List Expr}
theorem dt_cmp {k : D → D → C D} {r : R2} {op : CmpOp} (ho : OpR X (compareOp op) r) (hk : OpD X W k r) (ha : DE X W a f) (hb : DE X W b g) (hm : behindInMarks op b = false := by first | exact nomark _ | rfl) : DT X W (.Compare a [op] [b] pos) (tV (dB k f g)) :=
  pt_imp (pt_cmpR ho ha hb hm) fun σ H Q h => tOp_of hk σ H _ (td_mono (seq1 (k := fun _ x => asB x) h) fun v H1 h2 => asB_out h2)
theorem dt_val {e : Expr} (h : DE X W e f) (he : ∀ whole, isTrue e X.env whole = (do let v ← whole; standAt e.pos; holding [v] (truthy v)) := by intro _; rfl) : DT X W e (tV f) :=
  pt_imp (pt_val h he) fun σ H Q h => td_mono (seq1 (k := fun _ x => asB x) h) fun v H1 h2 => asB_out h2
theorem dt_not (ha : DT X W a t) : DT X W (.UnaryOp .Not a pos) (tNotD t) :=
  pt_imp (pt_not ha) fun σ H Q h => tb_mono (seqB (k := fun _ b => C.pure (!b)) h) fun b H1 h2 => tb_pure h2
abbrev DW (X : Cx) (W : WX) (e : Expr) (f : Env → C Bool) : Prop := PW X e (TB X.K W f)
theorem dw_and1 (ha : DT X W a t) : DW X W (.BoolOp .And [a] pos) t := pw_and1 ha
theorem dw_or1 (ha : DT X W a t) : DW X W (.BoolOp .Or [a] pos) t := pw_or1 ha
theorem dw_and (ha : DT X W a t) (hb : DW X W (.BoolOp .And (b :: rest) pos) u) : DW X W (.BoolOp .And (a :: b :: rest) pos) (tAndD t u) :=
  pw_imp (pw_and ha hb) fun σ H Q h => tb_mono (seqB (k := fun ρ b => if b = true then u ρ else C.pure false) h) fun b H1 h2 => by
    cases b with
    | true => simp only [if_true] at h2 ⊢; exact h2
    | false => simp only [Bool.false_eq_true, if_false] at h2 ⊢; exact tb_pure h2
theorem dw_or (ha : DT X W a t) (hb : DW X W (.BoolOp .Or (b :: rest) pos) u) : DW X W (.BoolOp .Or (a :: b :: rest) pos) (tOrD t u) :=
  pw_imp (pw_or ha hb) fun σ H Q h => tb_mono (seqB (k := fun ρ b => if b = true then C.pure true else u ρ) h) fun b H1 h2 => by
    cases b with
    | true => simp only [if_true] at h2 ⊢; exact tb_pure h2
    | false => simp only [Bool.false_eq_true, if_false] at h2 ⊢; exact h2
theorem dw_t (h : DW X W a t) : DT X W a t := h.pt
/-! .. as values -/
def vAnd (f g : Env → C D) : Env → C D := fun ρ => C.bind (tV f ρ) fun b => if b = true then g ρ else C.pure (.bl false)
def vOr (f g : Env → C D) : Env → C D := fun ρ => C.bind (tV f ρ) fun b => if b = true then C.pure (.bl true) else g ρ
def vNot (f : Env → C D) : Env → C D := fun ρ => C.bind (tV f ρ) fun b => C.pure (.bl (!b))
theorem C.bind_assoc {α β γ : Type} {x : C α} {f : α → C β} {g : β → C γ} : C.bind (C.bind x f) g = C.bind x fun a => C.bind (f a) g := by
  funext M
  unfold C.bind
  cases x M <;> rfl
theorem tV_seq {α : Type} {K : PySem.W.Frag} {P : PP α} {k : Env → Bool → C α} {σ : L2.St} {H : Hp} (h : TDp K W P (fun ρ => C.bind (tV f ρ) (k ρ)) σ H) : TD K W f σ H (fun v H1 => ∃ b, v = .bl b ∧ TDp K W P (fun ρ => k ρ b) σ H1) := by
  have h0 : TDp K W P (fun ρ => C.bind (f ρ) fun x => C.bind (asB x) (k ρ)) σ H := by
    have e : (fun ρ => C.bind (tV f ρ) (k ρ)) = fun ρ => C.bind (f ρ) fun x => C.bind (asB x) (k ρ) := funext fun ρ => C.bind_assoc
    rw [← e]; exact h
  refine td_mono (seq1 (k := fun ρ x => C.bind (asB x) (k ρ)) h0) fun v H1 h2 => ?_
  obtain ⟨ρ, G, ps, M, x, s, e, r1, p⟩ := h2
  replace p : Post K W σ P G ps H1 ((asB x M).bind (k ρ)) := p
  unfold asB at p
  split at p
  · rename_i b
    unfold Rep at r1
    exact ⟨b, r1, ρ, G, ps, M, s, e, p⟩
  · exact p.elim
theorem td_pure {K : PySem.W.Frag} {Q : VK} {d : D} {v : V} {σ : L2.St} {H : Hp} (h : TDp K W (PD K Q) (fun _ => C.pure d) σ H) (r : ∀ G ps, Rep K G ps d v) : Q v H := by
  obtain ⟨ρ, G, ps, M, s, e, p⟩ := h
  exact p G ps H Stp.refl s v (r G ps)
theorem de_and (ha : DE X W a f) (hb : DE X W (.BoolOp .And (b :: rest) pos) g) : DE X W (.BoolOp .And (a :: b :: rest) pos) (vAnd f g) :=
  pe_imp (pe_and ha hb) fun σ H Q h => td_mono (tV_seq (k := fun ρ b => if b = true then g ρ else C.pure (D.bl false)) h) fun v H1 ⟨b, e, h2⟩ => ⟨b, e, by
    cases b with
    | true => simp only [if_true] at h2 ⊢; exact h2
    | false => simp only [Bool.false_eq_true, if_false] at h2 ⊢; exact td_pure h2 fun _ _ => by unfold Rep; rfl⟩
theorem de_or (ha : DE X W a f) (hb : DE X W (.BoolOp .Or (b :: rest) pos) g) : DE X W (.BoolOp .Or (a :: b :: rest) pos) (vOr f g) :=
  pe_imp (pe_or ha hb) fun σ H Q h => td_mono (tV_seq (k := fun ρ b => if b = true then C.pure (D.bl true) else g ρ) h) fun v H1 ⟨b, e, h2⟩ => ⟨b, e, by
    cases b with
    | true => simp only [if_true] at h2 ⊢; exact td_pure h2 fun _ _ => by unfold Rep; rfl
    | false => simp only [Bool.false_eq_true, if_false] at h2 ⊢; exact h2⟩
theorem de_one {op} (ha : DE X W a f) : DE X W (.BoolOp op [a] pos) f := pe_one ha
theorem de_not (ha : DE X W a f) : DE X W (.UnaryOp .Not a pos) (vNot f) :=
  pe_imp (pe_not ha) fun σ H Q h => td_mono (tV_seq (k := fun ρ b => C.pure (D.bl (!b))) h) fun v H1 ⟨b, e, h2⟩ => ⟨b, e, td_pure h2 fun _ _ => by unfold Rep; rfl⟩
def vIf (t : Env → C Bool) (f g : Env → C D) : Env → C D := fun ρ => C.bind (t ρ) fun b => if b = true then f ρ else g ρ
theorem de_if {c : Expr} (hc : DT X W c t) (ha : DE X W a f) (hb : DE X W b g) : DE X W (.IfExp c a b pos) (vIf t f g) :=
  pe_imp (pe_ifExp hc ha hb) fun σ H Q h => tb_mono (seqB (k := fun ρ b => if b = true then f ρ else g ρ) h) fun b H1 h2 => by
    cases b with
    | true => simp only [if_true] at h2 ⊢; exact h2
    | false => simp only [Bool.false_eq_true, if_false] at h2 ⊢; exact h2

/-! ### argument lists, displays -/
def aNil : Env → C (List D) := fun _ => C.pure []
def aCons (f : Env → C D) (g : Env → C (List D)) : Env → C (List D) := fun ρ => C.bind (f ρ) fun x => C.bind (g ρ) fun xs => C.pure (x :: xs)
theorem da_nil : DA X W [] aNil := pa_imp pa_nil fun σ H Q h => by
  obtain ⟨ρ, G, ps, M, s, e, p⟩ := h
  exact p G ps H Stp.refl s [] Reps.nil
variable {es : List Expr} {h : Env → C (List D)}
theorem tds_mono {K : PySem.W.Frag} {Q Q' : List V → Hp → Prop} {f : Env → C (List D)} {σ : L2.St} {H : Hp} (h : TDs K W f σ H Q) (i : ∀ v H', Q v H' → Q' v H') : TDs K W f σ H Q' :=
  tdp_mono h fun _ _ _ _ H' q v r => i v H' (q v r)
theorem da_cons (ha : DE X W a f) (hb : DA X W es h) (hs : starEach (a :: es) X.env = (false, eval a X.env) :: starEach es X.env := by rfl) : DA X W (a :: es) (aCons f h) :=
  pa_imp (pa_cons ha hb hs) fun σ H Q q => td_mono (seq1 (k := fun ρ x => C.bind (h ρ) fun xs => C.pure (x :: xs)) q) fun v H1 h2 =>
    tds_mono (At1.nextL (k := fun _ x xs => C.pure (x :: xs)) h2) fun us H2 ⟨ρ, G, ps, M, x, ys, s, e, r, rs, p⟩ => p G ps H2 Stp.refl s _ (Reps.cons r rs)
def dTup (g : Env → C (List D)) : Env → C D := fun ρ => C.bind (g ρ) fun xs => if xs.length ≤ sizeLine then C.pure (.tup xs) else C.bad
def dLst (g : Env → C (List D)) : Env → C D := fun ρ => C.bind (g ρ) fun xs => if xs.length ≤ sizeLine then C.pure (.lst xs) else C.bad
/-- a display that may change -/
def allocL (ds : List D) : C D := fun M => .ok (.ptr M.length) (M ++ [.lst ds])
def dLstM (g : Env → C (List D)) : Env → C D := fun ρ => C.bind (g ρ) fun xs => if xs.length ≤ sizeLine then allocL xs else C.bad
theorem AtL.out {α : Type} {K : PySem.W.Frag} {P : PP α} {k : List D → C α} {σ : L2.St} {vs : List V} {H : Hp} (h : AtL K W P (fun _ => k) σ vs H) : ∃ G ps M xs, Sto0 K G ps M H ∧ Reps K G ps xs vs ∧ Post K W σ P G ps H (k xs M) := by
  obtain ⟨ρ, G, ps, M, x, s, e, r1, p⟩ := h
  exact ⟨G, ps, M, x, s, r1, p⟩
theorem de_tup {n : Nat} (ha : DA X W es h) : DE X W (.Tuple es n pos) (dTup h) := pe_imp (pe_tup ha) fun σ H Q q =>
  tds_mono (seqL (k := fun _ xs => if xs.length ≤ sizeLine then C.pure (D.tup xs) else C.bad) q) fun us H1 h2 => by
    obtain ⟨G, ps, M, xs, s, r, p⟩ := h2.out
    split at p
    · rename_i hz
      refine ⟨by rw [← r.len]; exact hz, fun l hl => ?_⟩
      have z := s.stp (o := .tup us) hl
      exact p _ ps _ z (s.new hl) _ (by unfold Rep; exact ⟨l, _, rfl, upd_same, r.mono z.ext⟩)
    · exact p.elim
theorem de_lst (ha : DA X W es h) : DE X W (.List es pos) (dLst h) := pe_imp (pe_lst ha) fun σ H Q q =>
  tds_mono (seqL (k := fun _ xs => if xs.length ≤ sizeLine then C.pure (D.lst xs) else C.bad) q) fun us H1 h2 => by
    obtain ⟨G, ps, M, xs, s, r, p⟩ := h2.out
    split at p
    · rename_i hz
      refine ⟨by rw [← r.len]; exact hz, fun l hl => ?_⟩
      have z := s.stp (o := .lst us) hl
      exact p _ ps _ z (s.new hl) _ (by unfold Rep; exact ⟨l, _, rfl, upd_same, r.mono z.ext⟩)
    · exact p.elim
theorem de_lstM (ha : DA X W es h) : DE X W (.List es pos) (dLstM h) := pe_imp (pe_lst ha) fun σ H Q q =>
  tds_mono (seqL (k := fun _ xs => if xs.length ≤ sizeLine then allocL xs else C.bad) q) fun us H1 h2 => by
    obtain ⟨G, ps, M, xs, s, r, p⟩ := h2.out
    split at p
    · rename_i hz
      refine ⟨by rw [← r.len]; exact hz, fun l hl => ?_⟩
      refine p _ _ _ (s.stpP hl) (s.newM hl r) _ ?_
      unfold Rep
      refine ⟨l, rfl, ?_⟩
      rw [← s.len, List.getElem?_append_right (Nat.le_refl _), Nat.sub_self]
      rfl
    · exact p.elim
def dDic0 : Env → C D := fun _ => C.pure (.dic [] [])
theorem de_dic0 : DE X W (.Dict [] [] pos) dDic0 := pe_imp pe_dnewK fun σ H Q q l hl => by
  obtain ⟨ρ, G, ps, M, s, e, p⟩ := q
  have z := s.stp (o := .dK []) hl
  exact p _ ps _ z (s.new hl) _ (by unfold Rep; exact ⟨l, [], rfl, upd_same, rfl, Reps.nil⟩)
end
end DL
end
section
set_option Elab.async false
set_option linter.all false
set_option maxRecDepth 100000
set_option maxHeartbeats 1000000
namespace DL
open PySem PySem.Spec PyProof.Rows L2
section
variable {X : Cx} {W : WX}
/-! ### built-in functions -/
def CallD (X : Cx) (W : WX) (k : List D → C D) (r : List V → Hp → VK → Prop) : Prop := ∀ σ vs H Q, AtL X.K W (PD X.K Q) (fun _ => k) σ vs H → r vs H Q
def cB (k : List D → C D) (g : Env → C (List D)) : Env → C D := fun ρ => C.bind (g ρ) k
variable {x : Str} {p pos : Pos} {e : Expr} {es : List Expr} {g : Env → C (List D)} {id T : String} {r : List V → Hp → VK → Prop} {k : List D → C D}
theorem tCB_of (hk : CallD X W k r) : ∀ σ H Q, TD X.K W (cB k g) σ H Q → tCB r (TDs X.K W g) σ H Q := fun σ H Q h => tds_mono (seqL (k := fun _ xs => k xs) h) fun vs H1 h2 => hk σ vs H1 Q h2
theorem de_callB (hc : CallR X (.builtin id) r) (hk : CallD X W k r) (ha : DA X W (e :: es) g) (hg : Gl X x) (hm : X.mg x = none) (hv : bootBuiltins x = some (.builtin id)) (hn : x ≠ "__name__" := by decide) (hdb : (x == ("__debug__" : Str)) = false := by decide)
    (he : starEach (e :: es) X.env = (false, eval e X.env) :: starEach es X.env := by rfl) (hpl : (backTo pos (starEach es X.env)).any (·.1) = false := by rfl) : DE X W (.Call (.Name x p) (e :: es) [] pos) (cB k g) :=
  pe_imp (pe_callB hc hg hm hv ha hn hdb he hpl) (tCB_of hk)
theorem de_callT (hc : CallR X (.type T) r) (hk : CallD X W k r) (ha : DA X W (e :: es) g) (hg : Gl X x) (hm : X.mg x = none) (hv : bootBuiltins x = some (.type T)) (hn : x ≠ "__name__" := by decide) (hdb : (x == ("__debug__" : Str)) = false := by decide)
    (he : starEach (e :: es) X.env = (false, eval e X.env) :: starEach es X.env := by rfl) (hpl : (backTo pos (starEach es X.env)).any (·.1) = false := by rfl) : DE X W (.Call (.Name x p) (e :: es) [] pos) (cB k g) :=
  pe_imp (pe_callTy hc hg hm hv ha hn hdb he hpl) (tCB_of hk)
theorem de_callF (hc : CallR X (.builtin id) r) (hk : CallD X W k r) (ha : DA X W (e :: es) g) (hg : Gl X x) (hm : X.mg x = some (.builtin id)) (hdb : (x == ("__debug__" : Str)) = false := by decide)
    (he : starEach (e :: es) X.env = (false, eval e X.env) :: starEach es X.env := by rfl) (hpl : (backTo pos (starEach es X.env)).any (·.1) = false := by rfl) : DE X W (.Call (.Name x p) (e :: es) [] pos) (cB k g) :=
  pe_imp (pe_callBfun hc hg hm ha hdb he hpl) (tCB_of hk)
/-- one value -/
theorem Rep.int_of {K : PySem.W.Frag} {G : Hp} {ps : List Addr} {i : Int} : Rep K G ps (.int i) (.int i) := by unfold Rep; rfl
theorem Rep.bl_of {K : PySem.W.Frag} {G : Hp} {ps : List Addr} {i : Bool} : Rep K G ps (.bl i) (.bl i) := by unfold Rep; rfl
theorem Rep.str_of {K : PySem.W.Frag} {G : Hp} {ps : List Addr} {i : Str} : Rep K G ps (.str i) (.str i) := by unfold Rep; rfl
theorem Rep.non_of {K : PySem.W.Frag} {G : Hp} {ps : List Addr} : Rep K G ps .non .non := by unfold Rep; rfl
def dInt : List D → C D
  | [.int i] => C.pure (.int i)
  | [.bl b] => C.pure (.int (if b then 1 else 0))
  | _ => C.bad
theorem int_D : CallD X W dInt (fun xs H Q => (∃ i, xs = [.int i] ∧ Q (.int i) H) ∨ ∃ k, xs = [.bl k] ∧ Q (.int (if k then 1 else 0)) H) := fun σ vs H Q h => by
  obtain ⟨G, ps, M, xs, s, r, p⟩ := h.out
  unfold dInt at p
  split at p
  · obtain ⟨v, e, r1⟩ := r.one; subst e; unfold Rep at r1; subst r1
    exact .inl ⟨_, rfl, p G ps H Stp.refl s _ Rep.int_of⟩
  · obtain ⟨v, e, r1⟩ := r.one; subst e; unfold Rep at r1; subst r1
    exact .inr ⟨_, rfl, p G ps H Stp.refl s _ Rep.int_of⟩
  · exact p.elim
def dAbs : List D → C D
  | [.int i] => C.pure (.int (if i < 0 then -i else i))
  | _ => C.bad
theorem abs_D : CallD X W dAbs (fun xs H Q => ∃ i, xs = [.int i] ∧ Q (.int (if i < 0 then -i else i)) H) := fun σ vs H Q h => by
  obtain ⟨G, ps, M, xs, s, r, p⟩ := h.out
  unfold dAbs at p
  split at p
  · obtain ⟨v, e, r1⟩ := r.one; subst e; unfold Rep at r1; subst r1
    exact ⟨_, rfl, p G ps H Stp.refl s _ Rep.int_of⟩
  · exact p.elim
def dGcd : List D → C D
  | [.int i, .int j] => C.pure (.int ((Nat.gcd i.natAbs j.natAbs : Nat) : Int))
  | _ => C.bad
theorem gcd_D : CallD X W dGcd rGcd := fun σ vs H Q h => by
  obtain ⟨G, ps, M, xs, s, r, p⟩ := h.out
  unfold dGcd at p
  split at p
  · obtain ⟨v, u, e, r1, r2⟩ := r.two; subst e; unfold Rep at r1 r2; subst r1; subst r2
    exact ⟨_, _, rfl, p G ps H Stp.refl s _ Rep.int_of⟩
  · exact p.elim
/-- read as a sequence -/
def withSeq (d : D) (k : List D → C D) : C D := fun M => match asSeq M d with
  | some ds => k ds M
  | none => .bad
theorem withSeq_out {K : PySem.W.Frag} {P : PP D} {σ : L2.St} {G : Hp} {ps : List Addr} {M : Sto} {d : D} {k : List D → C D} {H : Hp} (h : Post K W σ P G ps H (withSeq d k M)) : ∃ ds, asSeq M d = some ds ∧ Post K W σ P G ps H (k ds M) := by
  unfold withSeq at h
  split at h
  · exact ⟨_, by assumption, h⟩
  · exact h.elim
def dLen : List D → C D
  | [.str y] => if y.length ≤ sizeLine then C.pure (.int y.length) else C.bad
  | [d] => withSeq d fun ds => C.pure (.int ds.length)
  | _ => C.bad
theorem len_D : CallD X W dLen (fun xs H Q => ∃ x n, xs = [x] ∧ LenV X.K x H n ∧ Q (.int n) H) := fun σ vs H Q h => by
  obtain ⟨G, ps, M, xs, s, r, p⟩ := h.out
  unfold dLen at p
  split at p
  · obtain ⟨v, e, r1⟩ := r.one; subst e; unfold Rep at r1; subst r1
    split at p
    · rename_i hz
      exact ⟨_, _, rfl, ⟨hz, rfl⟩, p G ps H Stp.refl s _ Rep.int_of⟩
    · exact p.elim
  · obtain ⟨v, e, r1⟩ := r.one; subst e
    obtain ⟨ds, q, p⟩ := withSeq_out p
    obtain ⟨a, xs, e, hs, rr⟩ := asSeq_rep s r1 q
    subst e
    refine ⟨_, xs.length, rfl, ?_, ?_⟩
    · rcases hs with hs | hs
      · exact .inl ⟨xs, hs, rfl⟩
      · exact .inr ⟨xs, hs, rfl⟩
    · rw [← rr.len]
      exact p G ps H Stp.refl s _ Rep.int_of
  · exact p.elim
def dTupOf : List D → C D
  | [.ft _] => C.bad
  | [d] => withSeq d fun ds => C.pure (.tup ds)
  | _ => C.bad
theorem tuple_D : CallD X W dTupOf (fun xs H Q => ∃ p ys, xs = [.ref p] ∧ ((SqL X.K H p ys ∧ ∀ l, H l = none → Q (.ref l) (upd H l (.tup ys))) ∨ (SqT X.K H p ys ∧ Q (.ref p) H))) := fun σ vs H Q h => by
  obtain ⟨G, ps, M, xs, s, r, p⟩ := h.out
  unfold dTupOf at p
  split at p
  · exact p.elim
  · rename_i d hft
    obtain ⟨v, e, r1⟩ := r.one; subst e
    obtain ⟨ds, q, p⟩ := withSeq_out p
    cases hl : isLst d with
    | true =>
      obtain ⟨a, ys, e, hs, rr⟩ := asSeq_lst s r1 q hl
      subst e
      refine ⟨a, ys, rfl, .inl ⟨hs, fun l hn => ?_⟩⟩
      have z := s.stp (o := .tup ys) hn
      exact p _ ps _ z (s.new hn) _ (by unfold Rep; exact ⟨l, ys, rfl, upd_same, rr.mono z.ext⟩)
    | false =>
      cases d with
      | tup es =>
        cases q
        have r2 := r1
        unfold Rep at r1
        obtain ⟨a, ys, e, hs, rr⟩ := r1
        subst e
        exact ⟨a, ys, rfl, .inr ⟨.inl (.inl (s.sub _ _ hs)), p G ps H Stp.refl s _ r2⟩⟩
      | ft es => exact (hft es rfl).elim
      | lst _ => cases hl
      | fz _ => cases hl
      | ptr _ => cases hl
      | _ => cases q
  · exact p.elim
def dLstOf : List D → C D
  | [d] => withSeq d fun ds => C.pure (.lst ds)
  | _ => C.bad
theorem list_D : CallD X W dLstOf (fun xs H Q => ∃ p ys, xs = [.ref p] ∧ (SqL X.K H p ys ∨ SqT X.K H p ys) ∧ ∀ l, H l = none → Q (.ref l) (upd H l (.lst ys))) := fun σ vs H Q h => by
  obtain ⟨G, ps, M, xs, s, r, p⟩ := h.out
  unfold dLstOf at p
  split at p
  · rename_i d
    obtain ⟨v, e, r1⟩ := r.one; subst e
    obtain ⟨ds, q, p⟩ := withSeq_out p
    obtain ⟨a, ys, e, hs, rr⟩ := asSeq_rep s r1 q
    subst e
    refine ⟨a, ys, rfl, hs, fun l hn => ?_⟩
    have z := s.stp (o := .lst ys) hn
    exact p _ ps _ z (s.new hn) _ (by unfold Rep; exact ⟨l, ys, rfl, upd_same, rr.mono z.ext⟩)
  · exact p.elim

/-! isinstance -/
def tyName (M : Sto) : D → Option String
  | .non => some "NoneType"
  | .bl _ => some "bool"
  | .int _ => some "int"
  | .str _ => some "str"
  | .lst _ => some "list"
  | .fz _ => some "list"
  | .tup _ => some "tuple"
  | .ft _ => some "tuple"
  | .dic _ _ => some "dict"
  | .ptr n => match M[n]? with
    | some (.lst _) => some "list"
    | some (.frz (.lst _)) => some "list"
    | _ => none
  | _ => none
theorem sqL_ty {K : PySem.W.Frag} {H : Hp} {a : Addr} {xs : List V} (h : SqL K H a xs) : TyX K H (.ref a) (.type "list") := by
  rcases h with (h | ⟨o, h⟩) | ⟨o, its, n, hk, hc, _⟩
  · exact .base (.lst h)
  · exact .base (.frz h)
  · exact .kList hk hc
theorem sqT_ty {K : PySem.W.Frag} {H : Hp} {a : Addr} {xs : List V} (h : SqT K H a xs) : TyX K H (.ref a) (.type "tuple") := by
  rcases h with (h | ⟨o, h⟩) | ⟨o, its, n, hk, hc, _⟩
  · exact .base (.tup h)
  · exact .fTuple h
  · exact .kTuple hk hc
theorem tyName_of {K : PySem.W.Frag} {G : Hp} {ps : List Addr} {M : Sto} {H : Hp} (s : Sto0 K G ps M H) {d : D} {v : V} {n : String} (r : Rep K G ps d v) (e : tyName M d = some n) : TyX K H v (.type n) := by
  cases d with
  | non => unfold Rep at r; cases e; subst r; exact .base .non
  | bl b => unfold Rep at r; cases e; subst r; exact .base (.bl b)
  | int i => unfold Rep at r; cases e; subst r; exact .base (.int i)
  | str y => unfold Rep at r; cases e; subst r; exact .base (.str y)
  | lst ds => unfold Rep at r; cases e; obtain ⟨a, xs, e1, g, _⟩ := r; subst e1; exact .base (.lst (s.sub _ _ g))
  | fz ds => unfold Rep at r; cases e; obtain ⟨a, xs, e1, g, _⟩ := r; subst e1; exact sqL_ty (s.seqL g)
  | tup ds => unfold Rep at r; cases e; obtain ⟨a, xs, e1, g, _⟩ := r; subst e1; exact .base (.tup (s.sub _ _ g))
  | ft ds => unfold Rep at r; cases e; obtain ⟨a, xs, e1, g, _⟩ := r; subst e1; exact sqT_ty (s.seqT g)
  | dic ks ds => unfold Rep at r; cases e; obtain ⟨a, kvs, e1, g, _⟩ := r; subst e1; exact .base (.dK (s.sub _ _ g))
  | ptr m =>
    dsimp only [tyName] at e
    have q : ∃ ds, asSeq M (.ptr m) = some ds ∧ n = "list" := by
      dsimp only [asSeq]
      split at e <;> first
        | (cases e; exact ⟨_, rfl, rfl⟩)
        | (cases e; rename_i z; rw [z]; exact ⟨_, rfl, rfl⟩)
        | cases e
    obtain ⟨ds, q, e2⟩ := q
    subst e2
    obtain ⟨a, xs, e1, hs, _⟩ := asSeq_lst s r q rfl
    subst e1
    exact sqL_ty hs
  | ty _ => cases e
  | obj _ => cases e
  | ins _ _ _ => cases e
  | exc _ _ _ => cases e
  | cls _ => cases e
def tyNames : List D → Option (List String)
  | [] => some []
  | .ty b :: r => (tyNames r).map (b :: ·)
  | _ :: _ => none
def kitBs (a : String) : List String → Option Bool
  | [] => some false
  | b :: r => match kitB a b with
    | some true => some true
    | some false => kitBs a r
    | none => none
def isiB (n : String) : D → Option Bool
  | .ty c => kitB n c
  | .tup cs => (tyNames cs).bind (kitBs n)
  | _ => none
def dIsi : List D → C D
  | [x, c] => fun M => match (tyName M x).bind fun n => isiB n c with
    | some b => .ok (.bl b) M
    | none => .bad
  | _ => C.bad
theorem tyNames_of {K : PySem.W.Frag} {G : Hp} {ps : List Addr} : ∀ {cs : List D} {xs : List V} {ns : List String}, Reps K G ps cs xs → tyNames cs = some ns → Paired ClsV xs (ns.map Value.type)
  | [], xs, ns, r, e => by unfold Reps at r; subst r; cases e; exact .nil
  | c :: cs, xs, ns, r, e => by
    obtain ⟨v, r', e1, r1, r2⟩ := r.uncons
    subst e1
    cases c with
    | ty m =>
      unfold Rep at r1
      subst r1
      obtain ⟨ms, q, e⟩ := Option.map_eq_some_iff.mp e
      subst e
      exact .cons (.ty m) (tyNames_of r2 q)
    | _ => cases e
theorem kitBs_of {K : PySem.W.Frag} {n : String} : ∀ {ns : List String} {b : Bool}, kitBs n ns = some b → PySem.W.kitAny K (.type n) (ns.map Value.type) = some b
  | [], b, e => by cases e; exact kitAny_nil
  | m :: ns, b, e => by
    dsimp only [kitBs] at e
    cases q : kitB n m with
    | none => rw [q] at e; cases e
    | some c =>
      rw [q] at e
      cases c with
      | true => cases e; exact kitAny_cons (kit_ty q) (fun z => nomatch z) (fun _ => rfl)
      | false => exact kitAny_cons (kit_ty q) (fun _ => kitBs_of e) (fun z => nomatch z)
abbrev rIsiA (K : PySem.W.Frag) : List V → Hp → VK → Prop := fun xs H Q => rIsi K xs H Q ∨ rIsiT K xs H Q
theorem call_isiA : CallR X (.builtin "isinstance") (rIsiA X.K) := fun pins s σ H vs us Q I r q => by
  rcases q with q | q
  · exact call_isi pins s σ H vs us Q I r q
  · exact call_isiT pins s σ H vs us Q I r q
theorem isi_D : CallD X W dIsi (rIsiA X.K) := fun σ vs H Q h => by
  obtain ⟨G, ps, M, xs, s, r, p⟩ := h.out
  unfold dIsi at p
  split at p
  · rename_i d c
    obtain ⟨v, u, e, r1, r2⟩ := r.two; subst e
    split at p
    · rename_i b q
      obtain ⟨n, q1, q2⟩ := Option.bind_eq_some_iff.mp q
      have ty := tyName_of s r1 q1
      have fin := p G ps H Stp.refl s (.bl b) Rep.bl_of
      cases c with
      | ty m =>
        unfold Rep at r2; subst r2
        exact .inl ⟨v, .ty m, _, _, b, rfl, .ty m, ty, kit_ty q2, fin⟩
      | tup cs =>
        unfold Rep at r2
        obtain ⟨a, ys, e, hs, rr⟩ := r2
        subst e
        obtain ⟨ns, q3, q4⟩ := Option.bind_eq_some_iff.mp q2
        exact .inr ⟨v, a, ys, _, _, b, rfl, s.sub _ _ hs, tyNames_of rr q3, ty, kitBs_of q4, fin⟩
      | _ => cases q2
    · exact p.elim
  · exact p.elim

/-! repr -/
def reprOk (q : PyData) : Bool := q.showable && !q.hasDict && decide (q.depth ≤ 60) && decide (q.shown.length ≤ sizeLine)
def rReprD (K : PySem.W.Frag) : List V → Hp → VK → Prop := fun xs H Q => (∃ x q, xs = [x] ∧ Dp K H x q ∧ reprOk q = true ∧ Q (.str q.shown) H) ∨ (∃ a, xs = [.ref a] ∧ H a = some (.dK []) ∧ Q (.str "{}") H)
theorem call_reprD (hg : X.A.guards = some []) (hu : X.A.units + 64 < cLine) : CallR X (.builtin "repr") (rReprD X.K) := fun pins s σ H vs us Q I r q => by
  rcases q with ⟨x, d, rfl, dp, ok, q⟩ | ⟨a, rfl, ha, q⟩
  · obtain ⟨u, rfl, ru⟩ := vals1 r
    unfold reprOk at ok
    simp only [Bool.and_eq_true, decide_eq_true_eq, Bool.not_eq_true'] at ok
    obtain ⟨⟨⟨o1, o2⟩, o3⟩, o4⟩ := ok
    obtain ⟨as, rd⟩ := dp.reads I d x u ru
    have big : ∀ a, u = .ref a → wpAny (model X.prog X.w) X.A (call (.builtin "repr") [u]) (EP X pins σ Q) X.xe s := fun a e => by
      subst e
      exact repr_of_reads' rd o1 (PyData.noDict_hsm o2) hg (by omega) (fun _ _ e => e) (fun h' t tk hk => ⟨.str d.shown, H, I.kept hk, ⟨t, rfl⟩, q⟩) o4
    cases d with
    | none => cases rd; exact P.repr_of_none ⟨.str _, H, I.tok _, ⟨_, rfl⟩, q⟩
    | bool b => cases rd; exact P.repr_of_bool ⟨.str _, H, I.tok _, ⟨_, rfl⟩, q⟩
    | int i => cases rd; exact P.repr_of_int (by simpa [PyData.showable] using o1) ⟨.str _, H, I.tok _, ⟨_, rfl⟩, q⟩
    | str y => cases rd; exact P.repr_of_str ⟨.str _, H, I.tok _, ⟨_, rfl⟩, q⟩ o4
    | list ds => cases rd; exact big _ rfl
    | tuple ds => cases rd; exact big _ rfl
    | dict _ => simp [PyData.hasDict] at o2
  · obtain ⟨u, rfl, ru⟩ := vals1 r
    cases ru
    obtain ⟨_, hsy, kv, hkv, o, es, ep, h1, h2, h3, h4, h5, _⟩ := (show ObjOk X.prog X.w H s.heap a (.dK []) from I.hok a _ ha)
    cases hkv
    have hes : es = #[] := by simpa using h5.length
    subst hes
    have rd : Reads s.heap (.ref a) (.dict []) [a] := Reads.dict (as := []) (bs := []) h1 h2.1 h3 .nil .nil
    exact repr_of_reads' rd rfl (fun _ => by simpa using (beq_eq_false_iff_ne.mp hsy).symm) hg (Nat.lt_of_le_of_lt (Nat.add_le_add_left (show (PyData.dict []).depth + 1 ≤ 64 by decide) _) hu) (fun _ _ e => e) (fun h' t tk hk => ⟨.str _, H, I.kept hk, ⟨t, rfl⟩, q⟩) (by decide +kernel)
def dRepr : List D → C D
  | [.dic [] []] => C.pure (.str "{}")
  | [d] => fun M => match pyM M d with
    | some q => if reprOk q = true then .ok (.str q.shown) M else .bad
    | none => .bad
  | _ => C.bad
theorem repr_D : CallD X W dRepr (rReprD X.K) := fun σ vs H Q h => by
  obtain ⟨G, ps, M, xs, s, r, p⟩ := h.out
  unfold dRepr at p
  split at p
  · obtain ⟨v, e, r1⟩ := r.one; subst e; unfold Rep at r1
    obtain ⟨a, kvs, e, g, e2, _⟩ := r1
    subst e
    have e3 : kvs = [] := List.map_eq_nil_iff.mp e2
    subst e3
    exact .inr ⟨a, rfl, s.sub _ _ g, p G ps H Stp.refl s _ Rep.str_of⟩
  · obtain ⟨v, e, r1⟩ := r.one; subst e
    dsimp only at p
    split at p
    · rename_i q hq
      split at p
      · rename_i ok
        exact .inl ⟨v, q, rfl, r1.dpM s hq, ok, p G ps H Stp.refl s _ Rep.str_of⟩
      · exact p.elim
    · exact p.elim
  · exact p.elim
end
end DL
end
section
set_option Elab.async false
set_option linter.all false
set_option maxRecDepth 100000
set_option maxHeartbeats 1000000
namespace DL
open PySem PySem.Spec PyProof.Rows L2
/-! ### places and slices -/
theorem Reps.atI {K : PySem.W.Frag} {G : Hp} {ps : List Addr} {ds : List D} {xs : List V} {i : Int} {d : D} (r : Reps K G ps ds xs) (h : L2.atI ds i = some d) : ∃ v, L2.atI xs i = some v ∧ Rep K G ps d v := by
  unfold L2.atI at h ⊢
  rw [← r.len]
  obtain ⟨j, e, h⟩ := Option.bind_eq_some_iff.mp h
  rw [e]
  exact r.get h
/-- a value's item, where there is one -/
def C.opt (o : Option D) : C D := C.of o
def dIx : D → D → C D
  | .str z, .int i => if z.length ≤ sizeLine then C.of ((L2.atI z.cps.toList i).map fun c => .str ⟨#[c]⟩) else C.bad
  | d, .int i => withSeq d fun ds => C.of (L2.atI ds i)
  | _, _ => C.bad
/-- xs[lo:hi] -/
def cut (ds : List D) (lo hi : Option Int) : List D := (ds.drop (HT.sIx ds.length 0 lo)).take (HT.sIx ds.length ds.length hi - HT.sIx ds.length 0 lo)
theorem Reps.cut {K : PySem.W.Frag} {G : Hp} {ps : List Addr} {ds : List D} {xs : List V} (r : Reps K G ps ds xs) (lo hi : Option Int) : Reps K G ps (DL.cut ds lo hi) (cutV xs lo hi) := by
  unfold DL.cut cutV
  rw [← r.len]
  exact (r.drop _).take _
def dSl (d : D) (lo hi : Option Int) : C D :=
  match d with
  | .str z => if z.length ≤ sizeLine then C.pure (.str (cutS z lo hi)) else C.bad
  | .tup ds => C.pure (.tup (cut ds lo hi))
  | .ft _ => C.bad
  | d => withSeq d fun ds => C.pure (.lst (cut ds lo hi))
section
variable {X : Cx} {W : WX} {a b : Expr} {f g : Env → C D} {pos p2 : Pos}
theorem post_of {K : PySem.W.Frag} {P : PP D} {σ : L2.St} {G : Hp} {ps : List Addr} {H : Hp} {M : Sto} {o : Option D} (h : Post K W σ P G ps H (C.of o M)) : ∃ d, o = some d ∧ Post K W σ P G ps H (C.pure d M) := by
  cases o with
  | none => exact h.elim
  | some d => exact ⟨d, rfl, h⟩
theorem ix_D : OpD X W dIx (rIx X.K) := fun σ v u H Q h => by
  obtain ⟨G, ps, M, x, y, s, r1, r2, p⟩ := h.out
  unfold dIx at p
  split at p
  · unfold Rep at r1 r2; subst r1; subst r2
    split at p
    · rename_i hz
      obtain ⟨d, e, p⟩ := post_of p
      obtain ⟨c, e1, e2⟩ := Option.map_eq_some_iff.mp e
      subst e2
      exact .inr (.inr ⟨_, _, c, rfl, rfl, hz, e1, p G ps H Stp.refl s _ Rep.str_of⟩)
    · exact p.elim
  · unfold Rep at r2; subst r2
    obtain ⟨ds, q, p⟩ := withSeq_out p
    obtain ⟨d, e, p⟩ := post_of p
    obtain ⟨a, xs, e1, hs, rr⟩ := asSeq_rep s r1 q
    obtain ⟨w, e2, rw'⟩ := rr.atI e
    have fin := p G ps H Stp.refl s w rw'
    rcases hs with hs | hs
    · exact .inl ⟨a, xs, _, w, e1, rfl, hs, e2, fin⟩
    · exact .inr (.inl ⟨a, xs, _, w, e1, rfl, hs, e2, fin⟩)
  · exact p.elim
theorem de_ix (ha : DE X W a f) (hb : DE X W b g) (hs : PlainIx b := by exact fun _ _ => rfl) : DE X W (.Subscript a b pos) (dB dIx f g) := pe_imp (pe_ix ix_seq ha hb hs) (tOp_of ix_D)
/-- a part of a slice -/
abbrev DPt (X : Cx) (W : WX) (e : Option Expr) (f : Env → C (Option Int)) : Prop := PO X e fun σ H Q => TDp X.K W (fun o _ _ _ H' => Q o H') f σ H
def pNo : Env → C (Option Int) := fun _ => C.pure none
def asIo : D → C (Option Int)
  | .int i => C.pure (some i)
  | _ => C.bad
def pSo (f : Env → C D) : Env → C (Option Int) := fun ρ => C.bind (f ρ) asIo
theorem po_imp {e : Option Expr} {t t' : TO} (h : PO X e t) (i : ∀ σ H Q, t' σ H Q → t σ H Q) : PO X e t' := ⟨fun pins s σ H Q I q => h.run pins s σ H Q I (i σ H Q q)⟩
theorem dp_no : DPt X W none pNo := po_imp po_none fun σ H Q h => by
  obtain ⟨ρ, G, ps, M, s, e, p⟩ := h
  exact p G ps H Stp.refl s
theorem dp_so (ha : DE X W a f) : DPt X W (some a) (pSo f) := po_imp (po_some ha) fun σ H Q h => td_mono (seq1 (k := fun _ x => asIo x) h) fun v H1 h2 => by
  obtain ⟨G, ps, M, x, s, r1, p⟩ := h2.out
  unfold asIo at p
  split at p
  · unfold Rep at r1
    exact ⟨_, r1, p G ps H1 Stp.refl s⟩
  · exact p.elim
abbrev rSlAll (K : PySem.W.Frag) : V → Option Int → Option Int → Hp → VK → Prop := fun x lo hi H Q => rSlA K x lo hi H Q ∨ rSlL K x lo hi H Q ∨ rSlS x lo hi H Q
theorem sl_all : SlR X (rSlAll X.K) := sl_tupA.or (sl_list.or sl_str)
def dSlice (f : Env → C D) (l u : Env → C (Option Int)) : Env → C D := fun ρ => C.bind (f ρ) fun x => C.bind (l ρ) fun lo => C.bind (u ρ) fun hi => dSl x lo hi
theorem cut_whole {ds : List D} {lo hi : Option Int} (h : HT.sIx ds.length 0 lo = 0 ∧ HT.sIx ds.length ds.length hi = ds.length) : cut ds lo hi = ds := by
  unfold cut
  rw [h.1, h.2, List.drop_zero, Nat.sub_zero, List.take_length]
theorem de_slice {lo hi : Option Expr} {l u : Env → C (Option Int)} (ha : DE X W a f) (hl : DPt X W lo l) (hu : DPt X W hi u) : DE X W (.Subscript a (.Slice lo hi none p2) pos) (dSlice f l u) :=
  pe_imp (pe_slice sl_all ha hl hu) fun σ H Q h => td_mono (seq1 (k := fun ρ x => C.bind (l ρ) fun lo => C.bind (u ρ) fun hi => dSl x lo hi) h) fun v H1 h2 => by
    obtain ⟨ρ, G, ps, M, x, s, e, r, p⟩ := h2
    refine ⟨ρ, G, ps, M, s, e, post_bind (k := fun lo => C.bind (u ρ) fun hi => dSl x lo hi) p fun lo M1 G1 ps1 H2 _ st1 s1 p1 => ?_⟩
    refine ⟨ρ, G1, ps1, M1, s1, e.mono st1.ext, post_bind (k := fun hi => dSl x lo hi) p1 fun hi M2 G2 ps2 H3 _ st2 s2 p2 => ?_⟩
    have r2 := (r.mono st1.ext).mono st2.ext
    unfold dSl at p2
    split at p2
    · unfold Rep at r2; subst r2
      split at p2
      · rename_i hz
        exact .inr (.inr ⟨_, rfl, hz, p2 G2 ps2 H3 Stp.refl s2 _ Rep.str_of⟩)
      · exact p2.elim
    · unfold Rep at r2
      obtain ⟨a, xs, e1, g1, q1⟩ := r2
      subst e1
      refine .inl ⟨a, xs, rfl, .inl (.inl (s2.sub _ _ g1)), fun hw => ?_, fun _ l hl => ?_⟩
      · rw [← q1.len] at hw
        rw [cut_whole hw] at p2
        exact p2 G2 ps2 H3 Stp.refl s2 _ (by unfold Rep; exact ⟨a, xs, rfl, g1, q1⟩)
      · have z := s2.stp (o := .tup (cutV xs lo hi)) hl
        exact p2 _ ps2 _ z (s2.new hl) _ (by unfold Rep; exact ⟨l, _, rfl, upd_same, (q1.mono z.ext).cut lo hi⟩)
    · exact p2.elim
    · rename_i d hstr htup hft
      obtain ⟨ds, q, p2⟩ := withSeq_out p2
      have hl : isLst x = true := by
        cases x with
        | tup ds => exact (htup _ rfl).elim
        | ft ds => exact (hft _ rfl).elim
        | lst _ => rfl
        | fz _ => rfl
        | ptr _ => rfl
        | _ => cases q
      obtain ⟨a, xs, e1, hs, rr⟩ := asSeq_lst s2 r2 q hl
      subst e1
      refine .inr (.inl ⟨a, xs, rfl, hs, fun l hl => ?_⟩)
      have z := s2.stp (o := .lst (cutV xs lo hi)) hl
      exact p2 _ ps2 _ z (s2.new hl) _ (by unfold Rep; exact ⟨l, _, rfl, upd_same, (rr.mono z.ext).cut lo hi⟩)
/-- fixed from now on -/
def freezeD : D → C D
  | .ptr n => fun M => match M[n]? with
    | some (.lst ds) => .ok (.lst ds) (M.set n (.frz (.lst ds)))
    | some (.frz d) => .ok d M
    | _ => .bad
  | d => C.pure d
def dFrz (f : Env → C D) : Env → C D := fun ρ => C.bind (f ρ) freezeD
theorem freeze_td {K : PySem.W.Frag} {Q : VK} {σ : L2.St} {H : Hp} (h : TD K W (dFrz f) σ H Q) : TD K W f σ H Q := td_mono (seq1 (k := fun _ x => freezeD x) h) fun v H1 h2 => by
  obtain ⟨G, ps, M, x, s, r1, p⟩ := h2.out
  unfold freezeD at p
  split at p
  · rename_i n
    unfold Rep at r1
    obtain ⟨a, e, hp⟩ := r1
    subst e
    split at p
    · rename_i ds hm
      obtain ⟨a', G', e2, x, s', r⟩ := s.freeze hm
      have : a' = a := Option.some.inj (e2.symm.trans hp)
      subst this
      exact p G' ps H1 x s' _ r
    · rename_i d hm
      obtain ⟨a', e2, r⟩ := s.mem n _ hm
      have : a' = a := Option.some.inj (e2.symm.trans hp)
      subst this
      exact p G ps H1 Stp.refl s _ r
    · exact p.elim
  · exact p G ps H1 Stp.refl s v r1
theorem de_frz (ha : DE X W a f) : DE X W a (dFrz f) := pe_imp ha fun σ H Q h => freeze_td h
end

/-! ### a def's promise over data -/
def spD (K : PySem.W.Frag) (F : List D → C D) : Sp := fun vs H Q E => ∃ G ps M ds, Sto0 K G ps M H ∧ Reps K G ps ds vs ∧ Post K (fun c d _ H' => E c d H') [] (PD K Q) G ps H (F ds M)
structure FnG (P : Program) (w : World) (K : PySem.W.Frag) (mg : Str → Option Value) (base : Heap) (k : Nat) (f : Addr) (fd : FuncData) (ps : List Str) (F : List D → C D) : Prop where
  len : ∀ ds M, F ds M ≠ .bad → ds.length = ps.length
  go : ∀ (A : Around) (outer : List PySem.Env) (s : Shared) (H : Hp) (args : Args) (us : List Value) (vs : List V) (Q : VK) (E : XK), A.guards = some [] → Room k A → Env0 P w K mg base A outer s H → BindsTo s fd args (ps.zip us) → Vals vs us → spD K F vs H Q E →
    codeAny (model P w) A (.call (.ref f) args) (CR (L2.CX P w) outer P w H s Q E) s
theorem FnG.lens {P : Program} {w : World} {K : PySem.W.Frag} {mg : Str → Option Value} {base : Heap} {k : Nat} {f : Addr} {fd : FuncData} {ps : List Str} {F : List D → C D} (g : FnG P w K mg base k f fd ps F) {vs : List V} {H : Hp} {Q : VK} {E : XK} (h : spD K F vs H Q E) : vs.length = ps.length := by
  obtain ⟨G, ps', M, ds, s, r, p⟩ := h
  rw [← r.len]
  refine g.len ds M fun z => ?_
  rw [z] at p
  exact p
theorem FnG.mono {P : Program} {w : World} {K : PySem.W.Frag} {mg : Str → Option Value} {base : Heap} {j k : Nat} {f : Addr} {fd : FuncData} {ps : List Str} {F : List D → C D} (g : FnG P w K mg base j f fd ps F) (h : j ≤ k) : FnG P w K mg base k f fd ps F :=
  ⟨g.len, fun A outer s H args us vs Q E hg hr => g.go A outer s H args us vs Q E hg (hr.mono h)⟩
/-- a def of the text that keeps a promise: where it stands, how it is called -/
structure FnAt (P : Program) (w : World) (K : PySem.W.Frag) (mg : Str → Option Value) (base : Heap) (k : Nat) (st : Stmt) (x : Str) (ps : List Str) (F : List D → C D) : Prop where
  ex : ∃ f fd, mg x = some (.ref f) ∧ Fun K x x st f fd ∧ Binds K fd ps [] ∧ FnG P w K mg base k f fd ps F
section
variable {X : Cx} {W : WX} {k : Nat} {st : Stmt} {x : Str} {ps : List Str} {F : List D → C D} {p pos : Pos} {e : Expr} {es : List Expr} {g : Env → C (List D)}
theorem pass_of {E : XK} {σ : L2.St} (tk : Takes X W) (hE : ∀ c d H, E c d H → W c d σ H) : PassesAt (L2.CX X.prog X.w) X σ E := fun _ _ _ e s' I c => tk e s' (XE.of_call I (fun _ _ _ h => hE _ _ _ h) c)
theorem run_G {pins : List (Addr × Obj)} {σ : L2.St} {H : Hp} {s : Shared} {Q : VK} {args : Args} {us : List Value} {vs : List V} {f : Addr} {fd : FuncData} (hF : FnG X.prog X.w X.K X.mg X.base k f fd ps F) (hr : Room k X.A) (hG : X.A.guards = some []) (tk : Takes X W) (hb : BindsTo s fd args (ps.zip us))
    (I : L2.Inv X pins σ H s) (r : Vals vs us) (h : spD X.K F vs H Q (fun c d H' => W c d σ H')) : wpAny (model X.prog X.w) X.A (PySem.call (.ref f) args.pos args.kw) (EP X pins σ Q) X.xe s := by
  refine wpAny_call (codeAny_mono (hF.go X.A X.stack s H args us vs Q _ hG hr I.env0 hb r h) fun q s' hq => ?_)
  cases q with
  | error er => exact pass_of tk (fun _ _ _ h => h) pins H s er s' I hq
  | ok fl =>
    cases fl with
    | ret u => exact I.after hq
    | next => exact False.elim hq
    | brk => exact False.elim hq
    | cont => exact False.elim hq
end
end DL
end
section
set_option Elab.async false
set_option linter.all false
set_option maxRecDepth 100000
set_option maxHeartbeats 1000000
namespace DL
open PySem PySem.Spec PyProof.Rows L2
section
variable {X : Cx} {W : WX} {k : Nat} {st : Stmt} {x : Str} {ps ks : List Str} {F : List D → C D} {p pos kpos : Pos} {e : Expr} {es : List Expr} {g h : Env → C (List D)} {kws : List Keyword} {nm : Option Str}
theorem FnAt.mono {P : Program} {w : World} {K : PySem.W.Frag} {mg : Str → Option Value} {base : Heap} {j k : Nat} (h : FnAt P w K mg base j st x ps F) (hl : j ≤ k) : FnAt P w K mg base k st x ps F := by
  obtain ⟨f, fd, a, b, c, d⟩ := h.ex
  exact ⟨f, fd, a, b, c, d.mono hl⟩
theorem spD_of {G : Hp} {sps : List Addr} {M : Sto} {xs : List D} {vs : List V} {H : Hp} {Q : VK} {σ : L2.St} (s : Sto0 X.K G sps M H) (r : Reps X.K G sps xs vs) (q : Post X.K W σ (PD X.K Q) G sps H (F xs M)) : spD X.K F vs H Q (fun c d H' => W c d σ H') := by
  refine ⟨G, sps, M, xs, s, r, ?_⟩
  cases z : F xs M with
  | ok d M' => rw [z] at q; exact q
  | err c fn ds M' => rw [z] at q; exact q
  | bad => rw [z] at q; exact q
/-- f(e, ..) -/
theorem de_call (hF : FnAt X.prog X.w X.K X.mg X.base k st x ps F) (hr : Room k X.A) (hG : X.A.guards = some []) (tk : Takes X W) (ha : DA X W (e :: es) g) (hg : Gl X x) (hdb : (x == ("__debug__" : Str)) = false := by decide)
    (he : starEach (e :: es) X.env = (false, eval e X.env) :: starEach es X.env := by rfl) (hpl : (backTo pos (starEach es X.env)).any (·.1) = false := by rfl) : DE X W (.Call (.Name x p) (e :: es) [] pos) (cB F g) := by
  obtain ⟨f, fd, hm, hf, hb, hF⟩ := hF.ex
  refine ⟨fun pins s σ H Q I q => ?_⟩
  refine wpAny_Call_Name_kw (ld_glob I hg hm ?_ hdb)
  refine PySem.W.callWith_K (h₀ := X.base) I.ok.mod.kin hf.kp (thn (ha.run pos pins s σ H _ I (seqL (k := fun _ xs => F xs) q)) fun us s1 ⟨vs, H1, I1, r, q1⟩ => ⟨I1.kIn, ?_⟩) he hpl
  obtain ⟨G, sps, M, xs, s0, rr, q2⟩ := q1.out
  have sp := spD_of (W := W) (F := F) s0 rr q2
  have hl := hF.lens sp
  have hb1 := hb s1 us I1.kIn (by rw [List.append_nil, ← r.length]; exact hl)
  rw [List.append_nil] at hb1
  exact run_G (args := ⟨us, []⟩) hF hr hG tk hb1 I1 r sp
/-- keywords' values -/
abbrev DK (X : Cx) (W : WX) (kws : List Keyword) (f : Env → C (List D)) : Prop := PK X kws (TDs X.K W f)
theorem pk_imp {kws : List Keyword} {t t' : TA} (h : PK X kws t) (i : ∀ σ H Q, t' σ H Q → t σ H Q) : PK X kws t' := ⟨fun po pins s σ H Q I q => h.run po pins s σ H Q I (i σ H Q q)⟩
theorem dk_nil : DK X W [] aNil := pk_imp pk_nil fun σ H Q h => by
  obtain ⟨ρ, G, ps, M, s, e, p⟩ := h
  exact p G ps H Stp.refl s [] Reps.nil
theorem dk_cons {f : Env → C D} (ha : DE X W e f) (hb : DK X W kws g) : DK X W (⟨nm, e, kpos⟩ :: kws) (aCons f g) :=
  pk_imp (pk_cons ha hb) fun σ H Q q => td_mono (seq1 (k := fun ρ x => C.bind (g ρ) fun xs => C.pure (x :: xs)) q) fun v H1 h2 =>
    tds_mono (At1.nextL (k := fun _ x xs => C.pure (x :: xs)) h2) fun us H2 ⟨ρ, G, ps, M, x, ys, s, e, r, rs, p⟩ => p G ps H2 Stp.refl s _ (Reps.cons r rs)
/-- f(e, .., k = v, ..): how the keywords bind: o tells for each parameter where its value stands among the positional values and the keywords' -/
def pickAll {α : Type} (xs : List α) : List Nat → Option (List α)
  | [] => some []
  | i :: is => match xs[i]?, pickAll xs is with
    | some x, some r => some (x :: r)
    | _, _ => none
theorem pick_vals {xs : List V} {us : List Value} (r : Vals xs us) : ∀ {o : List Nat} {ys : List V}, pickAll xs o = some ys → ∃ ws, pickAll us o = some ws ∧ Vals ys ws
  | [], ys, e => by cases e; exact ⟨[], rfl, .nil⟩
  | i :: is, ys, e => by
    dsimp only [pickAll] at e
    cases q1 : xs[i]? with
    | none => rw [q1] at e; cases e
    | some x =>
      cases q2 : pickAll xs is with
      | none => rw [q1, q2] at e; cases e
      | some r' =>
        rw [q1, q2] at e
        cases e
        obtain ⟨u, hu, ru⟩ := r.get q1
        obtain ⟨ws, hw, rw'⟩ := pick_vals r q2
        refine ⟨u :: ws, ?_, .cons ru rw'⟩
        dsimp only [pickAll]
        rw [hu, hw]
theorem pick_reps {K : PySem.W.Frag} {G : Hp} {sp : List Addr} {ds : List D} {xs : List V} (r : Reps K G sp ds xs) : ∀ {o : List Nat} {es : List D}, pickAll ds o = some es → ∃ ys, pickAll xs o = some ys ∧ Reps K G sp es ys
  | [], es, e => by cases e; exact ⟨[], rfl, Reps.nil⟩
  | i :: is, es, e => by
    dsimp only [pickAll] at e
    cases q1 : ds[i]? with
    | none => rw [q1] at e; cases e
    | some x =>
      cases q2 : pickAll ds is with
      | none => rw [q1, q2] at e; cases e
      | some r' =>
        rw [q1, q2] at e
        cases e
        obtain ⟨u, hu, ru⟩ := r.get q1
        obtain ⟨ws, hw, rw'⟩ := pick_reps r q2
        refine ⟨u :: ws, ?_, Reps.cons ru rw'⟩
        dsimp only [pickAll]
        rw [hu, hw]
/-- how a def binds a call with so many positional values and these keywords -/
def KwB (st : Stmt) (x : Str) (ps ks : List Str) (n : Nat) (o : List Nat) : Prop := ∀ (kV doc pm : Value) (an : Option Addr) (cdv ct : Value) (us ws zs : List Value), us.length = n → ws.length = ks.length → pickAll (us ++ ws) o = some zs →
  bindArgs (PySem.W.fnOf x x (defArgs st) (defBody st) (defScope st) .none kV doc pm an cdv ct) ⟨us, ks.zip ws⟩ = pure (ps.zip zs)
def cK (F : List D → C D) (n m : Nat) (o : List Nat) (g h : Env → C (List D)) : Env → C D := fun ρ => C.bind (g ρ) fun xs => C.bind (h ρ) fun ys => if xs.length = n ∧ ys.length = m then (match pickAll (xs ++ ys) o with
  | some zs => F zs
  | none => C.bad) else C.bad
theorem call_kw {n : Nat} {o : List Nat} {f : Addr} {fd : FuncData} {us ws : List Value} {s : Shared} {σ : L2.St} {H : Hp} {pins : List (Addr × Obj)} {Q : VK} {vs zs : List V} (hf : Fun X.K x x st f fd) (hF : FnG X.prog X.w X.K X.mg X.base k f fd ps F) (hr : Room k X.A) (hG : X.A.guards = some []) (tk : Takes X W) (hkb : KwB st x ps ks n o)
    (I : L2.Inv X pins σ H s) (r : Vals vs us) (r2 : Vals zs ws)
    (q : ∃ ρ G sps M xs ys, Sto0 X.K G sps M H ∧ Slots X.K G sps ρ σ ∧ Reps X.K G sps xs vs ∧ Reps X.K G sps ys zs ∧ Post X.K W σ (PD X.K Q) G sps H ((if xs.length = n ∧ ys.length = ks.length then (match pickAll (xs ++ ys) o with
      | some zs => F zs
      | none => C.bad) else C.bad) M)) : wpAny (model X.prog X.w) X.A (PySem.call (.ref f) us (ks.zip ws)) (EP X pins σ Q) X.xe s := by
  obtain ⟨ρ, G, sps, M, xs, ys, s0, sl, rx, ry, p⟩ := q
  split at p
  · rename_i hl
    split at p
    · rename_i es he
      obtain ⟨ts, e1, rt⟩ := pick_reps (rx.append ry) he
      obtain ⟨us', e2, ru⟩ := pick_vals (r.append r2) e1
      have sp := spD_of (W := W) (F := F) s0 rt p
      have hb : BindsTo s fd ⟨us, ks.zip ws⟩ (ps.zip us') := by
        obtain ⟨oc, od, kV, doc, pm, an, cdv, ct, osl, rfl, lk, hcd⟩ := hf.ex
        exact .of_eq (hkb kV doc pm an cdv ct us ws us' (by rw [← r.length, ← rx.len]; exact hl.1) (by rw [← r2.length, ← ry.len]; exact hl.2) e2)
      exact run_G (args := ⟨us, ks.zip ws⟩) hF hr hG tk hb I ru sp
    · exact p.elim
  · exact p.elim
theorem de_callK {n : Nat} {o : List Nat} (hF : FnAt X.prog X.w X.K X.mg X.base k st x ps F) (hr : Room k X.A) (hG : X.A.guards = some []) (tk : Takes X W) (hkb : KwB st x ps ks n o) (ha : DA X W (e :: es) g) (hkw : DK X W kws h) (hg : Gl X x)
    (hall : (backToKw pos (keywordEach kws X.env)).all (·.1.isSome) = true := by rfl) (hks : (backToKw pos (keywordEach kws X.env)).filterMap (·.1) = ks := by rfl)
    (hdb : (x == ("__debug__" : Str)) = false := by decide) (he : starEach (e :: es) X.env = (false, eval e X.env) :: starEach es X.env := by rfl)
    (hpl : ((backTo pos (starEach (e :: es) X.env)).any (·.1) || (backToKw pos (keywordEach kws X.env)).any (·.1.isNone)) = false := by rfl) : DE X W (.Call (.Name x p) (e :: es) kws pos) (cK F n ks.length o g h) := by
  obtain ⟨f, fd, hm, hf, hb, hF⟩ := hF.ex
  refine ⟨fun pins s σ H Q I q => ?_⟩
  refine wpAny_Call_Name_kw (ld_glob I hg hm ?_ hdb)
  refine PySem.W.callWith_KW (h₀ := X.base) I.ok.mod.kin hf.kp hall (thn (ha.run pos pins s σ H _ I (seqL (k := fun ρ xs => C.bind (h ρ) fun ys => if xs.length = n ∧ ys.length = ks.length then (match pickAll (xs ++ ys) o with
    | some zs => F zs
    | none => C.bad) else C.bad) q)) fun us s1 ⟨vs, H1, I1, r, q1⟩ => ?_) hpl he
  obtain ⟨ρ, G, sps, M, xs, s0, sl, rx, p⟩ := q1
  refine thn (hkw.run pos pins s1 σ H1 _ I1 ⟨ρ, G, sps, M, s0, sl, post_bind (R := PDs X.K fun zs H2 => ∃ ρ G sps M xs ys, Sto0 X.K G sps M H2 ∧ Slots X.K G sps ρ σ ∧ Reps X.K G sps xs vs ∧ Reps X.K G sps ys zs ∧ Post X.K W σ (PD X.K Q) G sps H2 ((if xs.length = n ∧ ys.length = ks.length then (match pickAll (xs ++ ys) o with
      | some zs => F zs
      | none => C.bad) else C.bad) M)) p fun ys M' G' ps' H' _ y s' p' zs rz => ⟨ρ, G', ps', M', xs, ys, s', sl.mono y.ext, rx.mono y.ext, rz, p'⟩⟩) fun ws s2 ⟨zs, H2, I2, rz, q2⟩ => ⟨I2.kIn, ?_⟩
  rw [hks]
  exact call_kw hf hF hr hG tk hkb I2 r rz q2
/-- f(k = v, ..) -/
theorem de_callK0 {o : List Nat} (hF : FnAt X.prog X.w X.K X.mg X.base k st x ps F) (hr : Room k X.A) (hG : X.A.guards = some []) (tk : Takes X W) (hkb : KwB st x ps ks 0 o) (hkw : DK X W kws h) (hg : Gl X x)
    (hall : (backToKw pos (keywordEach kws X.env)).all (·.1.isSome) = true := by rfl) (hks : (backToKw pos (keywordEach kws X.env)).filterMap (·.1) = ks := by rfl)
    (hdb : (x == ("__debug__" : Str)) = false := by decide) (hpl : (backToKw pos (keywordEach kws X.env)).any (·.1.isNone) = false := by rfl) : DE X W (.Call (.Name x p) [] kws pos) (cK F 0 ks.length o aNil h) := by
  obtain ⟨f, fd, hm, hf, hb, hF⟩ := hF.ex
  refine ⟨fun pins s σ H Q I q => ?_⟩
  refine wpAny_Call_Name_kw (ld_glob I hg hm ?_ hdb)
  refine PySem.W.callWith_KW0 (h₀ := X.base) I.ok.mod.kin hf.kp hall ?_ hpl
  obtain ⟨ρ, G, sps, M, s0, sl, p⟩ := q
  refine thn (hkw.run pos pins s σ H _ I ⟨ρ, G, sps, M, s0, sl, post_bind (R := PDs X.K fun zs H2 => ∃ ρ G sps M xs ys, Sto0 X.K G sps M H2 ∧ Slots X.K G sps ρ σ ∧ Reps X.K G sps xs [] ∧ Reps X.K G sps ys zs ∧ Post X.K W σ (PD X.K Q) G sps H2 ((if xs.length = 0 ∧ ys.length = ks.length then (match pickAll (xs ++ ys) o with
      | some zs => F zs
      | none => C.bad) else C.bad) M)) p fun ys M' G' ps' H' _ y s' p' zs rz => ⟨ρ, G', ps', M', [], ys, s', sl.mono y.ext, Reps.nil, rz, p'⟩⟩) fun ws s2 ⟨zs, H2, I2, rz, q2⟩ => ?_
  rw [hks]
  exact ⟨I2.kIn, call_kw hf hF hr hG tk hkb I2 .nil rz q2⟩
end
end DL
end
section
set_option Elab.async false
set_option linter.all false
set_option maxRecDepth 100000
set_option maxHeartbeats 1000000
namespace DL
open PySem PySem.Spec PyProof.Rows L2
/-! ### statements -/
inductive Out where
  | nx (ρ : Env) | rt (d : D) | bk (ρ : Env) | ct (ρ : Env) | ex (c : Str) (fn : List Str) (ds : List D) (ρ : Env)
abbrev SF := Env → C Out
/-- what is wanted behind an outcome -/
def PO' (K : PySem.W.Frag) (W : WX) (Dn : Ends) : PP Out := fun o G ps M H => match o with
  | .nx ρ => ∀ σ, Slots K G ps ρ σ → Dn.nx σ H
  | .bk ρ => ∀ σ, Slots K G ps ρ σ → Dn.bk σ H
  | .ct ρ => ∀ σ, Slots K G ps ρ σ → Dn.ct σ H
  | .rt d => ∀ v, Rep K G ps d v → Dn.rt v H
  | .ex x fn ds ρ => ∀ σ C dd, clsAt K x = some C → Slots K G ps ρ σ → ErrAt K G ps dd fn ds → W (.ref C) (some dd) σ H
def W0 : WX := fun _ _ _ _ => False
/-- a statement's computation lets nothing out by err -/
def PSt (K : PySem.W.Frag) (P : PP Out) (G : Hp) (ps : List Addr) (H : Hp) (r : Res Out) : Prop := Post K W0 [] P G ps H r
abbrev TSD (K : PySem.W.Frag) (W : WX) (f : SF) : TS := fun Dn σ H => ∃ ρ G ps M, Sto0 K G ps M H ∧ Slots K G ps ρ σ ∧ PSt K (PO' K W Dn) G ps H (f ρ M)
abbrev DS (X : Cx) (W : WX) (st : Stmt) (f : SF) : Prop := PS X st (TSD X.K W f)
abbrev DSs (X : Cx) (W : WX) (st : List Stmt) (f : SF) : Prop := PSs X st (TSD X.K W f)
/-- an expression within a statement -/
def lift {α : Type} (e : Env → C α) (k : Env → α → C Out) : SF := fun ρ M => match e ρ M with
  | .ok a M' => k ρ a M'
  | .err c fn ds M' => .ok (.ex c fn ds ρ) M'
  | .bad => .bad
theorem pst_ok {K : PySem.W.Frag} {P : PP Out} {G : Hp} {ps : List Addr} {H : Hp} {M : Sto} {o : Out} (h : PSt K P G ps H (.ok o M)) (s : Sto0 K G ps M H) : P o G ps M H := h G ps H Stp.refl s
section
variable {X : Cx} {W : WX} {α : Type}
theorem lift_post {P : PP α} {Dn : Ends} {e : Env → C α} {k : Env → α → C Out} {σ : L2.St} {H : Hp} (h : TSD X.K W (lift e k) Dn σ H)
    (hk : ∀ ρ a G ps M H', Sto0 X.K G ps M H' → Slots X.K G ps ρ σ → PSt X.K (PO' X.K W Dn) G ps H' (k ρ a M) → P a G ps M H') : TDp X.K W P e σ H := by
  obtain ⟨ρ, G, ps, M, s, sl, p⟩ := h
  refine ⟨ρ, G, ps, M, s, sl, ?_⟩
  unfold lift at p
  cases q : e ρ M with
  | ok a M' =>
    rw [q] at p
    exact fun G' ps' H' st s' => hk ρ a G' ps' M' H' s' (sl.mono st.ext) (Post.ext st p)
  | err c fn ds M' =>
    rw [q] at p
    exact fun C dd G' ps' H' hc st s' er => (p G' ps' H' st s') σ C dd hc (sl.mono st.ext) er
  | bad => rw [q] at p; exact p
variable {st : Stmt} {rest : List Stmt} {t u : SF} {e : Expr} {f : Env → C D} {pos pos' : Pos}
def sNx : SF := fun ρ => C.pure (.nx ρ)
def sSeq (t u : SF) : SF := fun ρ M => match t ρ M with
  | .ok (.nx ρ') M' => u ρ' M'
  | r => r
theorem dss_nil : DSs X W [] sNx := pss_imp pss_nil fun Dn σ H h => by
  obtain ⟨ρ, G, ps, M, s, sl, p⟩ := h
  exact pst_ok p s σ sl
theorem seq_post {Dn : Ends} {σ : L2.St} {H : Hp} (h : TSD X.K W (sSeq t u) Dn σ H) : TSD X.K W t { Dn with nx := TSD X.K W u Dn } σ H := by
  obtain ⟨ρ, G, ps, M, s, sl, p⟩ := h
  refine ⟨ρ, G, ps, M, s, sl, ?_⟩
  unfold sSeq at p
  split at p
  · rename_i ρ' M' q
    rw [q]
    exact fun G' ps' H' sp s' σ' sl' => ⟨ρ', G', ps', M', s', sl', Post.ext sp p⟩
  · rename_i r hr
    cases q : t ρ M with
    | ok o M' =>
      rw [q] at p
      cases o with
      | nx ρ' => exact (hr ρ' M' q).elim
      | rt d => exact p
      | bk ρ' => exact p
      | ct ρ' => exact p
      | ex c fn ds ρ' => exact p
    | err c fn ds M' => rw [q] at p; exact p
    | bad => rw [q] at p; exact p
theorem dss_cons (h1 : DS X W st t) (h2 : DSs X W rest u) : DSs X W (st :: rest) (sSeq t u) := pss_imp (pss_cons h1 h2) fun Dn σ H h => seq_post h
theorem dss_one (h1 : DS X W st t) : DSs X W [st] t := pss_one h1
theorem ds_pass : DS X W (.Pass pos) sNx := ps_imp ps_pass fun Dn σ H h => by
  obtain ⟨ρ, G, ps, M, s, sl, p⟩ := h
  exact pst_ok p s σ sl
def sBk : SF := fun ρ => C.pure (.bk ρ)
def sCt : SF := fun ρ => C.pure (.ct ρ)
theorem ds_break : DS X W (.Break pos) sBk := ps_imp ps_break fun Dn σ H h => by
  obtain ⟨ρ, G, ps, M, s, sl, p⟩ := h
  exact pst_ok p s σ sl
theorem ds_continue : DS X W (.Continue pos) sCt := ps_imp ps_continue fun Dn σ H h => by
  obtain ⟨ρ, G, ps, M, s, sl, p⟩ := h
  exact pst_ok p s σ sl
theorem ds_doc {x j} : DS X W (.Expr (.Constant (.str x) j pos) pos') sNx := ps_imp ps_doc fun Dn σ H h => by
  obtain ⟨ρ, G, ps, M, s, sl, p⟩ := h
  exact pst_ok p s σ sl
/-- code that is not come to -/
def sBad : SF := fun _ => C.bad
theorem ds_never : DS X W st sBad := ps_imp ps_never fun Dn σ H h => by
  obtain ⟨ρ, G, ps, M, s, sl, p⟩ := h
  exact p.elim
def sEx (f : Env → C D) : SF := lift f fun ρ _ => C.pure (.nx ρ)
theorem ds_expr (he : DE X W e f) (hs : swapsWith e none pos.line X.env = pure false := by rfl) : DS X W (.Expr e pos) (sEx f) := ps_imp (ps_expr he hs) fun Dn σ H h =>
  lift_post h fun ρ a G ps M H' s sl p v r => pst_ok p s σ sl
def sRt (f : Env → C D) : SF := lift f fun _ d => C.pure (.rt d)
theorem ds_ret (he : DE X W e f) : DS X W (.Return (some e) pos) (sRt f) := ps_imp (ps_ret he) fun Dn σ H h =>
  lift_post h fun ρ a G ps M H' s sl p v r => pst_ok p s v r
def sRtN : SF := fun _ => C.pure (.rt .non)
theorem ds_retN : DS X W (.Return none pos) sRtN := ps_imp ps_retN fun Dn σ H h => by
  obtain ⟨ρ, G, ps, M, s, sl, p⟩ := h
  exact pst_ok p s .non Rep.non_of
def sIf (c : Env → C Bool) (t u : SF) : SF := lift c fun ρ b => if b = true then t ρ else u ρ
theorem ds_if {c : Expr} {a b : List Stmt} {tc : Env → C Bool} (hc : DT X W c tc) (ha : DSs X W a t) (hb : DSs X W b u) : DS X W (.If c a b pos) (sIf tc t u) := ps_imp (ps_if hc ha hb) fun Dn σ H h =>
  lift_post h fun ρ b G ps M H' s sl p => by
    cases b with
    | true => exact ⟨ρ, G, ps, M, s, sl, p⟩
    | false => exact ⟨ρ, G, ps, M, s, sl, p⟩
/-! targets -/
/-- a pattern of slots -/
inductive Pat where
  | nm (i : Nat) | tp (l : List Pat)
mutual
def Pat.put (M : Sto) : Pat → D → Env → Option Env
  | .nm i, d, ρ => some (ρ.set i (some d))
  | .tp l, d, ρ => match asSeq M d with
    | some ds => Pat.puts M l ds ρ
    | none => none
def Pat.puts (M : Sto) : List Pat → List D → Env → Option Env
  | [], [], ρ => some ρ
  | p :: l, d :: ds, ρ => match Pat.put M p d ρ with
    | some ρ' => Pat.puts M l ds ρ'
    | none => none
  | _, _, _ => none
end
mutual
def Pat.slots : Pat → List Nat
  | .nm i => [i]
  | .tp l => Pat.slotss l
def Pat.slotss : List Pat → List Nat
  | [] => []
  | p :: l => Pat.slots p ++ Pat.slotss l
end
/-- the same but for these slots -/
def Agree (q : List Nat) (σ σ' : L2.St) : Prop := σ'.length = σ.length ∧ ∀ j, j ∉ q → σ'[j]? = σ[j]?
theorem Agree.refl {q : List Nat} {σ : L2.St} : Agree q σ σ := ⟨rfl, fun _ _ => rfl⟩
theorem Agree.set {i : Nat} {σ : L2.St} {v : Option V} : Agree [i] σ (σ.set i v) := ⟨by rw [List.length_set], fun j h => by rw [List.getElem?_set_ne fun z => h (by rw [z]; simp)]⟩
theorem Agree.app {p q : List Nat} {σ σ1 σ2 : L2.St} (a : Agree p σ σ1) (b : Agree q σ1 σ2) : Agree (p ++ q) σ σ2 :=
  ⟨b.1.trans a.1, fun j h => by rw [List.mem_append, not_or] at h; rw [b.2 j h.2, a.2 j h.1]⟩
/-- a target stores as its pattern says -/
def gD (K : PySem.W.Frag) (q : Pat) : TG := fun v σ H Q => ∃ ρ G ps M d ρ', Sto0 K G ps M H ∧ Slots K G ps ρ σ ∧ Rep K G ps d v ∧ q.put M d ρ = some ρ' ∧ ∀ σ', Slots K G ps ρ' σ' → Agree q.slots σ σ' → Q σ' H
def DG (X : Cx) (target : Expr) (q : Pat) : Prop := PG X target (gD X.K q)
def DGs (X : Cx) (ts : List Expr) (q : List Pat) : Prop := PGs X ts fun vs σ H Q => ∃ ρ G ps M ds ρ', Sto0 X.K G ps M H ∧ Slots X.K G ps ρ σ ∧ Reps X.K G ps ds vs ∧ Pat.puts M q ds ρ = some ρ' ∧ ∀ σ', Slots X.K G ps ρ' σ' → Agree (Pat.slotss q) σ σ' → Q σ' H
theorem pg_imp {tg : Expr} {t t' : TG} (h : PG X tg t) (i : ∀ v σ H Q, t' v σ H Q → t v σ H Q) : PG X tg t' := ⟨fun pins s σ H v u Q I r q => h.run pins s σ H v u Q I r (i v σ H Q q)⟩
theorem pgs_imp {tg : List Expr} {t t' : TGs} (h : PGs X tg t) (i : ∀ v σ H Q, t' v σ H Q → t v σ H Q) : PGs X tg t' := ⟨fun pins s σ H v u Q I r q => h.run pins s σ H v u Q I r (i v σ H Q q)⟩
theorem pg_or {tg : Expr} {t t' : TG} (h : PG X tg t) (h' : PG X tg t') : PG X tg (fun v σ H Q => t v σ H Q ∨ t' v σ H Q) := ⟨fun pins s σ H v u Q I r q => q.elim (h.run pins s σ H v u Q I r) (h'.run pins s σ H v u Q I r)⟩
theorem Slots.set {K : PySem.W.Frag} {G : Hp} {ps : List Addr} {ρ : Env} {σ : L2.St} {i : Nat} {d : D} {v : V} (h : Slots K G ps ρ σ) (r : Rep K G ps d v) (hi : i < σ.length) : Slots K G ps (ρ.set i (some d)) (σ.set i (some v)) := fun j d' e => by
  by_cases z : i = j
  · subst z
    have hl : i < ρ.length := by
      have := (List.getElem?_eq_some_iff.mp e).1
      rwa [List.length_set] at this
    rw [List.getElem?_set_self hl] at e
    cases e
    exact ⟨v, List.getElem?_set_self hi, r⟩
  · rw [List.getElem?_set_ne z] at e
    obtain ⟨v', a, b⟩ := h j d' e
    exact ⟨v', by rw [List.getElem?_set_ne z]; exact a, b⟩
theorem dg_name (i : Nat) {x : Str} (hN : X.N.Nodup) (hi : X.N[i]? = some x := by rfl) (hx : Loc X.env.scope x := by first | exact Or.inl rfl | exact Or.inr rfl) (hf : X.fn x = true ∨ X.env.scope.names.lookup x = some .local := by first | exact .inl rfl | exact .inr rfl) : DG X (.Name x pos) (.nm i) := by
  have pg := pg_name (X := X) (pos := pos) hN hi hx hf
  refine ⟨fun pins s σ H v u Q I r q => ?_⟩
  obtain ⟨ρ, G, ps, M, d, ρ', s0, sl, rd, e, q⟩ := q
  refine pg.run pins s σ H v u Q I r ?_
  unfold Pat.put at e
  cases e
  exact q _ (sl.set rd (by rw [I.len]; exact (List.getElem?_eq_some_iff.mp hi).1)) Agree.set
theorem dgs_nil : DGs X [] [] := pgs_imp pgs_nil fun vs σ H Q h => by
  obtain ⟨ρ, G, ps, M, ds, ρ', s0, sl, rd, e, q⟩ := h
  cases ds with
  | nil =>
    unfold Reps at rd
    unfold Pat.puts at e
    cases e
    exact ⟨rd, q σ sl Agree.refl⟩
  | cons d ds => unfold Pat.puts at e; cases e
theorem dgs_cons {es : List Expr} {q : Pat} {l : List Pat} (h1 : DG X e q) (h2 : DGs X es l) (hs : (assignEach (e :: es) X.env).map (·.2) = assign e X.env :: (assignEach es X.env).map (·.2) := by rfl) : DGs X (e :: es) (q :: l) :=
  pgs_imp (pgs_cons h1 h2 hs) fun vs σ H Q h => by
    obtain ⟨ρ, G, ps, M, ds, ρ', s0, sl, rd, e, k⟩ := h
    cases ds with
    | nil => unfold Pat.puts at e; cases e
    | cons d ds =>
      obtain ⟨v, r, ev, r1, r2⟩ := rd.uncons
      unfold Pat.puts at e
      cases z : Pat.put M q d ρ with
      | none => rw [z] at e; cases e
      | some ρ1 =>
        rw [z] at e
        exact ⟨v, r, ev, ρ, G, ps, M, d, ρ1, s0, sl, r1, z, fun σ1 sl1 a1 => ⟨ρ1, G, ps, M, ds, ρ', s0, sl1, r2, e, fun σ2 sl2 a2 => k σ2 sl2 (by unfold Pat.slotss; exact a1.app a2)⟩⟩
theorem dg_tup {es : List Expr} {l : List Pat} {n : Nat} (hc : X.calm = true) (h : DGs X es l) (hn : (assignEach es X.env).length = l.length := by rfl) (hst : (assignEach es X.env).findIdx? (·.1) = none := by rfl) : DG X (.Tuple es n pos) (.tp l) :=
  pg_imp (pg_or (pg_tup hc h (n := l.length) hn hst) (pg_lst hc h (n := l.length) hn hst)) fun v σ H Q h => by
    obtain ⟨ρ, G, ps, M, d, ρ', s0, sl, rd, e, k⟩ := h
    unfold Pat.put at e
    cases z : asSeq M d with
    | none => rw [z] at e; cases e
    | some ds =>
      rw [z] at e
      obtain ⟨a, xs, ev, hs, rr⟩ := asSeq_rep s0 rd z
      have hl : ∀ {l : List Pat} {ds : List D} {ρ ρ' : Env}, Pat.puts M l ds ρ = some ρ' → ds.length = l.length := by
        intro l
        induction l with
        | nil => intro ds ρ ρ' e; cases ds with
          | nil => rfl
          | cons d ds => unfold Pat.puts at e; cases e
        | cons p l ih => intro ds ρ ρ' e; cases ds with
          | nil => unfold Pat.puts at e; cases e
          | cons d ds =>
            unfold Pat.puts at e
            cases z : Pat.put M p d ρ with
            | none => rw [z] at e; cases e
            | some ρ1 => rw [z] at e; rw [List.length_cons, List.length_cons, ih e]
      have hl := hl e
      rcases hs with hs | hs
      · exact .inr ⟨a, xs, ev, hs, by rw [← rr.len]; exact hl, ρ, G, ps, M, ds, ρ', s0, sl, rr, e, fun σ2 sl2 a2 => k σ2 sl2 (by unfold Pat.slots; exact a2)⟩
      · exact .inl ⟨a, xs, ev, hs, by rw [← rr.len]; exact hl, ρ, G, ps, M, ds, ρ', s0, sl, rr, e, fun σ2 sl2 a2 => k σ2 sl2 (by unfold Pat.slots; exact a2)⟩
def sAsg (f : Env → C D) (q : Pat) : SF := lift f fun ρ d M => match q.put M d ρ with
  | some ρ' => .ok (.nx ρ') M
  | none => .bad
theorem asg_post {q : Pat} {Dn : Ends} {σ : L2.St} {H : Hp} (h : TSD X.K W (sAsg f q) Dn σ H) : TD X.K W f σ H (fun v H1 => ∃ ρ G ps M d ρ', Sto0 X.K G ps M H1 ∧ Slots X.K G ps ρ σ ∧ Rep X.K G ps d v ∧ q.put M d ρ = some ρ' ∧ ∀ σ', Slots X.K G ps ρ' σ' → Agree q.slots σ σ' → Dn.nx σ' H1) :=
  lift_post h fun ρ d G ps M H' s sl p v r => by
    cases z : q.put M d ρ with
    | none => rw [z] at p; exact p.elim
    | some ρ' => rw [z] at p; exact ⟨ρ, G, ps, M, d, ρ', s, sl, r, z, fun σ' sl' _ => pst_ok p s σ' sl'⟩
theorem ds_asg {tg : Expr} {q : Pat} (he : DE X W e f) (hg : DG X tg q) (hs : swapsWithSole [tg] e pos.line X.env = pure false := by rfl) (hw : swappedStores [tg] e X.env = pure none := by rfl)
    (h1 : (assignEach [tg] X.env).map (·.2) = [assign tg X.env] := by rfl) : DS X W (.Assign [tg] e pos) (sAsg f q) := ps_imp (ps_asg he hg hs hw h1) fun Dn σ H h => asg_post h
/-- name = e -/
theorem ds_set (i : Nat) {x : Str} (hN : X.N.Nodup) (he : DE X W e f) (hi : X.N[i]? = some x := by rfl) (hx : Loc X.env.scope x := by first | exact Or.inl rfl | exact Or.inr rfl) (hs : swapsWith e (some (.Name x pos')) pos.line X.env = pure false := by rfl) (hf : X.fn x = true ∨ X.env.scope.names.lookup x = some .local := by first | exact .inl rfl | exact .inr rfl) :
    DS X W (.Assign [.Name x pos'] e pos) (sAsg f (.nm i)) := by
  have ps := ps_set (X := X) (pos := pos) (pos' := pos') hN hi hx he hs hf
  refine ⟨fun pins s σ H Dn I h => ps.run pins s σ H Dn I ?_⟩
  refine td_mono (asg_post h) fun v H1 h2 => ?_
  obtain ⟨ρ, G, ps, M, d, ρ', s0, sl, rd, e, q⟩ := h2
  unfold Pat.put at e
  cases e
  exact q _ (sl.set rd (by rw [I.len]; exact (List.getElem?_eq_some_iff.mp hi).1)) Agree.set
/-- a, b = x, y with plain names -/
def sPar (i j : Nat) (g : Env → C (List D)) : SF := lift g fun ρ ds => match ds with
  | [d, e] => C.pure (.nx ((ρ.set i (some d)).set j (some e)))
  | _ => C.bad
theorem ds_par (i j : Nat) {x y : Str} {a b : Expr} {g : Env → C (List D)} {px py pt : Pos} {kt k2 pt2} (hc : X.calm = true) (hN : X.N.Nodup) (ha : DA X W [a, b] g) (hi : X.N[i]? = some x := by rfl) (hj : X.N[j]? = some y := by rfl) (hij : i ≠ j := by decide)
    (hx : X.env.scope.names.lookup x = some .local := by rfl) (hy : X.env.scope.names.lookup y = some .local := by rfl)
    (hw : swappedStores [.Tuple [.Name x px, .Name y py] kt pt] (.Tuple [a, b] k2 pt2) X.env = pure (some [x, y]) := by rfl)
    (hs : swapsWithSole [.Tuple [.Name x px, .Name y py] kt pt] (.Tuple [a, b] k2 pt2) pos.line X.env = pure false := by rfl) : DS X W (.Assign [.Tuple [.Name x px, .Name y py] kt pt] (.Tuple [a, b] k2 pt2) pos) (sPar i j g) := by
  have ps := ps_par (X := X) (pos := pos) (px := px) (py := py) (kt := kt) (pt := pt) (k2 := k2) (pt2 := pt2) hc hN hi hj hij hx hy ha hw hs
  refine ⟨fun pins s σ H Dn I h => ps.run pins s σ H Dn I ?_⟩
  refine lift_post h fun ρ ds G ps M H' s sl p vs r => ?_
  split at p
  · obtain ⟨v, u, ev, r1, r2⟩ := r.two
    have hli := (List.getElem?_eq_some_iff.mp hi).1
    have hlj := (List.getElem?_eq_some_iff.mp hj).1
    exact ⟨v, u, ev, pst_ok p s _ ((sl.set r1 (by rw [I.len]; exact hli)).set r2 (by rw [List.length_set, I.len]; exact hlj))⟩
  · exact p.elim
/-- o[i] = v -/
def setAt (o i v : D) : C Out → C Out := fun k M => match o, i with
  | .ptr n, .int z => match M[n]? with
    | some (.lst ds) => match ixN ds.length z with
      | some j => k (M.set n (.lst (ds.set j v)))
      | none => .bad
    | _ => .bad
  | _, _ => .bad
/-- values of expressions, one after another, within a statement -/
def LA1 (K : PySem.W.Frag) (W : WX) (k : Env → D → C Out) (Dn : Ends) (σ : L2.St) (v : V) (H : Hp) : Prop := ∃ ρ G ps M x, Sto0 K G ps M H ∧ Slots K G ps ρ σ ∧ Rep K G ps x v ∧ PSt K (PO' K W Dn) G ps H (k ρ x M)
def LA2 (K : PySem.W.Frag) (W : WX) (k : Env → D → D → C Out) (Dn : Ends) (σ : L2.St) (v u : V) (H : Hp) : Prop := ∃ ρ G ps M x y, Sto0 K G ps M H ∧ Slots K G ps ρ σ ∧ Rep K G ps x v ∧ Rep K G ps y u ∧ PSt K (PO' K W Dn) G ps H (k ρ x y M)
def LA3 (K : PySem.W.Frag) (W : WX) (k : Env → D → D → D → C Out) (Dn : Ends) (σ : L2.St) (v u t : V) (H : Hp) : Prop := ∃ ρ G ps M x y z, Sto0 K G ps M H ∧ Slots K G ps ρ σ ∧ Rep K G ps x v ∧ Rep K G ps y u ∧ Rep K G ps z t ∧ PSt K (PO' K W Dn) G ps H (k ρ x y z M)
theorem lift_go {α : Type} {e : Env → C α} {k : Env → α → C Out} {ρ : Env} {M : Sto} {G : Hp} {ps : List Addr} {H : Hp} {σ : L2.St} {Dn : Ends} {P : PP α} (sl : Slots X.K G ps ρ σ) (p : PSt X.K (PO' X.K W Dn) G ps H (lift e k ρ M))
    (hk : ∀ a M' G' ps' H', Stp G ps H G' ps' H' → Sto0 X.K G' ps' M' H' → PSt X.K (PO' X.K W Dn) G' ps' H' (k ρ a M') → P a G' ps' M' H') : Post X.K W σ P G ps H (e ρ M) := by
  unfold lift at p
  cases q : e ρ M with
  | ok a M' =>
    rw [q] at p
    exact fun G' ps' H' st s' => hk a M' G' ps' H' st s' (Post.ext st p)
  | err c fn ds M' =>
    rw [q] at p
    exact fun C dd G' ps' H' hc st s' er => (p G' ps' H' st s') σ C dd hc (sl.mono st.ext) er
  | bad => rw [q] at p; exact p
theorem lift1 {e : Env → C D} {k : Env → D → C Out} {σ : L2.St} {H : Hp} {Dn : Ends} (h : TSD X.K W (lift e k) Dn σ H) : TD X.K W e σ H (LA1 X.K W k Dn σ) := by
  obtain ⟨ρ, G, ps, M, s, sl, p⟩ := h
  exact ⟨ρ, G, ps, M, s, sl, lift_go sl p fun a M' G' ps' H' st s' p' v r => ⟨ρ, G', ps', M', a, s', sl.mono st.ext, r, p'⟩⟩
theorem lift2 {e : Env → C D} {k : Env → D → D → C Out} {σ : L2.St} {v : V} {H : Hp} {Dn : Ends} (h : LA1 X.K W (fun ρ x => lift e (fun ρ' y => k ρ' x y) ρ) Dn σ v H) : TD X.K W e σ H (LA2 X.K W k Dn σ v) := by
  obtain ⟨ρ, G, ps, M, x, s, sl, r, p⟩ := h
  exact ⟨ρ, G, ps, M, s, sl, lift_go (k := fun ρ' y => k ρ' x y) sl p fun a M' G' ps' H' st s' p' u r' => ⟨ρ, G', ps', M', x, a, s', sl.mono st.ext, r.mono st.ext, r', p'⟩⟩
theorem lift3 {e : Env → C D} {k : Env → D → D → D → C Out} {σ : L2.St} {v u : V} {H : Hp} {Dn : Ends} (h : LA2 X.K W (fun ρ x y => lift e (fun ρ' z => k ρ' x y z) ρ) Dn σ v u H) : TD X.K W e σ H (LA3 X.K W k Dn σ v u) := by
  obtain ⟨ρ, G, ps, M, x, y, s, sl, r, r2, p⟩ := h
  exact ⟨ρ, G, ps, M, s, sl, lift_go (k := fun ρ' z => k ρ' x y z) sl p fun a M' G' ps' H' st s' p' t r' => ⟨ρ, G', ps', M', x, y, a, s', sl.mono st.ext, r.mono st.ext, r2.mono st.ext, r', p'⟩⟩
def sSub (f o i : Env → C D) : SF := lift f fun ρ v => lift o (fun ρ x => lift i (fun ρ y => setAt x y v (C.pure (.nx ρ))) ρ) ρ
end
end DL
end
section
set_option Elab.async false
set_option linter.all false
set_option maxRecDepth 100000
set_option maxHeartbeats 1000000
namespace DL
open PySem PySem.Spec PyProof.Rows L2
theorem ixN_lt {n : Nat} {k : Int} {j : Nat} (h : ixN n k = some j) : j < n := by
  unfold ixN at h
  split at h
  · split at h
    · cases h; omega
    · cases h
  · split at h
    · cases h; omega
    · cases h
section
variable {X : Cx} {W : WX} {α : Type}
variable {a b c o' : Expr} {f o i : Env → C D} {pos tpos : Pos}
theorem ds_sub (he : DE X W c f) (ho : DE X W a o) (hi : DE X W b i)
    (ha : ∀ v, assign (.Subscript a b tpos) X.env v = (do
      let ov ← holding [v] (eval a X.env)
      let iv ← holding [v, ov] (eval b X.env)
      standAt tpos
      holding [v, ov, iv] (setItem ov iv v)
      release [v, ov, iv] []) := by intro _; rfl) (hs : swapsWithSole [.Subscript a b tpos] c pos.line X.env = pure false := by rfl) (hw : swappedStores [.Subscript a b tpos] c X.env = pure none := by rfl)
    (h1 : (assignEach [.Subscript a b tpos] X.env).map (·.2) = [assign (.Subscript a b tpos) X.env] := by rfl) : DS X W (.Assign [.Subscript a b tpos] c pos) (sSub f o i) :=
  ps_imp (ps_asg he (pg_sub ho hi set_list ha) hs hw h1) fun Dn σ H h =>
    td_mono (lift1 h) fun v H1 h2 => td_mono (lift2 (k := fun ρ v x => lift i (fun ρ y => setAt x y v (C.pure (.nx ρ))) ρ) h2) fun ov H2 h3 =>
      td_mono (lift3 (k := fun ρ v x y => setAt x y v (C.pure (.nx ρ))) h3) fun iv H3 h4 => by
        obtain ⟨ρ, G, ps, M, x, y, z, s, sl, r1, r2, r3, p⟩ := h4
        replace p : PSt X.K (PO' X.K W Dn) G ps H3 (setAt y z x (C.pure (.nx ρ)) M) := p
        unfold setAt at p
        split at p
        · rename_i n k
          split at p
          · rename_i ds hm
            split at p
            · rename_i j hj
              unfold Rep at r2 r3
              obtain ⟨q, e, hp⟩ := r2
              subst e; subst r3
              obtain ⟨q', xs, e1, g1, h1', rr⟩ := s.mem n _ hm
              have : q' = q := Option.some.inj (e1.symm.trans hp)
              subst this
              refine ⟨q', xs, k, j, rfl, rfl, h1', by rw [← rr.len]; exact hj, ?_⟩
              have rr' := rr.set j r1
              exact p G ps _ (s.stpS hp) (s.set hm hp rr') σ sl
            · exact p.elim
          · exact p.elim
        · exact p.elim
/-! ### methods of built-in types -/
def chkTy (T : String) (x : D) : C Unit := fun M => if tyName M x = some T then .ok () M else .bad
def mB (T : String) (k : D → List D → C D) (o : Env → C D) (g : Env → C (List D)) : Env → C D := fun ρ => C.bind (o ρ) fun x => C.bind (chkTy T x) fun _ => C.bind (g ρ) fun xs => k x xs
def mB0 (T : String) (k : D → List D → C D) (o : Env → C D) : Env → C D := fun ρ => C.bind (o ρ) fun x => C.bind (chkTy T x) fun _ => k x []
def MtD (X : Cx) (W : WX) (k : D → List D → C D) (r : V → List V → Hp → VK → Prop) : Prop := ∀ σ v vs H Q, (∃ G ps M x xs, Sto0 X.K G ps M H ∧ Rep X.K G ps x v ∧ Reps X.K G ps xs vs ∧ Post X.K W σ (PD X.K Q) G ps H (k x xs M)) → r v vs H Q
theorem tyV_of {K : PySem.W.Frag} {G : Hp} {ps : List Addr} {M : Sto} {H : Hp} (s : Sto0 K G ps M H) {d : D} {v : V} {T : String} (r : Rep K G ps d v) (e : tyName M d = some T) (hT : T = "str" ∨ T = "list" ∨ T = "dict" ∨ T = "int") (hd : ∀ ds, d ≠ .ft ds) : tyV K T v H := by
  cases d with
  | str y => unfold Rep at r; subst r; cases e; rfl
  | int y => unfold Rep at r; subst r; cases e; rfl
  | lst ds => unfold Rep at r; cases e; obtain ⟨a, xs, e1, g, _⟩ := r; subst e1; exact .inl ⟨rfl, xs, .inl (.inl (s.sub _ _ g))⟩
  | fz ds => unfold Rep at r; cases e; obtain ⟨a, xs, e1, g, _⟩ := r; subst e1; exact .inl ⟨rfl, xs, s.seqL g⟩
  | dic ks ds => unfold Rep at r; cases e; obtain ⟨a, kvs, e1, g, _⟩ := r; subst e1; exact .inr (.inr (.inl ⟨rfl, .inl ⟨kvs, s.sub _ _ g⟩⟩))
  | ptr m =>
    dsimp only [tyName] at e
    have q : ∃ ds, asSeq M (.ptr m) = some ds ∧ T = "list" := by
      dsimp only [asSeq]
      split at e <;> first
        | (cases e; exact ⟨_, rfl, rfl⟩)
        | (cases e; rename_i z; rw [z]; exact ⟨_, rfl, rfl⟩)
        | cases e
    obtain ⟨ds, q, e2⟩ := q
    subst e2
    obtain ⟨a, xs, e1, hs, _⟩ := asSeq_lst s r q rfl
    subst e1
    exact .inl ⟨rfl, xs, hs⟩
  | tup ds => cases e; rcases hT with h | h | h | h <;> exact absurd h (by decide)
  | ft ds => exact (hd ds rfl).elim
  | non => cases e; rcases hT with h | h | h | h <;> exact absurd h (by decide)
  | bl _ => cases e; rcases hT with h | h | h | h <;> exact absurd h (by decide)
  | ty _ => cases e
  | obj _ => cases e
  | ins _ _ _ => cases e
  | exc _ _ _ => cases e
  | cls _ => cases e
variable {es : List Expr} {g : Env → C (List D)} {name : Str} {apos cpos : Pos} {T id : String} {r : V → List V → Hp → VK → Prop} {k : D → List D → C D}
theorem chk_out {β : Type} {K : PySem.W.Frag} {P : PP β} {σ : L2.St} {G : Hp} {ps : List Addr} {H : Hp} {M : Sto} {x : D} {k : Unit → C β} (p : Post K W σ P G ps H (C.bind (chkTy T x) k M)) : tyName M x = some T ∧ Post K W σ P G ps H (k () M) := by
  unfold C.bind chkTy at p
  by_cases h : tyName M x = some T
  · rw [if_pos h] at p; exact ⟨h, p⟩
  · rw [if_neg h] at p; exact p.elim
theorem notft {M : Sto} {x : D} (h : tyName M x = some T) (hT : T = "str" ∨ T = "list" ∨ T = "dict" ∨ T = "int") : ∀ ds, x ≠ .ft ds := fun ds e => by
  subst e
  cases h
  rcases hT with h | h | h | h <;> exact absurd h (by decide)
theorem de_bm (pa : PlainAttrs T) (slot : Slot T name id) (hty : typeOf (.builtin id) = pure (.type "method_descriptor")) (hm : MtR X id r) (hk : MtD X W k r) (ho : DE X W o' o) (ha : DA X W (b :: es) g) (hT : T = "str" ∨ T = "list" ∨ T = "dict" ∨ T = "int" := by simp)
    (hbase : attributeBase o' name X.env (eval o' X.env) = eval o' X.env := by rfl)
    (hfew : ((backTo cpos (starEach (b :: es) X.env)).all (fun x => !x.1) && (backToKw cpos (keywordEach [] X.env)).all (fun x => x.1.isSome)
      && decide ((b :: es).length + ([] : List Keyword).length + (if ([] : List Keyword).isEmpty then 0 else 1) < 30)) = true := by rfl)
    (hline : (apos.endLine == cpos.line) = true := by rfl) (hs : starEach (b :: es) X.env = (false, eval b X.env) :: starEach es X.env := by rfl) (hplain : (backTo cpos (starEach es X.env)).any (·.1) = false := by rfl) :
    DE X W (.Call (.Attribute o' name apos) (b :: es) [] cpos) (mB T k o g) :=
  pe_imp (pe_bm pa slot hty hm ho ha hbase hfew hline hs hplain) fun σ H Q h => td_mono (seq1 (k := fun ρ x => C.bind (chkTy T x) fun _ => C.bind (g ρ) fun xs => k x xs) h) fun v H1 ⟨ρ, G, ps, M, x, s, sl, r1, p⟩ => by
    obtain ⟨hx, p⟩ := chk_out p
    exact ⟨tyV_of s r1 hx hT (notft hx hT), ρ, G, ps, M, s, sl, post_bind (k := fun xs => k x xs) p fun xs M' G' ps' H' _ st s' p' vs rs => hk σ v vs H' Q ⟨G', ps', M', x, xs, s', r1.mono st.ext, rs, p'⟩⟩
theorem de_bm0 (pa : PlainAttrs T) (slot : Slot T name id) (hty : typeOf (.builtin id) = pure (.type "method_descriptor")) (hm : MtR X id r) (hk : MtD X W k r) (ho : DE X W o' o) (hT : T = "str" ∨ T = "list" ∨ T = "dict" ∨ T = "int" := by simp)
    (hbase : attributeBase o' name X.env (eval o' X.env) = eval o' X.env := by rfl) (hline : (apos.endLine == cpos.line) = true := by rfl) :
    DE X W (.Call (.Attribute o' name apos) [] [] cpos) (mB0 T k o) :=
  pe_imp (pe_bm0 pa slot hty hm ho hbase hline) fun σ H Q h => td_mono (seq1 (k := fun ρ x => C.bind (chkTy T x) fun _ => k x []) h) fun v H1 ⟨ρ, G, ps, M, x, s, sl, r1, p⟩ => by
    obtain ⟨hx, p⟩ := chk_out p
    exact ⟨tyV_of s r1 hx hT (notft hx hT), hk σ v [] H1 Q ⟨G, ps, M, x, [], s, r1, Reps.nil, p⟩⟩
/-- xs.append(e) -/
def dApp : D → List D → C D := fun o es M => match o, es with
  | .ptr n, [e] => match M[n]? with
    | some (.lst ds) => if ds.length < sizeLine then .ok .non (M.set n (.lst (ds ++ [e]))) else .bad
    | _ => .bad
  | _, _ => .bad
theorem app_D : MtD X W dApp rAppend := fun σ v vs H Q h => by
  obtain ⟨G, ps, M, x, xs, s, r1, rs, p⟩ := h
  unfold dApp at p
  split at p
  · rename_i n e
    split at p
    · rename_i ds hm
      split at p
      · rename_i hz
        unfold Rep at r1
        obtain ⟨q, e1, hp⟩ := r1
        subst e1
        obtain ⟨y, e2, ry⟩ := rs.one
        subst e2
        obtain ⟨q', ys, e3, g1, h1, rr⟩ := s.mem n _ hm
        have : q' = q := Option.some.inj (e3.symm.trans hp)
        subst this
        exact ⟨q', ys, y, rfl, rfl, h1, by rw [← rr.len]; exact hz, p G ps _ (s.stpS hp) (s.set hm hp (rr.append (Reps.cons ry Reps.nil))) _ Rep.non_of⟩
      · exact p.elim
    · exact p.elim
  · exact p.elim
theorem de_append (ho : DE X W o' o) (ha : DA X W [b] g) (hbase : attributeBase o' "append" X.env (eval o' X.env) = eval o' X.env := by rfl)
    (hfew : ((backTo cpos (starEach [b] X.env)).all (fun x => !x.1) && (backToKw cpos (keywordEach [] X.env)).all (fun x => x.1.isSome)
      && decide ([b].length + ([] : List Keyword).length + (if ([] : List Keyword).isEmpty then 0 else 1) < 30)) = true := by rfl)
    (hline : (apos.endLine == cpos.line) = true := by rfl) (hs : starEach [b] X.env = (false, eval b X.env) :: starEach [] X.env := by rfl) (hplain : (backTo cpos (starEach [] X.env)).any (·.1) = false := by rfl) :
    DE X W (.Call (.Attribute o' "append" apos) [b] [] cpos) (mB "list" dApp o g) :=
  de_bm PySem.F.plainAttrs_list PySem.F.slot_list_append PySem.F.type_list_append mt_append app_D ho ha (by simp) hbase hfew hline hs hplain
end
end DL
end
section
set_option Elab.async false
set_option linter.all false
set_option maxRecDepth 100000
set_option maxHeartbeats 1000000
namespace DL
open PySem PySem.Spec PyProof.Rows L2
/-! ### while -/
def turnS (k : SF) (b : SF) : SF := fun ρ M => match b ρ M with
  | .ok (.nx ρ') M' => k ρ' M'
  | .ok (.ct ρ') M' => k ρ' M'
  | .ok (.bk ρ') M' => .ok (.nx ρ') M'
  | r => r
def whileN (t : Env → C Bool) (b : SF) : Nat → SF
  | 0 => sBad
  | n + 1 => lift t fun ρ c => if c = true then turnS (whileN t b n) b ρ else C.pure (.nx ρ)
open Classical in
noncomputable def whileS (t : Env → C Bool) (b : SF) : SF := fun ρ M => if h : ∃ n, whileN t b n ρ M ≠ .bad then whileN t b (Classical.choose h) ρ M else .bad
section
variable {X : Cx} {W : WX}
theorem turn_post {k b : SF} {Dn : Ends} {N : L2.St → Hp → Prop} {σ : L2.St} {H : Hp} (h : TSD X.K W (turnS k b) Dn σ H) (hN : ∀ σ' H', TSD X.K W k Dn σ' H' → N σ' H') : TSD X.K W b { Dn with nx := N, ct := N, bk := Dn.nx } σ H := by
  obtain ⟨ρ, G, ps, M, s, sl, p⟩ := h
  refine ⟨ρ, G, ps, M, s, sl, ?_⟩
  unfold turnS at p
  cases q : b ρ M with
  | ok o M' =>
    rw [q] at p
    cases o with
    | nx ρ' => exact fun G' ps' H' st s' σ' sl' => hN σ' H' ⟨ρ', G', ps', M', s', sl', Post.ext st p⟩
    | ct ρ' => exact fun G' ps' H' st s' σ' sl' => hN σ' H' ⟨ρ', G', ps', M', s', sl', Post.ext st p⟩
    | bk ρ' => exact p
    | rt d => exact p
    | ex c fn ds ρ' => exact p
  | err c fn ds M' => rw [q] at p; exact p
  | bad => rw [q] at p; exact p
theorem ds_while {c : Expr} {body : List Stmt} {t : Env → C Bool} {b : SF} {pos : Pos} (hp : PassesOwn (model X.prog X.w) X.A X.env X.xe) (hc : DT X W c t) (hb : DSs X W body b) : DS X W (.While c body [] pos) (whileS t b) :=
  ps_imp (ps_while hp hc hb) fun Dn σ H h => by
    refine ⟨fun m σ H => TSD X.K W (whileN t b m) Dn σ H, ?_, fun m σ H hm => ?_⟩
    · obtain ⟨ρ, G, ps, M, s, sl, p⟩ := h
      unfold whileS at p
      split at p
      · exact ⟨_, ρ, G, ps, M, s, sl, p⟩
      · exact p.elim
    · cases m with
      | zero => obtain ⟨ρ, G, ps, M, s, sl, p⟩ := hm; exact p.elim
      | succ n =>
        refine lift_post hm fun ρ b' G ps M H' s sl p => ?_
        cases b' with
        | true => exact ⟨fun σ' H' => TSD X.K W (whileN t b n) Dn σ' H', fun σ' H' q => ⟨n, Nat.lt_succ_self _, q⟩, turn_post ⟨ρ, G, ps, M, s, sl, p⟩ fun _ _ q => q⟩
        | false => exact pst_ok p s σ sl
end
/-! ### for -/
def forS (q : Pat) (b : SF) : List D → SF
  | [] => sNx
  | d :: ds => fun ρ M => match q.put M d ρ with
    | some ρ1 => turnS (forS q b ds) b ρ1 M
    | none => .bad
def sFor (it : Env → C (List D)) (q : Pat) (b : SF) : SF := lift it fun ρ ds => forS q b ds ρ
/-- an iterator that yields these -/
def Walks (K : PySem.W.Frag) (G : Hp) (ps : List Addr) (J : It) (ds : List D) : Prop :=
  ∀ (i : Nat) G' ps' (M' : Sto) H', Ext G ps G' ps' → Sto0 K G' ps' M' H' → (ds.length ≤ i → J.stop i H') ∧
    ∀ d, ds[i]? = some d → J.go i H' ∧ ∀ x H'', J.yld i H' x H'' → ∃ G'', Stp G' ps' H' G'' ps' H'' ∧ Sto0 K G'' ps' M' H'' ∧ Rep K G'' ps' d x
abbrev DI (X : Cx) (W : WX) (tg iter : Expr) (it : Env → C (List D)) : Prop := PI X tg iter fun σ H R => TDp X.K W (fun ds G ps _ H' => ∀ J, Walks X.K G ps J ds → R J H') it σ H
theorem pi_imp {X : Cx} {tg it : Expr} {t t' : TI} (h : PI X tg it t) (i : ∀ σ H Q, t' σ H Q → t σ H Q) : PI X tg it t' := ⟨fun pins s σ H Q I q => h.run pins s σ H Q I (i σ H Q q)⟩
theorem pi_or {X : Cx} {tg it : Expr} {t t' : TI} (h : PI X tg it t) (h' : PI X tg it t') : PI X tg it (fun σ H R => t σ H R ∨ t' σ H R) := ⟨fun pins s σ H Q I q => q.elim (h.run pins s σ H Q I) (h'.run pins s σ H Q I)⟩
section
variable {X : Cx} {W : WX} {tg iter e : Expr} {f : Env → C D} {it : Env → C (List D)}
theorem ds_for {q : Pat} {body : List Stmt} {b : SF} {pos : Pos} (hp : PassesOwn (model X.prog X.w) X.A X.env X.xe) (hc : X.calm = true) (hi : DI X W tg iter it) (hg : DG X tg q) (hb : DSs X W body b) (hs : ∀ x, foldedSetIterable iter X.env x = pure x := by intro _; rfl) :
    DS X W (.For tg iter body [] pos) (sFor it q b) := ps_imp (ps_for hp hc hi hg hb hs) fun Dn σ H h =>
  lift_post h fun ρ ds G ps M H1 s sl p J hJ => by
    refine ⟨fun i m σ H => m = ds.length - i ∧ ∃ ρ G' ps' M, Ext G ps G' ps' ∧ Sto0 X.K G' ps' M H ∧ Slots X.K G' ps' ρ σ ∧ PSt X.K (PO' X.K W Dn) G' ps' H (forS q b (ds.drop i) ρ M), ⟨_, rfl, ρ, G, ps, M, Ext.refl, s, sl, by rw [List.drop_zero]; exact p⟩, ?_⟩
    rintro i m σ H ⟨em, ρ, G', ps', M, x, s, sl, p⟩
    obtain ⟨w1, w2⟩ := hJ i G' ps' M H x s
    cases z : ds[i]? with
    | none =>
      have hl : ds.length ≤ i := List.getElem?_eq_none_iff.mp z
      rw [List.drop_eq_nil_of_le hl] at p
      exact .inl ⟨w1 hl, pst_ok p s σ sl⟩
    | some d =>
      obtain ⟨hi, e⟩ := List.getElem?_eq_some_iff.mp z
      obtain ⟨hgo, hy⟩ := w2 d z
      rw [List.drop_eq_getElem_cons hi, e] at p
      refine .inr ⟨hgo, fun σ' H' => ∃ ρ G' ps' M, Ext G ps G' ps' ∧ Sto0 X.K G' ps' M H' ∧ Slots X.K G' ps' ρ σ' ∧ PSt X.K (PO' X.K W Dn) G' ps' H' (forS q b (ds.drop (i + 1)) ρ M), fun σ' H' hn => ⟨ds.length - (i + 1), by omega, rfl, hn⟩, fun v H' y => ?_⟩
      obtain ⟨G2, st2, s2, r2⟩ := hy v H' y
      unfold forS at p
      cases z2 : q.put M d ρ with
      | none => rw [z2] at p; exact p.elim
      | some ρ1 =>
        rw [z2] at p
        refine ⟨ρ, G2, ps', M, d, ρ1, s2, sl.mono st2.ext, r2, z2, fun σ2 sl2 _ => ?_⟩
        have p2 : PSt X.K (PO' X.K W Dn) G2 ps' H' (turnS (forS q b (ds.drop (i + 1))) b ρ1 M) := Post.ext st2 p
        refine ⟨ρ1, G2, ps', M, s2, sl2, ?_⟩
        unfold turnS at p2
        have xx := x.trans st2.ext
        cases q3 : b ρ1 M with
        | ok o M' =>
          rw [q3] at p2
          cases o with
          | nx ρ' => exact fun G' ps' H' st s' σ' sl' => ⟨ρ', G', ps', M', xx.trans st.ext, s', sl', Post.ext st p2⟩
          | ct ρ' => exact fun G' ps' H' st s' σ' sl' => ⟨ρ', G', ps', M', xx.trans st.ext, s', sl', Post.ext st p2⟩
          | bk ρ' => exact p2
          | rt d => exact p2
          | ex c fn ds ρ' => exact p2
        | err c fn ds M' => rw [q3] at p2; exact p2
        | bad => rw [q3] at p2; exact p2
/-! what is walked -/
def items : D → C (List D)
  | .lst ds => C.pure ds
  | .fz ds => C.pure ds
  | .tup ds => C.pure ds
  | .ft ds => C.pure ds
  | _ => C.bad
def dIt (f : Env → C D) : Env → C (List D) := fun ρ => C.bind (f ρ) items
theorem walks_lst {K : PySem.W.Frag} {G : Hp} {ps : List Addr} {a : Addr} {xs : List V} {ds : List D} (h : SqL K G a xs) (r : Reps K G ps ds xs) : Walks K G ps (Itl K a) ds := fun i G' ps' M' H' x s => by
  have hs : SqL K H' a xs := s.seqL (x.seqL h)
  refine ⟨fun hl => ⟨xs, hs, by rw [← r.len]; exact hl⟩, fun d e => ?_⟩
  obtain ⟨v, e2, rv⟩ := r.get e
  refine ⟨⟨xs, v, hs, e2⟩, fun y H'' z => ?_⟩
  obtain ⟨z1, z2⟩ := z
  subst z1
  have := z2 xs hs
  rw [e2] at this
  cases this
  exact ⟨G', Stp.refl, s, rv.mono x⟩
theorem walks_tup {K : PySem.W.Frag} {G : Hp} {ps : List Addr} {a : Addr} {xs : List V} {ds : List D} (h : SqT K G a xs) (r : Reps K G ps ds xs) : Walks K G ps (Itt K a) ds := fun i G' ps' M' H' x s => by
  have hs : SqT K H' a xs := s.seqT (x.seqT h)
  refine ⟨fun hl => ⟨xs, hs, by rw [← r.len]; exact hl⟩, fun d e => ?_⟩
  obtain ⟨v, e2, rv⟩ := r.get e
  refine ⟨⟨xs, v, hs, e2⟩, fun y H'' z => ?_⟩
  obtain ⟨z1, z2⟩ := z
  subst z1
  have := z2 xs hs
  rw [e2] at this
  cases this
  exact ⟨G', Stp.refl, s, rv.mono x⟩
theorem di_seq (he : DE X W e f) : DI X W tg e (dIt f) := pi_imp (pi_or (pi_list he) (pi_tup he)) fun σ H R h => by
  obtain ⟨ρ, G, ps, M, s, sl, p⟩ := h
  have p : Post X.K W σ (fun ds G ps _ H' => ∀ J, Walks X.K G ps J ds → R J H') G ps H ((f ρ M).bind items) := p
  cases q : f ρ M with
  | bad => rw [q] at p; exact p.elim
  | err c fn ds M' => exact .inl ⟨ρ, G, ps, M, s, sl, by rw [q] at p ⊢; exact p⟩
  | ok d M' =>
    rw [q] at p
    have p : Post X.K W σ (fun ds G ps _ H' => ∀ J, Walks X.K G ps J ds → R J H') G ps H (items d M') := p
    cases d with
    | lst ds => exact .inl ⟨ρ, G, ps, M, s, sl, by
        rw [q]
        intro G' ps' H' st s' v r
        unfold Rep at r
        obtain ⟨a, xs, e, g, rr⟩ := r
        exact ⟨a, e, ⟨xs, .inl (.inl (s'.sub _ _ g))⟩, p G' ps' H' st s' _ (walks_lst (.inl (.inl g)) rr)⟩⟩
    | fz ds => exact .inl ⟨ρ, G, ps, M, s, sl, by
        rw [q]
        intro G' ps' H' st s' v r
        unfold Rep at r
        obtain ⟨a, xs, e, g, rr⟩ := r
        exact ⟨a, e, ⟨xs, s'.seqL g⟩, p G' ps' H' st s' _ (walks_lst g rr)⟩⟩
    | tup ds => exact .inr ⟨ρ, G, ps, M, s, sl, by
        rw [q]
        intro G' ps' H' st s' v r
        unfold Rep at r
        obtain ⟨a, xs, e, g, rr⟩ := r
        exact ⟨a, e, ⟨xs, .inl (.inl (s'.sub _ _ g))⟩, p G' ps' H' st s' _ (walks_tup (.inl (.inl g)) rr)⟩⟩
    | ft ds => exact .inr ⟨ρ, G, ps, M, s, sl, by
        rw [q]
        intro G' ps' H' st s' v r
        unfold Rep at r
        obtain ⟨a, xs, e, g, rr⟩ := r
        exact ⟨a, e, ⟨xs, s'.seqT g⟩, p G' ps' H' st s' _ (walks_tup g rr)⟩⟩
    | _ => exact p.elim
end
end DL
end
section
set_option Elab.async false
set_option linter.all false
set_option maxRecDepth 100000
set_option maxHeartbeats 1000000
namespace DL
open PySem PySem.Spec PyProof.Rows L2
/-! ### ranges -/
def rgI (lo : Int) (n : Nat) : List D := (List.range n).map fun i => D.int (lo + (i : Nat))
def rng1 : List D → C (List D)
  | [.int j] => if -(2 ^ 62) ≤ j ∧ j < 2 ^ 62 then C.pure (rgI 0 j.toNat) else C.bad
  | _ => C.bad
def rng2 : List D → C (List D)
  | [.int i, .int j] => if -(2 ^ 62) ≤ i ∧ i < 2 ^ 62 ∧ -(2 ^ 62) ≤ j ∧ j < 2 ^ 62 then C.pure (rgI i (j - i).toNat) else C.bad
  | _ => C.bad
theorem walks_rng {K : PySem.W.Frag} {G : Hp} {ps : List Addr} {lo : Int} {n : Nat} : Walks K G ps (Itr lo n) (rgI lo n) := fun i G' ps' M' H' x s => by
  refine ⟨fun hl => by unfold rgI at hl; rw [List.length_map, List.length_range] at hl; exact hl, fun d e => ?_⟩
  unfold rgI at e
  rw [List.getElem?_map] at e
  obtain ⟨j, e1, e2⟩ := Option.map_eq_some_iff.mp e
  obtain ⟨hj, e3⟩ := List.getElem?_eq_some_iff.mp e1
  rw [List.getElem_range] at e3
  subst e3; subst e2
  rw [List.length_range] at hj
  refine ⟨hj, fun y H'' z => ?_⟩
  obtain ⟨z1, z2⟩ := z
  subst z1; subst z2
  exact ⟨G', Stp.refl, s, Rep.int_of⟩
section
variable {X : Cx} {W : WX} {tg iter e a b : Expr} {f : Env → C D} {it : Env → C (List D)} {g : Env → C (List D)} {p pos : Pos}
def dRng (k : List D → C (List D)) (g : Env → C (List D)) : Env → C (List D) := fun ρ => C.bind (g ρ) k
theorem di_rng1 (ha : DA X W [a] g) (hg : Gl X "range") (hm : X.mg "range" = none) (hs : starEach [a] X.env = [(false, eval a X.env)] := by rfl) : DI X W tg (.Call (.Name "range" p) [a] [] pos) (dRng rng1 g) :=
  pi_imp (pi_range1 hg hm ha hs) fun σ H R h => tds_mono (seqL (P := fun ds G ps _ H' => ∀ J, Walks X.K G ps J ds → R J H') (k := fun _ xs => rng1 xs) h) fun vs H1 h2 => by
    obtain ⟨G, ps, M, xs, s, r, p⟩ := h2.out
    unfold rng1 at p
    split at p
    · obtain ⟨v, e, r1⟩ := r.one; subst e; unfold Rep at r1; subst r1
      split at p
      · rename_i hz
        exact ⟨_, rfl, hz.1, hz.2, p G ps H1 Stp.refl s _ walks_rng⟩
      · exact p.elim
    · exact p.elim
theorem di_rng2 (ha : DA X W [a, b] g) (hg : Gl X "range") (hm : X.mg "range" = none) (hs : starEach [a, b] X.env = [(false, eval a X.env), (false, eval b X.env)] := by rfl) (hs2 : starEach [b] X.env = [(false, eval b X.env)] := by rfl) :
    DI X W tg (.Call (.Name "range" p) [a, b] [] pos) (dRng rng2 g) :=
  pi_imp (pi_range2 hg hm ha hs hs2) fun σ H R h => tds_mono (seqL (P := fun ds G ps _ H' => ∀ J, Walks X.K G ps J ds → R J H') (k := fun _ xs => rng2 xs) h) fun vs H1 h2 => by
    obtain ⟨G, ps, M, xs, s, r, p⟩ := h2.out
    unfold rng2 at p
    split at p
    · obtain ⟨v, u, e, r1, r2⟩ := r.two; subst e; unfold Rep at r1 r2; subst r1; subst r2
      split at p
      · rename_i hz
        exact ⟨_, _, rfl, hz, p G ps H1 Stp.refl s _ walks_rng⟩
      · exact p.elim
    · exact p.elim
/-! ### comprehensions -/
/-- nothing that is raised comes out -/
def C.ne {α : Type} (x : C α) : C α := fun M => match x M with
  | .err _ _ _ _ => .bad
  | r => r
def wipeE (ρ : Env) : List Nat → Env
  | [] => ρ
  | v :: vs => (wipeE ρ vs).set v none
/-- the items that are made -/
def lcS (q : Pat) (t : Env → C Bool) (e : Env → C D) (ρ : Env) : List D → List D → C (List D)
  | [], acc => C.pure acc
  | d :: ds, acc => fun M => match q.put M d ρ with
    | some ρ1 => C.bind (C.ne (t ρ1)) (fun b => if b = true then C.bind (C.ne (e ρ1)) (fun y => if acc.length < sizeLine then lcS q t e ρ ds (acc ++ [y]) else C.bad) else lcS q t e ρ ds acc) M
    | none => .bad
def dLc (it : Env → C (List D)) (q : Pat) (t : Env → C Bool) (e : Env → C D) (vs : List Nat) : Env → C D := fun ρ => C.bind (it ρ) fun ds => C.bind (lcS q t e (wipeE ρ vs) ds []) fun acc => C.pure (.lst acc)
/-- a place taken away -/
def hid (H : Hp) (D : Addr) : Hp := fun a => if a = D then none else H a
theorem hid_upd {H : Hp} {D : Addr} {o : HO} : hid (upd H D o) D = hid H D := by
  funext a; unfold hid; by_cases h : a = D
  · rw [if_pos h, if_pos h]
  · rw [if_neg h, if_neg h, upd_ne h]
theorem hid_none {H : Hp} {D : Addr} (h : H D = none) : hid H D = H := by
  funext a; unfold hid; by_cases z : a = D
  · rw [if_pos z, z, h]
  · rw [if_neg z]
theorem hid_some {H : Hp} {D a : Addr} {o : HO} (h : hid H D a = some o) : H a = some o ∧ a ≠ D := by
  unfold hid at h; by_cases z : a = D
  · rw [if_pos z] at h; cases h
  · rw [if_neg z] at h; exact ⟨h, z⟩
theorem hid_ne {H : Hp} {D a : Addr} (h : a ≠ D) : hid H D a = H a := if_neg h
theorem Stp.hid {G G' H H' : Hp} {ps ps' : List Addr} (x : Stp G ps H G' ps' H') (D : Addr) : Stp G ps (DL.hid H D) G' ps' (DL.hid H' D) where
  ext := x.ext
  keep := fun a o h n => by
    obtain ⟨h1, h2⟩ := hid_some h
    rw [hid_ne h2]; exact x.keep a o h1 n
  fresh := fun a h => by
    rcases x.fresh a h with z | z
    · exact .inl z
    · refine .inr ?_
      unfold DL.hid; by_cases w : a = D
      · rw [if_pos w]
      · rw [if_neg w]; exact z
  newG := fun a o h => by
    rcases x.newG a o h with z | z | z
    · exact .inl z
    · refine .inr (.inl ?_)
      unfold DL.hid; by_cases w : a = D
      · rw [if_pos w]
      · rw [if_neg w]; exact z
    · exact .inr (.inr z)
/-- .. within a computation that does not see D -/
theorem post_ne {α β : Type} {K : PySem.W.Frag} {W : WX} {P : PP β} {R : PP α} {σ σ' : L2.St} {G : Hp} {ps : List Addr} {H : Hp} {D : Addr} {x : C α} {k : α → C β} {M : Sto} (h : Post K W σ P G ps (hid H D) (C.bind (C.ne x) k M))
    (hk : ∀ a M G' ps' H', Stp G ps H G' ps' H' → Sto0 K G' ps' M H' → Post K W σ P G' ps' (hid H' D) (k a M) → R a G' ps' M H') : Post K W0 σ' R G ps H (x M) := by
  unfold C.bind C.ne at h
  cases q : x M with
  | ok a M' =>
    rw [q] at h
    exact fun G' ps' H' st s' => hk a M' G' ps' H' st s' (Post.ext (st.hid D) h)
  | err c fn ds M' => rw [q] at h; exact h.elim
  | bad => rw [q] at h; exact h.elim
theorem Agree.wipe : ∀ {q vs : List Nat} {σ σ' : L2.St}, Agree q σ σ' → (∀ i ∈ q, i ∈ vs) → L2.wipe σ' vs = L2.wipe σ vs := fun {q vs σ σ'} a h => by
  have key : ∀ (vs : List Nat) (σ : L2.St) (i : Nat), (L2.wipe σ vs)[i]? = if i ∈ vs then (if i < σ.length then some none else none) else σ[i]? := by
    intro vs
    induction vs with
    | nil => intro σ i; simp [L2.wipe]
    | cons v vs ih =>
      intro σ i
      unfold L2.wipe
      by_cases hv : v = i
      · subst hv
        rw [List.getElem?_set]
        simp [L2.wipe_length]
      · rw [List.getElem?_set_ne hv, ih]
        have : (i ∈ v :: vs) ↔ i ∈ vs := by simp [Ne.symm hv]
        simp only [this]
  apply List.ext_getElem?
  intro i
  rw [key, key]
  by_cases hi : i ∈ vs
  · rw [if_pos hi, if_pos hi, a.1]
  · rw [if_neg hi, if_neg hi]
    exact a.2 i fun z => hi (h i z)
theorem wipe_wipe (σ : L2.St) (vs : List Nat) : L2.wipe (L2.wipe σ vs) vs = L2.wipe σ vs := by
  have ag : Agree vs σ (L2.wipe σ vs) := ⟨L2.wipe_length _ _, fun j h => by
    have key : ∀ (vs : List Nat) (σ : L2.St) (i : Nat), i ∉ vs → (L2.wipe σ vs)[i]? = σ[i]? := by
      intro vs
      induction vs with
      | nil => intro σ i _; rfl
      | cons v vs ih =>
        intro σ i hi
        unfold L2.wipe
        rw [List.getElem?_set_ne (fun z => hi (by simp [z])), ih σ i (fun z => hi (List.mem_cons_of_mem _ z))]
    exact key vs σ j h⟩
  exact ag.wipe fun _ h => h
theorem Slots.wipe {K : PySem.W.Frag} {G : Hp} {ps : List Addr} {ρ : Env} {σ : L2.St} (h : Slots K G ps ρ σ) : ∀ vs : List Nat, Slots K G ps (wipeE ρ vs) (L2.wipe σ vs)
  | [] => h
  | v :: vs => fun i d e => by
    have ih := Slots.wipe h vs
    unfold wipeE at e
    unfold L2.wipe
    by_cases z : v = i
    · subst z
      rw [List.getElem?_set] at e
      simp at e
    · rw [List.getElem?_set_ne z] at e ⊢
      exact ih i d e
theorem Sto0.aside {K : PySem.W.Frag} {G : Hp} {ps : List Addr} {M : Sto} {H : Hp} {a : Addr} {o : HO} (s : Sto0 K G ps M H) (hg : G a = none) (hp : a ∉ ps) : Sto0 K G ps M (upd H a o) :=
  ⟨fun b u e => by rw [upd_ne fun z => by rw [z, hg] at e; cases e]; exact s.sub b u e, fun n mo e => (s.mem n mo e).mono Ext.refl (fun _ _ g => g) (fun b u e2 q => by rw [upd_ne fun z => hp (by rw [← z]; exact List.mem_of_getElem? e2)]; exact q), s.nd, s.len,
    fun n b e => by rw [upd_ne fun z => hp (by rw [← z]; exact List.mem_of_getElem? e)]; exact s.old n b e⟩
theorem lc_imp {q : Pat} {t : Env → C Bool} {vs : List Nat} {wi : TI} {fe : Env → C D} (hwi : ∀ σ H R, TDp X.K W (fun ds G ps _ H' => ∀ J, Walks X.K G ps J ds → R J H') it σ H → wi σ H R) (hq : ∀ i ∈ q.slots, i ∈ vs) :
    ∀ σ H Q, TD X.K W (dLc it q t fe vs) σ H Q → tLc wi (gD X.K q) (TB X.K W0 t) (TD X.K W0 fe) vs σ H Q := fun σ H Q h => by
  obtain ⟨ρ, G, ps, M, s, sl, p⟩ := h
  refine hwi σ H _ ⟨ρ, G, ps, M, s, sl, post_bind (k := fun ds => C.bind (lcS q t fe (wipeE ρ vs) ds []) fun acc => C.pure (DL.D.lst acc)) p fun ds M1 G1 ps1 H1 _ st1 s1 p1 J hJ D hD => ?_⟩
  have slw := (sl.mono st1.ext).wipe vs
  refine ⟨fun i m H => m = ds.length - i ∧ ∃ G' ps' M acc xs, Ext G1 ps1 G' ps' ∧ Sto0 X.K G' ps' M H ∧ H D = some (.lst xs) ∧ D ∉ ps' ∧ G' D = none ∧ Reps X.K G' ps' acc xs ∧ Post X.K W σ (PD X.K Q) G' ps' (hid H D) ((C.bind (lcS q t fe (wipeE ρ vs) (ds.drop i) acc) fun acc => C.pure (DL.D.lst acc)) M), ⟨_, rfl, G1, ps1, M1, [], [], Ext.refl, s1.junk hD, upd_same, fun hm => ?_, s1.gnone hD, Reps.nil, ?_⟩, ?_⟩
  · obtain ⟨j, hj⟩ := List.getElem?_of_mem hm
    exact s1.old j D hj hD
  · rw [hid_upd, hid_none hD, List.drop_zero]
    exact p1
  · rintro i m H ⟨em, G', ps', M, acc, xs, x, s, hDx, hDp, hDg, ra, p⟩
    obtain ⟨w1, w2⟩ := hJ i G' ps' M H x s
    cases z : ds[i]? with
    | none =>
      have hl : ds.length ≤ i := List.getElem?_eq_none_iff.mp z
      rw [List.drop_eq_nil_of_le hl] at p
      refine .inl ⟨w1 hl, ?_⟩
      have p : Post X.K W σ (PD X.K Q) G' ps' (hid H D) (.ok (DL.D.lst acc) M) := p
      have xg : Ext G' ps' (upd G' D (.lst xs)) ps' := ⟨fun a o e => by
        by_cases w : a = D
        · subst w; rw [upd_same]; rw [s.sub _ _ e] at hDx; exact hDx.symm ▸ rfl
        · rw [upd_ne w]; exact e, [], by simp⟩
      refine p (upd G' D (.lst xs)) ps' H ⟨xg, fun a o e _ => (hid_some e).1, fun a h => .inl h, fun a o e => by
        by_cases w : a = D
        · subst w; exact .inr (.inl (by unfold hid; rw [if_pos rfl]))
        · rw [upd_ne w] at e; exact .inl e⟩ ⟨fun a o e => ?_, fun n mo e => (s.mem n mo e).mono xg (fun a e2 g => ?_) (fun _ _ _ h => h), s.nd, s.len, s.old⟩ _ (by unfold Rep; exact ⟨D, xs, rfl, upd_same, ra.mono xg⟩)
      · by_cases w : a = D
        · subst w; rw [upd_same] at e; cases e; exact hDx
        · rw [upd_ne w] at e; exact s.sub a o e
      · rw [upd_ne fun w => hDp (by rw [← w]; exact List.mem_of_getElem? e2)]; exact g
    | some d =>
      obtain ⟨hi, e⟩ := List.getElem?_eq_some_iff.mp z
      obtain ⟨hgo, hy⟩ := w2 d z
      rw [List.drop_eq_getElem_cons hi, e] at p
      refine .inr ⟨hgo, fun H' => ∃ G' ps' M acc xs, Ext G1 ps1 G' ps' ∧ Sto0 X.K G' ps' M H' ∧ H' D = some (.lst xs) ∧ D ∉ ps' ∧ G' D = none ∧ Reps X.K G' ps' acc xs ∧ Post X.K W σ (PD X.K Q) G' ps' (hid H' D) ((C.bind (lcS q t fe (wipeE ρ vs) (ds.drop (i + 1)) acc) fun acc => C.pure (DL.D.lst acc)) M), fun H' hn => ⟨ds.length - (i + 1), by omega, rfl, hn⟩, fun v H' y => ?_⟩
      obtain ⟨G2, st2, s2, r2⟩ := hy v H' y
      have hD2 : H' D = some (.lst xs) := st2.keep D _ hDx hDp
      have hDg2 : G2 D = none := by
        cases w : G2 D with
        | none => rfl
        | some o => rcases st2.newG D o w with z | z | z
                    · rw [hDg] at z; cases z
                    · rw [hDx] at z; cases z
                    · exact (hDp z).elim
      have ra2 := ra.mono st2.ext
      have xx := x.trans st2.ext
      unfold lcS at p
      cases z2 : q.put M d (wipeE ρ vs) with
      | none =>
        have p : Post X.K W σ (PD X.K Q) G' ps' (hid H D) ((match q.put M d (wipeE ρ vs) with
          | some ρ1 => C.bind (C.ne (t ρ1)) (fun b => if b = true then C.bind (C.ne (fe ρ1)) (fun y => if acc.length < sizeLine then lcS q t fe (wipeE ρ vs) (ds.drop (i + 1)) (acc ++ [y]) else C.bad) else lcS q t fe (wipeE ρ vs) (ds.drop (i + 1)) acc) M
          | none => .bad).bind fun acc => C.pure (DL.D.lst acc)) := p
        rw [z2] at p
        exact p.elim
      | some ρ1 =>
        have p : Post X.K W σ (PD X.K Q) G' ps' (hid H D) ((match q.put M d (wipeE ρ vs) with
          | some ρ1 => C.bind (C.ne (t ρ1)) (fun b => if b = true then C.bind (C.ne (fe ρ1)) (fun y => if acc.length < sizeLine then lcS q t fe (wipeE ρ vs) (ds.drop (i + 1)) (acc ++ [y]) else C.bad) else lcS q t fe (wipeE ρ vs) (ds.drop (i + 1)) acc) M
          | none => .bad).bind fun acc => C.pure (DL.D.lst acc)) := p
        rw [z2] at p
        have p : Post X.K W σ (PD X.K Q) G' ps' (hid H D) (C.bind (C.bind (C.ne (t ρ1)) (fun b => if b = true then C.bind (C.ne (fe ρ1)) (fun y => if acc.length < sizeLine then lcS q t fe (wipeE ρ vs) (ds.drop (i + 1)) (acc ++ [y]) else C.bad) else lcS q t fe (wipeE ρ vs) (ds.drop (i + 1)) acc)) (fun acc => C.pure (DL.D.lst acc)) M) := p
        rw [C.bind_assoc] at p
        have p2 := Post.ext (st2.hid D) p
        refine ⟨wipeE ρ vs, G2, ps', M, d, ρ1, s2, slw.mono xx, r2, z2, fun σ2 sl2 ag => ⟨(ag.wipe hq).trans (wipe_wipe σ vs), ?_⟩⟩
        refine ⟨ρ1, G2, ps', M, s2, sl2, post_ne p2 fun b M3 G3 ps3 H3 st3 s3 p3 => ?_⟩
        have hD3 : H3 D = some (.lst xs) := st3.keep D _ hD2 hDp
        have hDp3 : D ∉ ps3 := fun hm => (st3.fresh D hm).elim hDp fun z => by rw [hD2] at z; cases z
        have hDg3 : G3 D = none := by
          cases w : G3 D with
          | none => rfl
          | some o => rcases st3.newG D o w with z | z | z
                      · rw [hDg2] at z; cases z
                      · rw [hD2] at z; cases z
                      · exact (hDp z).elim
        cases b with
        | false => exact ⟨G3, ps3, M3, acc, xs, xx.trans st3.ext, s3, hD3, hDp3, hDg3, ra2.mono st3.ext, p3⟩
        | true =>
          simp only [if_true] at p3 ⊢
          rw [C.bind_assoc] at p3
          refine ⟨ρ1, G3, ps3, M3, s3, sl2.mono st3.ext, post_ne p3 fun y M4 G4 ps4 H4 st4 s4 p4 u ru => ?_⟩
          have hD4 : H4 D = some (.lst xs) := st4.keep D _ hD3 hDp3
          have hDp4 : D ∉ ps4 := fun hm => (st4.fresh D hm).elim hDp3 fun z => by rw [hD3] at z; cases z
          have ra4 := (ra2.mono st3.ext).mono st4.ext
          split at p4
          · rename_i hz
            refine ⟨xs, hD4, by rw [← ra4.len]; exact hz, ?_⟩
            have hDg4 : G4 D = none := by
              cases w : G4 D with
              | none => rfl
              | some o => rcases st4.newG D o w with z | z | z
                          · rw [hDg3] at z; cases z
                          · rw [hD3] at z; cases z
                          · exact (hDp3 z).elim
            refine ⟨G4, ps4, M4, acc ++ [y], xs ++ [u], (xx.trans st3.ext).trans st4.ext, s4.aside hDg4 hDp4, upd_same, hDp4, hDg4, ra4.append (Reps.cons ru Reps.nil), ?_⟩
            rw [hid_upd]
            exact p4
          · exact p4.elim
end
end DL
end
section
set_option Elab.async false
set_option linter.all false
set_option maxRecDepth 100000
set_option maxHeartbeats 1000000
namespace DL
open PySem PySem.Spec PyProof.Rows L2
section
variable {X : Cx} {W : WX}
abbrev DTs (X : Cx) (W : WX) (ifs : List Expr) (f : Env → C Bool) : Prop := PTs X ifs (TB X.K W f)
def tYesD : Env → C Bool := fun _ => C.pure true
theorem dts_nil : DTs X W [] tYesD := ⟨fun pins s σ H Q I h => pts_nil.run pins s σ H Q I (by
  obtain ⟨ρ, G, ps, M, s0, sl, p⟩ := h
  exact p G ps H Stp.refl s0)⟩
theorem dts_one {c : Expr} {t : Env → C Bool} (h : DT X W c t) : DTs X W [c] t := pts_one h
variable {elt tg iter : Expr} {ifs : List Expr} {scope : Scope} {own : List (Str × Nat)} {pos spos : Pos} {it : Env → C (List D)} {q : Pat} {t : Env → C Bool} {fe : Env → C D}
theorem de_lc (hc : X.calm = true) (hN : X.N.Nodup) (hi : DI X W tg iter it) (ok : BlkOk X.N X.env.scope scope own) (hq : ∀ i ∈ q.slots, i ∈ own.map (·.2))
    (hg : ∀ (s : Shared) (H : Hp) (C : Addr) (cl : List (Str × Addr)) (fp : List Addr), DG (X.blk s H scope (compEnvC scope cl C X.env) fp) tg q)
    (ht : ∀ (s : Shared) (H : Hp) (C : Addr) (cl : List (Str × Addr)) (fp : List Addr), DTs (X.blk s H scope (compEnvC scope cl C X.env) fp) W0 ifs t)
    (he : ∀ (s : Shared) (H : Hp) (C : Addr) (cl : List (Str × Addr)) (fp : List Addr), DE (X.blk s H scope (compEnvC scope cl C X.env) fp) W0 elt fe) (hs : ∀ x, foldedSetIterable iter X.env x = pure x := by intro _; rfl) :
    DE X W (.ListComp elt [⟨tg, iter, ifs, 0⟩] scope pos) (dLc it q t fe (own.map (·.2))) :=
  pe_imp (pe_lc (g := gD X.K q) hc hN hi ok hg ht he hs) (lc_imp (fun _ _ _ h => h) hq)
theorem ds_setLc (i : Nat) {y : Str} {py : Pos} (hc : X.calm = true) (hN : X.N.Nodup) (hi : DI X W tg iter it) (ok : BlkOk X.N X.env.scope scope own) (hq : ∀ i ∈ q.slots, i ∈ own.map (·.2))
    (hg : ∀ (s : Shared) (H : Hp) (C : Addr) (cl : List (Str × Addr)) (fp : List Addr), DG (X.blk s H scope (compEnvC scope cl C X.env) fp) tg q)
    (ht : ∀ (s : Shared) (H : Hp) (C : Addr) (cl : List (Str × Addr)) (fp : List Addr), DTs (X.blk s H scope (compEnvC scope cl C X.env) fp) W0 ifs t)
    (he : ∀ (s : Shared) (H : Hp) (C : Addr) (cl : List (Str × Addr)) (fp : List Addr), DE (X.blk s H scope (compEnvC scope cl C X.env) fp) W0 elt fe)
    (hsw : swapsWith (.ListComp elt [⟨tg, iter, ifs, 0⟩] scope pos) (some (.Name y py)) spos.line X.env = pure true) (hy : X.N[i]? = some y := by rfl) (hyl : X.env.scope.names.lookup y = some .local := by rfl) (hs : ∀ x, foldedSetIterable iter X.env x = pure x := by intro _; rfl) :
    DS X W (.Assign [.Name y py] (.ListComp elt [⟨tg, iter, ifs, 0⟩] scope pos) spos) (sAsg (dLc it q t fe (own.map (·.2))) (.nm i)) := by
  have ps := ps_setLc (X := X) (g := gD X.K q) (te := TD X.K W0 fe) (tt := TB X.K W0 t) (spos := spos) (py := py) (pos := pos) hc hN hy hyl hsw hi ok hg ht he hs
  refine ⟨fun pins s σ H Dn I h => ps.run pins s σ H Dn I ?_⟩
  refine lc_imp (fun _ _ _ h => h) hq σ H _ (td_mono (asg_post h) fun v H1 h2 => ?_)
  obtain ⟨ρ, G, ps, M, d, ρ', s0, sl, rd, e, k⟩ := h2
  unfold Pat.put at e
  cases e
  exact k _ (sl.set rd (by rw [I.len]; exact (List.getElem?_eq_some_iff.mp hy).1)) Agree.set
end
/-! ### a body's context -/
structure Ctx (X : Cx) (W : WX) (k : Nat) : Prop where
  tk : Takes X W
  hr : Room k X.A
  hG : X.A.guards = some []
  calm : X.calm = true
  po : PassesOwn (model X.prog X.w) X.A X.env X.xe
theorem Ctx.hu {X : Cx} {W : WX} {k : Nat} (c : Ctx X W k) : X.A.units + 64 < cLine := c.hr.units
theorem Ctx.blk {X : Cx} {W : WX} {k : Nat} (c : Ctx X W k) (s : Shared) (H : Hp) (scope : Scope) (cenv : PySem.Env) (fp : List Addr) : Ctx (X.blk s H scope cenv fp) W0 k :=
  ⟨takes0, c.hr, c.hG, c.calm, PassesOwn.never⟩
/-- what a body's outcome is worth for the caller -/
def outC : Out → C D
  | .nx _ => C.pure .non
  | .rt d => C.pure d
  | .ex c fn ds _ => fun M => .err c fn ds M
  | _ => C.bad
/-- a def by its body: so many slots, so many parameters -/
def dDef (n np : Nat) (b : SF) : List D → C D := fun ds M => if ds.length = np then (match b (ds.map some ++ List.replicate (n - np) none) M with
  | .ok o M' => outC o M'
  | _ => .bad) else .bad
theorem slots_start {K : PySem.W.Frag} {G : Hp} {ps : List Addr} {ds : List D} {vs : List V} (N : List Str) (r : Reps K G ps ds vs) : Slots K G ps (ds.map some ++ List.replicate (N.length - ds.length) none) (L2.start N vs) := fun i d e => by
  by_cases hi : i < ds.length
  · rw [List.getElem?_append_left (by rw [List.length_map]; exact hi), List.getElem?_map] at e
    obtain ⟨d', e1, e2⟩ := Option.map_eq_some_iff.mp e
    cases e2
    obtain ⟨v, hv, rv⟩ := r.get e1
    refine ⟨v, ?_, rv⟩
    unfold L2.start
    rw [List.getElem?_append_left (by rw [List.length_map]; exact (List.getElem?_eq_some_iff.mp hv).1), List.getElem?_map, hv]
    rfl
  · rw [List.getElem?_append_right (by rw [List.length_map]; omega), List.getElem?_replicate] at e
    split at e <;> cases e
section
variable {P : Program} {w : World} {K : PySem.W.Frag} {mg : Str → Option Value} {base : Heap}
/-- a def of the text keeps the promise that its body tells -/
theorem fn_def {x : Str} {st : Stmt} {f : Addr} {fd : FuncData} {N ps : List Str} {k : Nat} {b : SF} (F : Fun K x x st f fd) (S : FnScope N ps (defScope st))
    (hbody : ∀ (cdv : Value) (A : Around) (outer : List PySem.Env) (s : Shared) (H : Hp) (E : XK), Ctx (cxOf (L2.CX P w) P w K mg base N x (defScope st) f cdv A outer s H E) (fun c d _ H' => E c d H') k →
      DSs (cxOf (L2.CX P w) P w K mg base N x (defScope st) f cdv A outer s H E) (fun c d _ H' => E c d H') (defBody st) b) {n np k' : Nat} {F' : List D → C D} (hF : F' = dDef n np b := by rfl) (hn : N.length = n := by rfl) (hp : ps.length = np := by rfl) (hk : k + 1 = k' := by rfl) : FnG P w K mg base k' f fd ps F' := by
  subst hn hp hk hF
  obtain ⟨oc, od, kV, doc, pm, an, cdv, ct, osl, rfl, lk, hcd⟩ := F.ex
  refine ⟨fun ds M h => ?_, fun A outer s H args us vs Q E hg hr e0 hb r hsp => ?_⟩
  · unfold dDef at h
    by_cases z : ds.length = ps.length
    · exact z
    · rw [if_neg z] at h; exact (h rfl).elim
  obtain ⟨G, sp, M, ds, s0, rr, p⟩ := hsp
  have hld : ds.length = ps.length := by
    by_cases z : ds.length = ps.length
    · exact z
    · unfold dDef at p; rw [if_neg z] at p; exact p.elim
  have hl : vs.length = ps.length := by rw [← rr.len]; exact hld
  have KX : K.In s.heap := e0.mod.kin.keeps fun b o e => (e0.bs b o e).1
  have lim : s.heap.NoLimit := e0.mod.nolimit.keeps fun b o e => (e0.bs b o e).1
  have hkind : ∀ y ∈ ps.zip us, (defScope st).names.lookup y.1 = some .local ∨ ((defScope st).names.lookup y.1 = some .cell ∧ ((cellsFrom (s.heap.objs.size + 1) (defScope st).names []).lookup y.1).isSome = true) := fun ⟨n, v⟩ hy =>
    (S.par n (List.of_mem_zip hy).1).elim .inl fun q => .inr ⟨q, PySem.W.cellsFrom_some _ _ _ (.inl q)⟩
  refine codeAny_call_function hr.depth (KX _ _ lk) rfl S.co S.gen rfl (PySem.W.codeRec_of KX hcd) (hb _ _ _ _ ?_)
  refine wpAny_newFunctionEnv_cells S.kind hkind fun env he s1 x1 => ?_
  subst he
  refine ⟨lim.keeps x1.toInCall.keep, codeAny_func ?_⟩
  have ctx : Ctx (cxOf (L2.CX P w) P w K mg base N x (defScope st) f cdv A outer s H E) (fun c d _ H' => E c d H') k := ⟨takes_of rfl rfl rfl rfl, hr.deeper _, hg, rfl, passes_of rfl⟩
  have I : L2.Inv (cxOf (L2.CX P w) P w K mg base N x (defScope st) f cdv A outer s H E) [] (L2.start N vs) H s1 := inv_start S hr.hd e0 hl r x1
  have q : TSD K (fun c d _ H' => E c d H') b { nx := fun _ H' => Q .non H', rt := Q } (L2.start N vs) H := by
    refine ⟨ds.map some ++ List.replicate (N.length - ds.length) none, G, sp, M, s0, slots_start N rr, ?_⟩
    unfold dDef at p
    rw [if_pos hld, ← hld] at p
    cases z : b (ds.map some ++ List.replicate (N.length - ds.length) none) M with
    | ok o M' =>
      rw [z] at p
      cases o with
      | nx ρ => exact fun G' ps' H' st s' σ' _ => p G' ps' H' st s' .non Rep.non_of
      | rt d => exact p
      | ex c fn es ρ => exact fun G' ps' H' st s' σ' C dd hc _ er => p C dd G' ps' H' hc st s' er
      | bk ρ => exact p.elim
      | ct ρ => exact p.elim
    | err c fn es M' => rw [z] at p; exact p.elim
    | bad => rw [z] at p; exact p.elim
  refine wpAny_mono ((hbody cdv A outer s H E ctx).run [] s1 (L2.start N vs) H _ I q) (fun fl s' hs => ?_) fun e s' hs => hs
  have fin : ∀ {σ' : L2.St} {H' : Hp} {v : V} {u : Value}, L2.Inv (cxOf (L2.CX P w) P w K mg base N x (defScope st) f cdv A outer s H E) [] σ' H' s' → RelV v u → Q v H' → CE outer P w H s Q u s' :=
    fun {σ' H' v u} J rv q => ⟨v, H', J.os, J.bare, J.base, J.hok, rv, q⟩
  cases fl with
  | ret u => obtain ⟨v, σ', H', J, rv, q⟩ := hs; exact fin J rv q
  | next => obtain ⟨σ', H', J, q⟩ := hs; exact fin (v := V.non) (u := Value.none) J rfl q
  | brk => obtain ⟨_, _, _, q⟩ := hs; exact False.elim q
  | cont => obtain ⟨_, _, _, q⟩ := hs; exact False.elim q
end
end DL
end
section
set_option Elab.async false
set_option linter.all false
set_option maxRecDepth 100000
set_option maxHeartbeats 1000000
namespace DL
open PySem PySem.Spec PyProof.Rows L2
/-- the heap as it stands, nothing tracked but (perhaps) the script -/
structure Begin (P : Program) (w : World) (K : PySem.W.Frag) (s : Shared) (H : Hp) (a : Addr) : Prop where
  ok : HOk P w H s.heap
  only : ∀ b o, H b = some o → b = a ∧ ∃ ob xs, o = .frz ob (.lst xs)
  fun_ : H a ≠ none → K.lookup a = none
section
variable {P : Program} {w : World} {K : PySem.W.Frag} {mg mb : Str → Option Value} {k : Nat} {fa a : Addr} {fd : FuncData} {x : Str} {F : List D → C D} {s : Shared} {vs : List Value} {ns : List Int}
theorem keepHid {H : Hp} (h : Begin P w K s H a) (obj : ∃ o, s.heap.get? a = some o ∧ ∀ es ep, o.data ≠ .dict es ep) {b : Addr} {m : Str → Option Value} (hn : s.heap.Ns b m) : (hidT s.heap H).Ns b m := by
  obtain ⟨o, es, ep, e, d, r⟩ := hn
  refine ⟨o, es, ep, hidT_get e ?_, d, r⟩
  cases q : H b with
  | none => rfl
  | some u =>
    obtain ⟨o', e', nd⟩ := obj
    have hb := (h.only b u q).1
    rw [hb, e'] at e
    cases e
    exact (nd es ep d).elim
theorem run_law (KX : K.In s.heap) (hns : s.heap.Ns mainGlobals mg) (hmb : s.heap.Ns builtinsNs mb) (hbb : ∀ y : Str, y ≠ "__name__" → mb y = bootBuiltins y) (hlim : s.heap.NoLimit) (hgen : s.gens = #[])
    (obj : s.heap.get? a = some { cls := .type "list", data := .seq vs.toArray }) (hr : Room k callerA) (hF : ∀ base : Heap, K.In base → base.Ns mainGlobals mg → FnG P w K mg base k fa fd [x] F)
    (hbind : ∀ (s : Shared) (u : Value), BindsTo s fd ⟨[u], []⟩ [(x, u)]) (hlaw : ∃ M', F [.fz (ns.map D.int)] [] = .ok (.bl true) M') {H : Hp} (h : Begin P w K s H a) (hS : SqL K H a (ns.map V.int)) :
    codeAny (model P w) callerA (.call (.ref fa) ⟨[.ref a], []⟩) (fun q s' => q = .ok (.ret (.bool true)) ∧ OldK s.heap s'.heap ∧ s'.os = s.os ∧ AllBare s'.gens) s := by
  have nd : ∃ o, s.heap.get? a = some o ∧ ∀ es ep, o.data ≠ .dict es ep := ⟨_, obj, fun es ep z => by cases z⟩
  have inb : K.In (hidT s.heap H) := fun b o e => by
    refine hidT_get (KX b o e) ?_
    cases q : H b with
    | none => rfl
    | some u =>
      have hb := (h.only b u q).1
      subst hb
      rw [h.fun_ (by rw [q]; simp)] at e
      cases e
  have gl : (hidT s.heap H).Ns mainGlobals mg := keepHid h nd hns
  have md : Mod K mg (hidT s.heap H) := ⟨inb, gl, ⟨mb, keepHid h nd hmb, hbb⟩, hlim.elim fun m q => ⟨m, keepHid h nd q.1, q.2⟩⟩
  have e0 : Env0 P w K mg (hidT s.heap H) callerA [] s H :=
    { frames := rfl, mod := md, bs := fun b o e => of_hidT e, bsz := Nat.le_of_eq (hidT_size _ _), funs := trivial, frf := fun b hb => (List.not_mem_nil hb).elim, hok := h.ok, bare := .of_eq hgen }
  have sp : spD K F [.ref a] H (fun v _ => v = .bl true) (fun _ _ _ => False) := by
    obtain ⟨M', e⟩ := hlaw
    have s0 : Sto0 K H [] [] H := ⟨fun _ _ z => z, fun n mo z => by simp at z, List.nodup_nil, rfl, fun n b z => by simp at z⟩
    refine ⟨H, [], [], [.fz (ns.map D.int)], s0, Reps.cons (by unfold Rep; exact ⟨a, _, rfl, hS, Reps.ints ns⟩) Reps.nil, ?_⟩
    rw [e]
    intro G' ps' H' _ _ v r
    unfold Rep at r
    exact r
  refine codeAny_mono ((hF _ inb gl).go callerA [] s H ⟨[.ref a], []⟩ [.ref a] [.ref a] _ _ rfl hr e0 (hbind s (.ref a)) (.cons rfl .nil) sp) fun q s' z => ?_
  cases q with
  | error er => obtain ⟨_, _, _, _, _, _, _, _, _, _, _, _, bad⟩ := z; exact bad.elim
  | ok fl =>
    cases fl with
    | next => exact False.elim z
    | brk => exact False.elim z
    | cont => exact False.elim z
    | ret u =>
      obtain ⟨v, H', os, bare, un, ok', rv, ev⟩ := z
      have ev : v = .bl true := ev
      subst ev
      have eu : u = Value.bool true := rv
      subst eu
      refine ⟨rfl, OldK.of_keep fun b o e => ?_, os, bare⟩
      cases q : H b with
      | none => exact un.keep b o e q (fun z => (List.not_mem_nil z).elim) (fun z => (List.not_mem_nil z).elim)
      | some u =>
        obtain ⟨_, ob, xs, eo⟩ := h.only b u q
        subst eo
        have e1 := (h.ok b _ q).1
        have e2 := (ok' b _ (un.frzs b ob _ q)).1
        rw [e] at e1
        cases e1
        exact e2
theorem law_D (KX : K.In s.heap) (hns : s.heap.Ns mainGlobals mg) (hmb : s.heap.Ns builtinsNs mb) (hbb : ∀ y : Str, y ≠ "__name__" → mb y = bootBuiltins y) (hlim : s.heap.NoLimit) (hgen : s.gens = #[])
    (obj : s.heap.get? a = some { cls := .type "list", data := .seq vs.toArray }) (hi : IntsAre vs ns) (hl : ns.length ≤ sizeLine) (hr : Room k callerA) (hF : ∀ base : Heap, K.In base → base.Ns mainGlobals mg → FnG P w K mg base k fa fd [x] F)
    (hbind : ∀ (s : Shared) (u : Value), BindsTo s fd ⟨[u], []⟩ [(x, u)]) (hlaw : ∃ M', F [.fz (ns.map D.int)] [] = .ok (.bl true) M') :
    codeAny (model P w) callerA (.call (.ref fa) ⟨[.ref a], []⟩) (fun q s' => q = .ok (.ret (.bool true)) ∧ OldK s.heap s'.heap ∧ s'.os = s.os ∧ AllBare s'.gens) s := by
  have rv := vals_ints hi
  cases hk : K.lookup a with
  | some o =>
    have e := KX a o hk
    rw [obj] at e
    cases e
    refine run_law (H := fun _ => none) KX hns hmb hbb hlim hgen obj hr hF hbind hlaw ⟨fun b u z => (nomatch (show (none : Option HO) = some u from z)), fun b u z => (nomatch (show (none : Option HO) = some u from z)), fun z => (z rfl).elim⟩ (.inr ⟨_, vs.toArray, _, hk, rfl, rfl, rfl, ?_, by simpa using rv⟩)
    rw [List.size_toArray, hi.length]
    exact hl
  | none =>
    let H : Hp := upd (fun _ => none) a (.frz { cls := .type "list", data := .seq vs.toArray } (.lst (ns.map V.int)))
    have at_ : ∀ b o, H b = some o → b = a ∧ o = .frz { cls := .type "list", data := .seq vs.toArray } (.lst (ns.map V.int)) := fun b o z => by
      by_cases hb : b = a
      · subst hb; have q := upd_same.symm.trans z; cases q; exact ⟨rfl, rfl⟩
      · have q := (upd_ne hb).symm.trans z; cases q
    refine run_law (H := H) KX hns hmb hbb hlim hgen obj hr hF hbind hlaw ⟨fun b o z => ?_, fun b o z => ?_, fun _ => hk⟩ (.inl (.inr ⟨_, upd_same⟩))
    · obtain ⟨hb, ho⟩ := at_ b o z
      subst hb; subst ho
      exact ⟨obj, by rw [List.length_map]; exact hl, vs, _, rv, obj⟩
    · obtain ⟨hb, ho⟩ := at_ b o z
      exact ⟨hb, _, _, ho⟩
end
/-- the goal that k_head leaves, from the law over data -/
theorem walk_D {l : PySem.W.OpenLaw} {n k : Nat} {q : Program} {loose : List Str} {XP : (Str → Option Value) → Heap → Prop} {YP : World → Heap → Prop} {d : DefRec} {K : Params → PySem.W.Frag} {x : Str} {F : World → List D → C D}
    (hn : l.most = some n) (hn2 : n ≤ sizeLine) (hdf : d.params.defaults = []) (hr : Room k callerA) (hY : ∀ (w : World) (h : Heap), YP w h → (K w.params).In h)
    (hF : ∀ (w : World) (mg : Str → Option Value) (fa : Addr) (h : Heap), (K w.params).In h → h.Ns mainGlobals mg → mg d.name = some (.ref fa) →
      ∃ fd : FuncData, (∀ (s : Shared) (u : Value), BindsTo s fd ⟨[u], []⟩ [(x, u)]) ∧ ∀ base : Heap, (K w.params).In base → base.Ns mainGlobals mg → FnG l.prog w (K w.params) mg base k fa fd [x] (F w))
    (hlaw : ∀ (w : World) (ns : List Int), ns.length ≤ n → (∀ z ∈ ns, Builtin.Int.intBits z ≤ 1048576) → ∃ M', F w [.fz (ns.map D.int)] [] = .ok (.bl true) M') :
    PySem.W.WalkO q loose XP YP l.row.toRowW d [] (fun f vs => PySem.call f vs) := by
  refine Att.attach_callB hn hdf fun w s0 s1 mg mb fa o pm cd doc a vs ns Gr Y ho hd hcd hmg hobj hin hlen hbits hg => ?_
  obtain ⟨fd, hb, hF⟩ := hF w mg fa _ (hY w _ Y) Gr.T.g hmg
  exact law_D (hY w _ Y) Gr.T.g Gr.T.b Gr.T.builtins Gr.T.nolimit hg hobj hin (Nat.le_trans hlen hn2) hr hF hb (hlaw w ns hlen hbits)
end DL
end
section
set_option Elab.async false
set_option linter.all false
set_option maxRecDepth 100000
set_option maxHeartbeats 1000000
/-! more rules: what is never reached, chained comparison, zip, enumerate, sum, all, any, bool, lcm, op= -/
namespace DL
open PySem PySem.Spec PyProof.Rows L2 RZ
section
variable {X : Cx} {W : WX} {a b c e e2 : Expr} {f g h : Env → C D} {gl : Env → C (List D)} {k k' : D → D → C D} {r r' : R2} {pos p tpos : Pos}
/-- an expression that is never reached -/
def dNever : Env → C D := fun _ => C.bad
theorem de_never : DE X W e dNever := ⟨fun pins s σ H Q I h => by
  obtain ⟨ρ, G, ps, M, s, sl, p⟩ := h
  exact p.elim⟩
def dChain (k k' : D → D → C D) (f g h : Env → C D) : Env → C D := fun ρ => C.bind (f ρ) fun x => C.bind (g ρ) fun y => C.bind (k x y) fun z => C.bind (asB z) fun b => if b = true then C.bind (h ρ) fun w => k' y w else C.pure (.bl false)
theorem chain_of (hk : OpD X W k r) (hk' : OpD X W k' r') : ∀ σ H Q, TD X.K W (dChain k k' f g h) σ H Q → tChain r r' (TD X.K W f) (TD X.K W g) (TD X.K W h) σ H Q := fun σ H Q q =>
  td_mono (seq1 (k := fun ρ x => C.bind (g ρ) fun y => C.bind (k x y) fun z => C.bind (asB z) fun b => if b = true then C.bind (h ρ) fun w => k' y w else C.pure (D.bl false)) q) fun v H1 h2 =>
  td_mono (At1.next (k := fun ρ x y => C.bind (k x y) fun z => C.bind (asB z) fun b => if b = true then C.bind (h ρ) fun w => k' y w else C.pure (D.bl false)) h2) fun u H2 h3 => hk σ v u H2 _ (by
    obtain ⟨ρ, G, ps, M, x, y, s, e, r1, r2, p⟩ := h3
    refine ⟨ρ, G, ps, M, x, y, s, e, r1, r2, post_bind (k := fun z => C.bind (asB z) fun b => if b = true then C.bind (h ρ) fun w => k' y w else C.pure (D.bl false)) p fun z M' G' ps' H' _ st s' q v' rv => ?_⟩
    cases z with
    | bl b =>
      unfold Rep at rv
      refine ⟨b, rv, ?_⟩
      cases b with
      | true =>
        rw [if_pos rfl]
        replace q : Post X.K W σ (PD X.K Q) G' ps' H' (C.bind (h ρ) (fun w => k' y w) M') := q
        exact ⟨ρ, G', ps', M', s', e.mono st.ext, post_bind (k := fun w => k' y w) q fun w M2 G2 ps2 H3 _ st2 s2 q2 v2 rv2 => hk' σ u v2 H3 Q ⟨ρ, G2, ps2, M2, y, w, s2, (e.mono st.ext).mono st2.ext, (r2.mono st.ext).mono st2.ext, rv2, q2⟩⟩
      | false =>
        rw [if_neg (by decide)]
        exact q G' ps' H' Stp.refl s' _ Rep.bl_of
    | _ => exact q.elim)
theorem de_chain {op op' : CmpOp} (ho : OpR X (compareOp op) r) (hk : OpD X W k r) (ho' : OpR X (compareOp op') r') (hk' : OpD X W k' r') (ha : DE X W a f) (hb : DE X W b g) (hc : DE X W c h) (hm : lastMarks [op, op'] [b, c] = false := by with_unfolding_all rfl) :
    DE X W (.Compare a [op, op'] [b, c] pos) (dChain k k' f g h) := pe_imp (pe_chain ho ho' ha hb hc hm) (chain_of hk hk')
theorem dt_chain {op op' : CmpOp} (ho : OpR X (compareOp op) r) (hk : OpD X W k r) (ho' : OpR X (compareOp op') r') (hk' : OpD X W k' r') (ha : DE X W a f) (hb : DE X W b g) (hc : DE X W c h) (hm : lastMarks [op, op'] [b, c] = false := by with_unfolding_all rfl) :
    DT X W (.Compare a [op, op'] [b, c] pos) (tV (dChain k k' f g h)) :=
  pt_imp (pt_chain ho ho' ha hb hc hm) fun σ H Q q => chain_of hk hk' σ H _ (td_mono (seq1 (k := fun _ x => asB x) q) fun v H1 h2 => asB_out h2)
/-! builtins -/
def intsD : List D → Option (List Int)
  | [] => some []
  | .int i :: ds => (intsD ds).map (i :: ·)
  | _ => none
def blsD : List D → Option (List Bool)
  | [] => some []
  | .bl i :: ds => (blsD ds).map (i :: ·)
  | _ => none
theorem intsD_of {K : PySem.W.Frag} {G : Hp} {ps : List Addr} : ∀ {ds : List D} {xs : List V} {ns : List Int}, Reps K G ps ds xs → intsD ds = some ns → xs = ns.map V.int
  | [], xs, ns, r, e => by unfold Reps at r; subst r; cases e; rfl
  | d :: ds, xs, ns, r, e => by
    obtain ⟨v, r', e1, r1, r2⟩ := r.uncons
    subst e1
    cases d with
    | int i =>
      unfold Rep at r1; subst r1
      obtain ⟨ms, q, e⟩ := Option.map_eq_some_iff.mp e
      subst e
      rw [intsD_of r2 q]; rfl
    | _ => cases e
theorem blsD_of {K : PySem.W.Frag} {G : Hp} {ps : List Addr} : ∀ {ds : List D} {xs : List V} {ns : List Bool}, Reps K G ps ds xs → blsD ds = some ns → xs = ns.map V.bl
  | [], xs, ns, r, e => by unfold Reps at r; subst r; cases e; rfl
  | d :: ds, xs, ns, r, e => by
    obtain ⟨v, r', e1, r1, r2⟩ := r.uncons
    subst e1
    cases d with
    | bl i =>
      unfold Rep at r1; subst r1
      obtain ⟨ms, q, e⟩ := Option.map_eq_some_iff.mp e
      subst e
      rw [blsD_of r2 q]; rfl
    | _ => cases e
def dSum : List D → C D
  | [.lst ds] => C.of ((intsD ds).map fun ns => .int ns.sum)
  | _ => C.bad
def dAll : List D → C D
  | [.lst ds] => C.of ((blsD ds).map fun ns => .bl (ns.all id))
  | _ => C.bad
def dAny : List D → C D
  | [.lst ds] => C.of ((blsD ds).map fun ns => .bl (ns.any id))
  | _ => C.bad
theorem sum_D : CallD X W dSum (rSum X.K) := fun σ vs H Q h => by
  obtain ⟨G, ps, M, xs, s, r, p⟩ := h.out
  unfold dSum at p
  split at p
  · obtain ⟨v, e, r1⟩ := r.one; subst e; unfold Rep at r1
    obtain ⟨a, ys, e, g, rr⟩ := r1; subst e
    obtain ⟨d, e, p⟩ := post_of p
    obtain ⟨ns, e1, e2⟩ := Option.map_eq_some_iff.mp e
    subst e2
    have := intsD_of rr e1
    subst this
    exact ⟨a, ns, rfl, .inl (.inl (s.sub _ _ g)), p G ps H Stp.refl s _ Rep.int_of⟩
  · exact p.elim
theorem all_D : CallD X W dAll (rAll X.K) := fun σ vs H Q h => by
  obtain ⟨G, ps, M, xs, s, r, p⟩ := h.out
  unfold dAll at p
  split at p
  · obtain ⟨v, e, r1⟩ := r.one; subst e; unfold Rep at r1
    obtain ⟨a, ys, e, g, rr⟩ := r1; subst e
    obtain ⟨d, e, p⟩ := post_of p
    obtain ⟨ns, e1, e2⟩ := Option.map_eq_some_iff.mp e
    subst e2
    have := blsD_of rr e1
    subst this
    exact ⟨a, ns, rfl, .inl (.inl (s.sub _ _ g)), p G ps H Stp.refl s _ Rep.bl_of⟩
  · exact p.elim
theorem any_D : CallD X W dAny (rAny X.K) := fun σ vs H Q h => by
  obtain ⟨G, ps, M, xs, s, r, p⟩ := h.out
  unfold dAny at p
  split at p
  · obtain ⟨v, e, r1⟩ := r.one; subst e; unfold Rep at r1
    obtain ⟨a, ys, e, g, rr⟩ := r1; subst e
    obtain ⟨d, e, p⟩ := post_of p
    obtain ⟨ns, e1, e2⟩ := Option.map_eq_some_iff.mp e
    subst e2
    have := blsD_of rr e1
    subst this
    exact ⟨a, ns, rfl, .inl (.inl (s.sub _ _ g)), p G ps H Stp.refl s _ Rep.bl_of⟩
  · exact p.elim
def dBool : List D → C D
  | [.int i] => C.pure (.bl (i != 0))
  | [.bl b] => C.pure (.bl b)
  | _ => C.bad
theorem bool_D : CallD X W dBool (fun xs H Q => (∃ i, xs = [.int i] ∧ Q (.bl (i != 0)) H) ∨ ∃ k, xs = [.bl k] ∧ Q (.bl k) H) := fun σ vs H Q h => by
  obtain ⟨G, ps, M, xs, s, r, p⟩ := h.out
  unfold dBool at p
  split at p
  · obtain ⟨v, e, r1⟩ := r.one; subst e; unfold Rep at r1; subst r1
    exact .inl ⟨_, rfl, p G ps H Stp.refl s _ Rep.bl_of⟩
  · obtain ⟨v, e, r1⟩ := r.one; subst e; unfold Rep at r1; subst r1
    exact .inr ⟨_, rfl, p G ps H Stp.refl s _ Rep.bl_of⟩
  · exact p.elim
/-! math.lcm -/
def lcmOk (i j : Int) : Bool := decide (i.natAbs < 2 ^ 13000) && decide (j.natAbs < 2 ^ 13000)
def rLcm : List V → Hp → VK → Prop := fun vs H Q => ∃ a b : Int, vs = [.int a, .int b] ∧ lcmOk a b = true ∧ Q (.int ((Nat.lcm a.natAbs b.natAbs : Nat) : Int)) H
theorem log_le {n k : Nat} (h : n < 2 ^ k) : n.log2 ≤ k := by
  by_cases z : n = 0
  · subst z; rw [Nat.log2_zero]; exact Nat.zero_le _
  · exact Nat.le_of_lt ((Nat.log2_lt z).mpr h)
theorem lcm_lt {m n : Nat} (hm : m < 2 ^ 13000) (hn : n < 2 ^ 13000) : Nat.lcm m n < 2 ^ 26001 := by
  have h1 : Nat.lcm m n ≤ m * n := by
    unfold Nat.lcm
    exact Nat.div_le_self _ _
  have h2 : m * n ≤ 2 ^ 13000 * 2 ^ 13000 := Nat.mul_le_mul (Nat.le_of_lt hm) (Nat.le_of_lt hn)
  rw [← Nat.pow_add] at h2
  have h3 : (2 : Nat) ^ (13000 + 13000) < 2 ^ 26001 := Nat.pow_lt_pow_right (by decide) (by decide)
  exact Nat.lt_of_le_of_lt (Nat.le_trans h1 h2) h3
theorem cr_lcm : CallR X (.builtin "math.lcm") rLcm := by
  intro pins s σ H vs us Q I r h
  obtain ⟨a, b, rfl, ok, q⟩ := h
  obtain ⟨t, u, rfl⟩ := Vals.int2 r
  unfold lcmOk at ok
  simp only [Bool.and_eq_true, decide_eq_true_eq] at ok
  have e1 : Nat.lcm 1 a.natAbs = a.natAbs := by simp [Nat.lcm]
  have h1 : (max 1 a.natAbs).log2 ≤ 13000 := log_le (Nat.max_lt.mpr ⟨Nat.one_lt_two_pow (by decide), ok.1⟩)
  have h2 : (max a.natAbs b.natAbs).log2 ≤ 13000 := log_le (Nat.max_lt.mpr ⟨ok.1, ok.2⟩)
  have h3 : ((((Nat.lcm 1 a.natAbs).lcm b.natAbs : Nat) : Int)).natAbs.log2 < bitsLine := by
    rw [e1, Int.natAbs_natCast]
    have := log_le (lcm_lt ok.1 ok.2)
    have : 26001 < bitsLine := by decide
    omega
  have g := PySem.W.mg_run_lcm a t b u (by omega) (by omega) h3
  rw [e1] at g
  exact call_function_meets PySem.W.MGF.kind_lcm PySem.W.MGF.plain_lcm PySem.W.MGF.entry_lcm (PySem.W.MGF.args_lcm _ _) g.meets ⟨.int _, H, I.tok _, ⟨_, rfl⟩, q⟩
def dLcm : List D → C D
  | [.int i, .int j] => if lcmOk i j = true then C.pure (.int ((Nat.lcm i.natAbs j.natAbs : Nat) : Int)) else C.bad
  | _ => C.bad
theorem lcm_D : CallD X W dLcm rLcm := fun σ vs H Q h => by
  obtain ⟨G, ps, M, xs, s, r, p⟩ := h.out
  unfold dLcm at p
  split at p
  · obtain ⟨v, u, e, r1, r2⟩ := r.two; subst e; unfold Rep at r1 r2; subst r1; subst r2
    split at p
    · rename_i hz
      exact ⟨_, _, rfl, hz, p G ps H Stp.refl s _ Rep.int_of⟩
    · exact p.elim
  · exact p.elim
/-! zip and enumerate -/
def zipD : List D → List D → List D
  | x :: xs, y :: ys => .tup [x, y] :: zipD xs ys
  | _, _ => []
theorem zipD_get : ∀ {xs ys : List D} {i : Nat} {d : D}, (zipD xs ys)[i]? = some d → ∃ x y, xs[i]? = some x ∧ ys[i]? = some y ∧ d = .tup [x, y]
  | [], _, i, d, e => by simp [zipD] at e
  | _ :: _, [], i, d, e => by simp [zipD] at e
  | x :: xs, y :: ys, 0, d, e => by simp only [zipD, List.getElem?_cons_zero, Option.some.injEq] at e; exact ⟨x, y, rfl, rfl, e.symm⟩
  | x :: xs, y :: ys, i + 1, d, e => by
    simp only [zipD, List.getElem?_cons_succ] at e ⊢
    exact zipD_get e
theorem zipD_len : ∀ {xs ys : List D}, (zipD xs ys).length = min xs.length ys.length
  | [], _ => by simp [zipD]
  | _ :: _, [] => by simp [zipD]
  | x :: xs, y :: ys => by simp only [zipD, List.length_cons, zipD_len]; omega
theorem pair_new {K : PySem.W.Frag} {G : Hp} {ps : List Addr} {M : Sto} {H : Hp} {l : Addr} {x y : D} {v u : V} (s : Sto0 K G ps M H) (hn : H l = none) (r1 : Rep K G ps x v) (r2 : Rep K G ps y u) :
    ∃ G'', Stp G ps H G'' ps (upd H l (.tup [v, u])) ∧ Sto0 K G'' ps M (upd H l (.tup [v, u])) ∧ Rep K G'' ps (.tup [x, y]) (.ref l) := by
  have z := s.stp (o := .tup [v, u]) hn
  refine ⟨_, z, s.new hn, ?_⟩
  unfold Rep
  exact ⟨l, _, rfl, upd_same, Reps.cons (r1.mono z.ext) (Reps.cons (r2.mono z.ext) Reps.nil)⟩
theorem walks_zipL {K : PySem.W.Frag} {G : Hp} {ps : List Addr} {a b : Addr} {xs ys : List V} {ds es : List D} (h : SqL K G a xs) (r : Reps K G ps ds xs) (h2 : SqL K G b ys) (r2 : Reps K G ps es ys) : Walks K G ps (Itz K a b) (zipD ds es) := fun i G' ps' M' H' x s => by
  have hs : SqL K H' a xs := s.seqL (x.seqL h)
  have hs2 : SqL K H' b ys := s.seqL (x.seqL h2)
  refine ⟨fun hl => ⟨xs, ys, hs, hs2, by rw [zipD_len] at hl; rw [← r.len, ← r2.len]; omega⟩, fun d e => ?_⟩
  obtain ⟨d1, d2, e1, e2, e3⟩ := zipD_get e
  obtain ⟨v1, g1, rv1⟩ := r.get e1
  obtain ⟨v2, g2, rv2⟩ := r2.get e2
  refine ⟨⟨xs, ys, v1, v2, hs, hs2, g1, g2⟩, fun y H'' z => ?_⟩
  obtain ⟨T, w1, w2, z1, z2, z3, z4, z5⟩ := z
  have q1 := z4 xs hs; rw [g1] at q1; cases q1
  have q2 := z5 ys hs2; rw [g2] at q2; cases q2
  subst z1; subst z3; subst e3
  obtain ⟨G'', a1, a2, a3⟩ := pair_new s z2 (rv1.mono x) (rv2.mono x)
  exact ⟨G'', (by simpa using a1), a2, a3⟩
theorem walks_zipT {K : PySem.W.Frag} {G : Hp} {ps : List Addr} {a b : Addr} {xs ys : List V} {ds es : List D} (h : SqT K G a xs) (r : Reps K G ps ds xs) (h2 : SqT K G b ys) (r2 : Reps K G ps es ys) : Walks K G ps (ItzT K a b) (zipD ds es) := fun i G' ps' M' H' x s => by
  have hs : SqT K H' a xs := s.seqT (x.seqT h)
  have hs2 : SqT K H' b ys := s.seqT (x.seqT h2)
  refine ⟨fun hl => ⟨xs, ys, hs, hs2, by rw [zipD_len] at hl; rw [← r.len, ← r2.len]; omega⟩, fun d e => ?_⟩
  obtain ⟨d1, d2, e1, e2, e3⟩ := zipD_get e
  obtain ⟨v1, g1, rv1⟩ := r.get e1
  obtain ⟨v2, g2, rv2⟩ := r2.get e2
  refine ⟨⟨xs, ys, v1, v2, hs, hs2, g1, g2⟩, fun y H'' z => ?_⟩
  obtain ⟨T, w1, w2, z1, z2, z3, z4, z5⟩ := z
  have q1 := z4 xs hs; rw [g1] at q1; cases q1
  have q2 := z5 ys hs2; rw [g2] at q2; cases q2
  subst z1; subst z3; subst e3
  exact pair_new s z2 (rv1.mono x) (rv2.mono x)
def enuD : Nat → List D → List D
  | _, [] => []
  | i, x :: xs => .tup [.int (i : Nat), x] :: enuD (i + 1) xs
theorem enuD_len : ∀ {i : Nat} {xs : List D}, (enuD i xs).length = xs.length
  | _, [] => rfl
  | i, x :: xs => by simp only [enuD, List.length_cons, enuD_len]
theorem enuD_get : ∀ {j : Nat} {xs : List D} {i : Nat} {d : D}, (enuD j xs)[i]? = some d → ∃ x, xs[i]? = some x ∧ d = .tup [.int ((j + i : Nat) : Int), x]
  | _, [], i, d, e => by simp [enuD] at e
  | j, x :: xs, 0, d, e => by simp only [enuD, List.getElem?_cons_zero, Option.some.injEq] at e; exact ⟨x, rfl, e.symm⟩
  | j, x :: xs, i + 1, d, e => by
    simp only [enuD, List.getElem?_cons_succ] at e ⊢
    obtain ⟨y, e1, e2⟩ := enuD_get e
    exact ⟨y, e1, by rw [e2, show j + 1 + i = j + (i + 1) by omega]⟩
theorem walks_enu {K : PySem.W.Frag} {G : Hp} {ps : List Addr} {a : Addr} {xs : List V} {ds : List D} (h : SqL K G a xs) (r : Reps K G ps ds xs) : Walks K G ps (Ite K a) (enuD 0 ds) := fun i G' ps' M' H' x s => by
  have hs : SqL K H' a xs := s.seqL (x.seqL h)
  refine ⟨fun hl => ⟨xs, hs, by rw [enuD_len] at hl; rw [← r.len]; omega⟩, fun d e => ?_⟩
  obtain ⟨d1, e1, e3⟩ := enuD_get e
  obtain ⟨v1, g1, rv1⟩ := r.get e1
  refine ⟨⟨xs, v1, hs, g1⟩, fun y H'' z => ?_⟩
  obtain ⟨T, w1, z1, z2, z3, z4⟩ := z
  have q1 := z4 xs hs; rw [g1] at q1; cases q1
  subst z1; subst z3; subst e3
  rw [Nat.zero_add]
  exact pair_new s z2 Rep.int_of (rv1.mono x)
def zipK : List D → C (List D)
  | [.lst xs, .lst ys] => C.pure (zipD xs ys)
  | [.lst xs, .fz ys] => C.pure (zipD xs ys)
  | [.fz xs, .lst ys] => C.pure (zipD xs ys)
  | [.fz xs, .fz ys] => C.pure (zipD xs ys)
  | [.tup xs, .tup ys] => C.pure (zipD xs ys)
  | [.tup xs, .ft ys] => C.pure (zipD xs ys)
  | [.ft xs, .tup ys] => C.pure (zipD xs ys)
  | [.ft xs, .ft ys] => C.pure (zipD xs ys)
  | _ => C.bad
def enuK : List D → C (List D)
  | [.lst xs] => C.pure (enuD 0 xs)
  | [.fz xs] => C.pure (enuD 0 xs)
  | _ => C.bad
theorem lst_sq {K : PySem.W.Frag} {G : Hp} {ps : List Addr} {M : Sto} {H : Hp} {ds : List D} {v : V} (s : Sto0 K G ps M H) (r : Rep K G ps (.lst ds) v) : ∃ a xs, v = .ref a ∧ SqL K G a xs ∧ SqL K H a xs ∧ Reps K G ps ds xs := by
  unfold Rep at r
  obtain ⟨a, xs, e, g, rr⟩ := r
  exact ⟨a, xs, e, .inl (.inl g), .inl (.inl (s.sub _ _ g)), rr⟩
theorem fz_sq {K : PySem.W.Frag} {G : Hp} {ps : List Addr} {M : Sto} {H : Hp} {ds : List D} {v : V} (s : Sto0 K G ps M H) (r : Rep K G ps (.fz ds) v) : ∃ a xs, v = .ref a ∧ SqL K G a xs ∧ SqL K H a xs ∧ Reps K G ps ds xs := by
  unfold Rep at r
  obtain ⟨a, xs, e, g, rr⟩ := r
  exact ⟨a, xs, e, g, s.seqL g, rr⟩
theorem tup_sq {K : PySem.W.Frag} {G : Hp} {ps : List Addr} {M : Sto} {H : Hp} {ds : List D} {v : V} (s : Sto0 K G ps M H) (r : Rep K G ps (.tup ds) v) : ∃ a xs, v = .ref a ∧ SqT K G a xs ∧ SqT K H a xs ∧ Reps K G ps ds xs := by
  unfold Rep at r
  obtain ⟨a, xs, e, g, rr⟩ := r
  exact ⟨a, xs, e, .inl (.inl g), .inl (.inl (s.sub _ _ g)), rr⟩
theorem ft_sq {K : PySem.W.Frag} {G : Hp} {ps : List Addr} {M : Sto} {H : Hp} {ds : List D} {v : V} (s : Sto0 K G ps M H) (r : Rep K G ps (.ft ds) v) : ∃ a xs, v = .ref a ∧ SqT K G a xs ∧ SqT K H a xs ∧ Reps K G ps ds xs := by
  unfold Rep at r
  obtain ⟨a, xs, e, g, rr⟩ := r
  exact ⟨a, xs, e, g, s.seqT g, rr⟩
theorem di_zip {elts : List Expr} {kk : Nat} (ha : DA X W [e, e2] gl) (hg : Gl X "zip") (hm : X.mg "zip" = none) (hs : starEach [e, e2] X.env = (false, eval e X.env) :: starEach [e2] X.env := by rfl) (hpl : (backTo pos (starEach [e2] X.env)).any (·.1) = false := by rfl) :
    DI X W (.Tuple elts kk tpos) (.Call (.Name "zip" p) [e, e2] [] pos) (dRng zipK gl) :=
  pi_imp (pi_zipA hg hm ha hs hpl) fun σ H R h => tds_mono (seqL (P := fun ds G ps _ H' => ∀ J, Walks X.K G ps J ds → R J H') (k := fun _ xs => zipK xs) h) fun vs H1 h2 => by
    obtain ⟨G, ps, M, xs, s, r, p⟩ := h2.out
    have two : ∀ {d e : D}, Reps X.K G ps [d, e] vs → ∃ v u, vs = [v, u] ∧ Rep X.K G ps d v ∧ Rep X.K G ps e u := fun r => by
      obtain ⟨v, u, e, r1, r2⟩ := r.two
      exact ⟨v, u, e, r1, r2⟩
    unfold zipK at p
    split at p
    · obtain ⟨v, u, e, r1, r2⟩ := two r; subst e; obtain ⟨a1, xs1, e1, g1, h1, q1⟩ := lst_sq s r1; obtain ⟨a2, xs2, e2, g2, w2, q2⟩ := lst_sq s r2; subst e1; subst e2; exact ⟨a1, a2, xs1, xs2, rfl, .inl ⟨h1, w2, p G ps H1 Stp.refl s _ (walks_zipL g1 q1 g2 q2)⟩⟩
    · obtain ⟨v, u, e, r1, r2⟩ := two r; subst e; obtain ⟨a1, xs1, e1, g1, h1, q1⟩ := lst_sq s r1; obtain ⟨a2, xs2, e2, g2, w2, q2⟩ := fz_sq s r2; subst e1; subst e2; exact ⟨a1, a2, xs1, xs2, rfl, .inl ⟨h1, w2, p G ps H1 Stp.refl s _ (walks_zipL g1 q1 g2 q2)⟩⟩
    · obtain ⟨v, u, e, r1, r2⟩ := two r; subst e; obtain ⟨a1, xs1, e1, g1, h1, q1⟩ := fz_sq s r1; obtain ⟨a2, xs2, e2, g2, w2, q2⟩ := lst_sq s r2; subst e1; subst e2; exact ⟨a1, a2, xs1, xs2, rfl, .inl ⟨h1, w2, p G ps H1 Stp.refl s _ (walks_zipL g1 q1 g2 q2)⟩⟩
    · obtain ⟨v, u, e, r1, r2⟩ := two r; subst e; obtain ⟨a1, xs1, e1, g1, h1, q1⟩ := fz_sq s r1; obtain ⟨a2, xs2, e2, g2, w2, q2⟩ := fz_sq s r2; subst e1; subst e2; exact ⟨a1, a2, xs1, xs2, rfl, .inl ⟨h1, w2, p G ps H1 Stp.refl s _ (walks_zipL g1 q1 g2 q2)⟩⟩
    · obtain ⟨v, u, e, r1, r2⟩ := two r; subst e; obtain ⟨a1, xs1, e1, g1, h1, q1⟩ := tup_sq s r1; obtain ⟨a2, xs2, e2, g2, w2, q2⟩ := tup_sq s r2; subst e1; subst e2; exact ⟨a1, a2, xs1, xs2, rfl, .inr ⟨h1, w2, p G ps H1 Stp.refl s _ (walks_zipT g1 q1 g2 q2)⟩⟩
    · obtain ⟨v, u, e, r1, r2⟩ := two r; subst e; obtain ⟨a1, xs1, e1, g1, h1, q1⟩ := tup_sq s r1; obtain ⟨a2, xs2, e2, g2, w2, q2⟩ := ft_sq s r2; subst e1; subst e2; exact ⟨a1, a2, xs1, xs2, rfl, .inr ⟨h1, w2, p G ps H1 Stp.refl s _ (walks_zipT g1 q1 g2 q2)⟩⟩
    · obtain ⟨v, u, e, r1, r2⟩ := two r; subst e; obtain ⟨a1, xs1, e1, g1, h1, q1⟩ := ft_sq s r1; obtain ⟨a2, xs2, e2, g2, w2, q2⟩ := tup_sq s r2; subst e1; subst e2; exact ⟨a1, a2, xs1, xs2, rfl, .inr ⟨h1, w2, p G ps H1 Stp.refl s _ (walks_zipT g1 q1 g2 q2)⟩⟩
    · obtain ⟨v, u, e, r1, r2⟩ := two r; subst e; obtain ⟨a1, xs1, e1, g1, h1, q1⟩ := ft_sq s r1; obtain ⟨a2, xs2, e2, g2, w2, q2⟩ := ft_sq s r2; subst e1; subst e2; exact ⟨a1, a2, xs1, xs2, rfl, .inr ⟨h1, w2, p G ps H1 Stp.refl s _ (walks_zipT g1 q1 g2 q2)⟩⟩
    · exact p.elim
theorem di_enu {elts : List Expr} {kk : Nat} (ha : DA X W [e] gl) (hg : Gl X "enumerate") (hm : X.mg "enumerate" = none) (hs : starEach [e] X.env = [(false, eval e X.env)] := by rfl) :
    DI X W (.Tuple elts kk tpos) (.Call (.Name "enumerate" p) [e] [] pos) (dRng enuK gl) :=
  pi_imp (pi_enum hg hm ha hs) fun σ H R h => tds_mono (seqL (P := fun ds G ps _ H' => ∀ J, Walks X.K G ps J ds → R J H') (k := fun _ xs => enuK xs) h) fun vs H1 h2 => by
    obtain ⟨G, ps, M, xs, s, r, p⟩ := h2.out
    unfold enuK at p
    split at p
    · obtain ⟨v, e, r1⟩ := r.one; subst e
      obtain ⟨a1, xs1, e1, g1, h1, q1⟩ := lst_sq s r1
      subst e1
      exact ⟨a1, xs1, rfl, h1, p G ps H1 Stp.refl s _ (walks_enu g1 q1)⟩
    · obtain ⟨v, e, r1⟩ := r.one; subst e
      obtain ⟨a1, xs1, e1, g1, h1, q1⟩ := fz_sq s r1
      subst e1
      exact ⟨a1, xs1, rfl, h1, p G ps H1 Stp.refl s _ (walks_enu g1 q1)⟩
    · exact p.elim
/-! name op= e, of ints -/
def dIAdd : D → D → C D
  | .int i, .int j => C.pure (.int (i + j))
  | _, _ => C.bad
def dISub : D → D → C D
  | .int i, .int j => C.pure (.int (i - j))
  | _, _ => C.bad
theorem iadd_D : OpD X W dIAdd (ipI fun i j => i + j) := fun σ v u H Q h => by
  obtain ⟨G, ps, M, x, y, s, r1, r2, p⟩ := h.out
  unfold dIAdd at p
  split at p
  · unfold Rep at r1 r2
    exact ⟨_, _, r1, r2, p G ps H Stp.refl s _ Rep.int_of⟩
  · exact p.elim
theorem isub_D : OpD X W dISub (ipI fun i j => i - j) := fun σ v u H Q h => by
  obtain ⟨G, ps, M, x, y, s, r1, r2, p⟩ := h.out
  unfold dISub at p
  split at p
  · unfold Rep at r1 r2
    exact ⟨_, _, r1, r2, p G ps H Stp.refl s _ Rep.int_of⟩
  · exact p.elim
def sAug (i : Nat) (k : D → D → C D) (f : Env → C D) : SF := lift (dB k (dVar i) f) fun ρ d => C.pure (.nx (ρ.set i (some d)))
theorem ds_aug (i : Nat) {x : Str} {op : Operator} {ti : TIp} {pos' : Pos} (hN : X.N.Nodup) (he : DE X W e f) (ho : PIp X op ti) (hk : OpD X W k ti) (hi : X.N[i]? = some x := by rfl) (hx : Loc X.env.scope x := by first | exact Or.inl rfl | exact Or.inr rfl) (hf : X.fn x = true ∨ X.env.scope.names.lookup x = some .local := by first | exact .inl rfl | exact .inr rfl) :
    DS X W (.AugAssign (.Name x pos') op e pos) (sAug i k f) := by
  have ps := ps_aug (X := X) (pos := pos) (pos' := pos') hN hi hx he ho hf
  refine ⟨fun pins s σ H Dn I q => ps.run pins s σ H Dn I ?_⟩
  have hlen : i < X.N.length := (List.getElem?_eq_some_iff.mp hi).1
  have q2 : TD X.K W (dB k (dVar i) f) σ H (fun v H' => Dn.nx (σ.set i (some v)) H') := lift_post q fun ρ d G ps M H' s' sl p v r => pst_ok p s' _ (sl.set r (by rw [I.len]; exact hlen))
  have q3 := dVar_imp σ H _ (seq1 (k := fun ρ x => C.bind (f ρ) fun y => k x y) q2)
  obtain ⟨v, e1, q4⟩ := q3
  exact ⟨v, e1, td_mono (At1.next (k := fun _ x y => k x y) q4) fun u H2 h3 => hk σ v u H2 _ h3⟩
/-- a, b, c = x, y, z with plain names -/
def sPar3 (i j l : Nat) (g : Env → C (List D)) : SF := lift g fun ρ ds => match ds with
  | [d, e, f] => C.pure (.nx (((ρ.set i (some d)).set j (some e)).set l (some f)))
  | _ => C.bad
theorem Reps.three {K : PySem.W.Frag} {G : Hp} {p : List Addr} {d e f : D} {vs : List V} (h : Reps K G p [d, e, f] vs) : ∃ v u w, vs = [v, u, w] ∧ Rep K G p d v ∧ Rep K G p e u ∧ Rep K G p f w := by
  obtain ⟨v, r, q, a, b⟩ := Reps.uncons h
  obtain ⟨u, w, q2, c1, c2⟩ := Reps.two b
  subst q; subst q2
  exact ⟨v, u, w, rfl, a, c1, c2⟩
theorem ds_par3 (i j l : Nat) {x y z : Str} {a b c : Expr} {g : Env → C (List D)} {px py pz pt : Pos} {kt k2 pt2} (hc : X.calm = true) (hN : X.N.Nodup) (ha : DA X W [a, b, c] g) (hi : X.N[i]? = some x := by rfl) (hj : X.N[j]? = some y := by rfl) (hl : X.N[l]? = some z := by rfl) (hij : i ≠ j := by decide) (hil : i ≠ l := by decide) (hjl : j ≠ l := by decide)
    (hx : X.env.scope.names.lookup x = some .local := by rfl) (hy : X.env.scope.names.lookup y = some .local := by rfl) (hz : X.env.scope.names.lookup z = some .local := by rfl)
    (hw : swappedStores [.Tuple [.Name x px, .Name y py, .Name z pz] kt pt] (.Tuple [a, b, c] k2 pt2) X.env = pure (some [x, y, z]) := by rfl) (hs : swapsWithSole [.Tuple [.Name x px, .Name y py, .Name z pz] kt pt] (.Tuple [a, b, c] k2 pt2) pos.line X.env = pure false := by rfl) :
    DS X W (.Assign [.Tuple [.Name x px, .Name y py, .Name z pz] kt pt] (.Tuple [a, b, c] k2 pt2) pos) (sPar3 i j l g) := by
  have ps := ps_par3 (X := X) (pos := pos) (px := px) (py := py) (pz := pz) (kt := kt) (pt := pt) (k2 := k2) (pt2 := pt2) hc hN hi hj hl hij hil hjl hx hy hz ha hw hs
  refine ⟨fun pins s σ H Dn I h => ps.run pins s σ H Dn I ?_⟩
  refine lift_post h fun ρ ds G ps M H' s sl p vs r => ?_
  split at p
  · obtain ⟨v, u, w, ev, r1, r2, r3⟩ := Reps.three r
    have hli := (List.getElem?_eq_some_iff.mp hi).1
    have hlj := (List.getElem?_eq_some_iff.mp hj).1
    have hll := (List.getElem?_eq_some_iff.mp hl).1
    exact ⟨v, u, w, ev, pst_ok p s _ (((sl.set r1 (by rw [I.len]; exact hli)).set r2 (by rw [List.length_set, I.len]; exact hlj)).set r3 (by rw [List.length_set, List.length_set, I.len]; exact hll))⟩
  · exact p.elim
end
end DL
end
section
set_option Elab.async false
set_option linter.all false
set_option maxRecDepth 100000
set_option maxHeartbeats 1000000
/-! zip of a list and a tuple, in either order -/
namespace DZ
open PySem
open PySem.Sem (wp)
/-- an iterator over a tuple (t) or over a list -/
def SI (t : Bool) (h : Heap) (it l : Addr) (i : Nat) : Prop := match t with
  | true => h.IsTupleIter it l i
  | false => h.IsListIter it l i
/-- a tuple (t) or a list with these items -/
def SS (t : Bool) (h : Heap) (l : Addr) (xs : Array Value) : Prop := match t with
  | true => h.IsTuple l xs
  | false => h.IsList l xs
theorem SI.keep {t : Bool} {h h' : Heap} {it l : Addr} {i : Nat} (x : SI t h it l i) (e : ∀ o, h.get? it = some o → h'.get? it = some o) : SI t h' it l i := by
  cases t
  · exact Heap.IsListIter.at x e
  · exact Heap.IsTupleIter.at x e
theorem SS.keep {t : Bool} {h h' : Heap} {l : Addr} {xs : Array Value} (x : SS t h l xs) (e : ∀ o, h.get? l = some o → h'.get? l = some o) : SS t h' l xs := by
  cases t
  · exact Heap.IsList.at x e
  · exact Heap.IsTuple.at x e
theorem SI.lt {t : Bool} {h : Heap} {it l : Addr} {i : Nat} (x : SI t h it l i) : it < h.objs.size := by
  cases t <;> obtain ⟨_, e, _⟩ := x <;> exact Heap.lt_size e
section
variable {prog : Program} {w : World} {A : Around} {E : Value → Shared → Prop} {s : Shared}
theorem SI.next {t : Bool} {it l : Addr} {i : Nat} {xs : Array Value} {x : Value} {Q : Value → Shared → Prop} (a : SI t s.heap it l i) (b : SS t s.heap l xs) (hx : xs[i]? = some x)
    (q : ∀ h', SI t h' it l (i + 1) → Heap.SameBut it s.heap h' → Q x { s with heap := h' }) : wpAny (model prog w) A (Builtin.SmallTypes.nextOf (.ref it)) Q E s := by
  cases t
  · exact wpAny_nextOf_list_item a b hx q
  · exact RZ.nextOf_tuple_item a b hx q
theorem SI.over {t : Bool} {it l : Addr} {i : Nat} {xs : Array Value} {Q : Value → Shared → Prop} (hh : A.handled = none) (a : SI t s.heap it l i) (b : SS t s.heap l xs) (hx : xs[i]? = none)
    (q : ∀ h' e, Heap.ExtBut it s.heap h' → (∃ o, h'.get? e = some o ∧ o.cls = .type "StopIteration") → E (.ref e) { s with heap := h' }) : wpAny (model prog w) A (Builtin.SmallTypes.nextOf (.ref it)) Q E s := by
  cases t
  · exact wpAny_nextOf_list_end hh a b hx q
  · exact RZ.nextOf_tuple_end hh a b hx q
variable {z TI TO i1 i2 l1 l2 : Addr} {k1 k2 : Nat} {xs ys : Array Value} {a b : Value} {t1 t2 : Bool}
/-- all that stands ahead of a turn -/
structure Stand (t1 t2 : Bool) (h : Heap) (z TI TO i1 i2 l1 l2 : Addr) (k1 k2 : Nat) (xs ys : Array Value) (a b : Value) : Prop where
  d : ZipApart z TI TO i1 i2 l1 l2
  hz : IsZip h z TI TO .none
  hT : IsPair h TI (.ref i1) (.ref i2)
  hO : IsPair h TO a b
  w1 : SI t1 h i1 l1 k1
  w2 : SI t2 h i2 l2 k2
  v1 : SS t1 h l1 xs
  v2 : SS t2 h l2 ys
theorem mix_item {x y : Value} {Q : Value → Shared → Prop} (S : Stand t1 t2 s.heap z TI TO i1 i2 l1 l2 k1 k2 xs ys a b) (hx : xs[k1]? = some x) (hy : ys[k2]? = some y)
    (q : ∀ h', IsZip h' z TI TO (rawInt s.heap.objs.size) → IsPair h' TO x y → SI t1 h' i1 l1 (k1 + 1) → SI t2 h' i2 l2 (k2 + 1) → IsPair h' s.heap.objs.size x y → h'.objs.size = s.heap.objs.size + 1 →
      (∀ c o, c ≠ z → c ≠ TO → c ≠ i1 → c ≠ i2 → s.heap.get? c = some o → h'.get? c = some o) → Q (.ref s.heap.objs.size) { s with heap := h' }) : wpAny (model prog w) A (Builtin.«zip.__next__» ⟨[.ref z], []⟩) (fun fin s' => ∃ v, fin = .done (.ret v) ∧ Q v s') E s := by
  obtain ⟨d, ho, hT, hO, w1, w2, v1, v2⟩ := S
  show wpAny _ _ (field (.ref z) 2 >>= _) _ _ _; refine wpAny_bind (wpAny_field ho rfl (x := .bool false) rfl ?_)
  show wpAny _ _ (field (.ref z) 3 >>= _) _ _ _; refine wpAny_bind (wpAny_field ho rfl (x := .ref TI) rfl (wpAny_bind (wpAny_seqItems hT rfl ?_)))
  show wpAny _ _ (Builtin.SmallTypes.ownedTupleIsFree (.ref z) >>= _) _ _ _; refine wpAny_bind ?_; rw [Builtin.SmallTypes.ownedTupleIsFree]
  refine wpAny_bind (wpAny_field ho rfl (x := .none) rfl (wpAny_pure ?_)); simp only [if_true]
  refine wpAny_bind (wpAny_rule (wpAny_bind (wpAny_field ho rfl (x := .ref TO) rfl ?_)))
  refine wpAny_bind (wpAny_setField_rec ho (by simp) fun g1 ho1 b1 => wpAny_bind ?_)
  replace ho1 : IsZip g1 z TI TO .ellipsis := ho1
  have u1 : ∀ c o, c ≠ z → s.heap.get? c = some o → g1.get? c = some o := fun c o c1 e => b1.extBut _ _ c1 e
  simp only [List.zipIdx_nil, List.zipIdx_cons, List.forIn_nil, List.forIn_cons]
  refine wpAny_bind (wpAny_bind (wpAny_onRaise ?_)); show wpAny _ _ (Builtin.SmallTypes.nextOf (.ref i1) >>= _) _ _ _
  refine wpAny_bind (SI.next (w1.keep fun o e => u1 _ _ d.i1z e) (v1.keep fun o e => u1 _ _ d.l1z e) hx fun g2 n1 b2 => wpAny_pure ?_)
  have u2 : ∀ c o, c ≠ z → c ≠ i1 → s.heap.get? c = some o → g2.get? c = some o := fun c o c1 c2 e => b2.extBut _ _ c2 (u1 _ _ c1 e)
  have hO2 : IsPair g2 TO a b := u2 _ _ d.TOz d.TOi1 hO
  refine wpAny_bind (wpAny_seqItems hO2 rfl (wpAny_bind (wpAny_updateSeq_pair hO2 fun g3 hO3 b3 => wpAny_bind (wpAny_letGo (wpAny_pure ?_)))))
  replace hO3 : IsPair g3 TO x b := hO3
  have u3 : ∀ c o, c ≠ z → c ≠ i1 → c ≠ TO → s.heap.get? c = some o → g3.get? c = some o := fun c o c1 c2 c3 e => b3.extBut _ _ c3 (u2 _ _ c1 c2 e)
  refine wpAny_bind (wpAny_bind (wpAny_onRaise ?_)); show wpAny _ _ (Builtin.SmallTypes.nextOf (.ref i2) >>= _) _ _ _
  refine wpAny_bind (SI.next (w2.keep fun o e => u3 _ _ d.i2z d.i12.symm d.TOi2.symm e) (v2.keep fun o e => u3 _ _ d.l2z d.l2i1 d.l2TO e) hy fun g4 n2 b4 => wpAny_pure ?_)
  have hO4 : IsPair g4 TO x b := b4.extBut _ _ d.TOi2 hO3
  refine wpAny_bind (wpAny_seqItems hO4 rfl (wpAny_bind (wpAny_updateSeq_pair hO4 fun g5 hO5 b5 => wpAny_bind (wpAny_letGo (wpAny_pure (wpAny_pure ?_))))))
  replace hO5 : IsPair g5 TO x y := hO5
  have u5 : ∀ c o, c ≠ z → c ≠ i1 → c ≠ TO → c ≠ i2 → s.heap.get? c = some o → g5.get? c = some o := fun c o c1 c2 c3 c4 e => b5.extBut _ _ c3 (b4.extBut _ _ c4 (u3 _ _ c1 c2 c3 e))
  have sz : g5.objs.size = s.heap.objs.size := b5.1.trans (b4.1.trans (b3.1.trans (b2.1.trans b1.1)))
  have m1 : SI t1 g5 i1 l1 (k1 + 1) := ((n1.keep fun o e => b3.extBut _ _ d.TOi1.symm e).keep fun o e => b4.extBut _ _ d.i12 e).keep fun o e => b5.extBut _ _ d.TOi1.symm e
  have m2 : SI t2 g5 i2 l2 (k2 + 1) := n2.keep fun o e => b5.extBut _ _ d.TOi2.symm e
  have ho5 : IsZip g5 z TI TO .ellipsis := b5.extBut _ _ d.TOz.symm (b4.extBut _ _ d.i2z.symm (b3.extBut _ _ d.TOz.symm (b2.extBut _ _ d.i1z.symm ho1)))
  have zl : z < g5.objs.size := Heap.lt_size ho5
  refine wpAny_bind (wpAny_seqItems hO5 rfl (wpAny_bind (wpAny_newTuple ?_)))
  show wpAny _ _ (Builtin.SmallTypes.ownedTupleHandOut (.ref z) (.ref g5.objs.size) >>= _) _ _ _; refine wpAny_bind ?_; rw [Builtin.SmallTypes.ownedTupleHandOut]
  have ho6 : IsZip (g5.push { cls := .type "tuple", data := .seq #[x, y] }) z TI TO .ellipsis := Heap.get?_push_of_some _ ho5
  refine wpAny_bind (wpAny_setField_rec ho6 (by simp) fun g7 ho7 b7 => ?_)
  replace ho7 : IsZip g7 z TI TO (rawInt g5.objs.size) := ho7
  refine wpAny_setField_rec ho7 (by simp) fun g8 ho8 b8 => wpAny_pure ⟨_, rfl, ?_⟩
  replace ho8 : IsZip g8 z TI TO (rawInt g5.objs.size) := ho8
  have up : ∀ c o, c ≠ z → g5.get? c = some o → g8.get? c = some o := fun c o ne e => b8.extBut _ _ ne (b7.extBut _ _ ne (Heap.get?_push_of_some _ e))
  have nT : IsPair g8 g5.objs.size x y := b8.extBut _ _ (Nat.ne_of_gt zl) (b7.extBut _ _ (Nat.ne_of_gt zl) (Heap.get?_push_size _ rfl))
  have s8 : g8.objs.size = g5.objs.size + 1 := by rw [b8.1, b7.1, Heap.size_push]
  rw [sz] at ho8 nT s8
  show Q (.ref g5.objs.size) _; rw [sz]
  exact q g8 ho8 (up _ _ d.TOz hO5) (m1.keep fun o e => up _ _ d.i1z e) (m2.keep fun o e => up _ _ d.i2z e) nT s8 fun c o c1 c2 c3 c4 e => up _ _ c1 (u5 _ _ c1 c3 c2 c4 e)
theorem mix_end {Q : Fin → Shared → Prop} (hh : A.handled = none) (S : Stand t1 t2 s.heap z TI TO i1 i2 l1 l2 k1 k2 xs ys a b) (he : xs[k1]? = none ∨ ys[k2]? = none)
    (q : ∀ h' e, (∀ c o, c ≠ z → c ≠ TO → c ≠ i1 → c ≠ i2 → s.heap.get? c = some o → h'.get? c = some o) → (∃ o, h'.get? e = some o ∧ o.cls = .type "StopIteration") → E (.ref e) { s with heap := h' }) : wpAny (model prog w) A (Builtin.«zip.__next__» ⟨[.ref z], []⟩) Q E s := by
  obtain ⟨d, ho, hT, hO, w1, w2, v1, v2⟩ := S
  show wpAny _ _ (field (.ref z) 2 >>= _) _ _ _; refine wpAny_bind (wpAny_field ho rfl (x := .bool false) rfl ?_)
  show wpAny _ _ (field (.ref z) 3 >>= _) _ _ _; refine wpAny_bind (wpAny_field ho rfl (x := .ref TI) rfl (wpAny_bind (wpAny_seqItems hT rfl ?_)))
  show wpAny _ _ (Builtin.SmallTypes.ownedTupleIsFree (.ref z) >>= _) _ _ _; refine wpAny_bind ?_; rw [Builtin.SmallTypes.ownedTupleIsFree]
  refine wpAny_bind (wpAny_field ho rfl (x := .none) rfl (wpAny_pure ?_)); simp only [if_true]
  refine wpAny_bind (wpAny_rule (wpAny_bind (wpAny_field ho rfl (x := .ref TO) rfl ?_)))
  refine wpAny_bind (wpAny_setField_rec ho (by simp) fun g1 ho1 b1 => wpAny_bind ?_)
  replace ho1 : IsZip g1 z TI TO .ellipsis := ho1
  have u1 : ∀ c o, c ≠ z → s.heap.get? c = some o → g1.get? c = some o := fun c o c1 e => b1.extBut _ _ c1 e
  simp only [List.zipIdx_nil, List.zipIdx_cons, List.forIn_nil, List.forIn_cons]
  refine wpAny_bind (wpAny_bind (wpAny_onRaise ?_)); show wpAny _ _ (Builtin.SmallTypes.nextOf (.ref i1) >>= _) _ _ _
  have last : ∀ (g9 : Heap) (e : Addr), IsZip g9 z TI TO .ellipsis → (∀ c o, c ≠ z → c ≠ TO → c ≠ i1 → c ≠ i2 → s.heap.get? c = some o → g9.get? c = some o) → (∃ o, g9.get? e = some o ∧ o.cls = .type "StopIteration") →
      wpAny (model prog w) A (setField (.ref z) 0 .none) (fun _ s' => E (.ref e) s') E { s with heap := g9 } := fun g9 e hz9 u9 ⟨oe, e1, e2⟩ => by
    have ne : e ≠ z := fun q => by rw [q, hz9] at e1; cases e1; simp at e2
    exact wpAny_setField_rec (s := { s with heap := g9 }) hz9 (by simp) fun g10 _ b10 => q g10 e (fun c o c1 c2 c3 c4 x => b10.extBut _ _ c1 (u9 c o c1 c2 c3 c4 x)) ⟨oe, b10.extBut _ _ ne e1, e2⟩
  cases hx : xs[k1]? with
  | none => exact wpAny_bind (SI.over hh (w1.keep fun o e => u1 _ _ d.i1z e) (v1.keep fun o e => u1 _ _ d.l1z e) hx fun g2 e b2 st => last g2 e (b2 _ _ d.i1z.symm ho1) (fun c o c1 c2 c3 c4 x => b2 _ _ c3 (u1 _ _ c1 x)) st)
  | some x =>
    have hy : ys[k2]? = none := he.elim (fun h => by rw [hx] at h; cases h) id
    refine wpAny_bind (SI.next (w1.keep fun o e => u1 _ _ d.i1z e) (v1.keep fun o e => u1 _ _ d.l1z e) hx fun g2 n1 b2 => wpAny_pure ?_)
    have u2 : ∀ c o, c ≠ z → c ≠ i1 → s.heap.get? c = some o → g2.get? c = some o := fun c o c1 c2 e => b2.extBut _ _ c2 (u1 _ _ c1 e)
    have hO2 : IsPair g2 TO a b := u2 _ _ d.TOz d.TOi1 hO
    refine wpAny_bind (wpAny_seqItems hO2 rfl (wpAny_bind (wpAny_updateSeq_pair hO2 fun g3 hO3 b3 => wpAny_bind (wpAny_letGo (wpAny_pure ?_)))))
    have u3 : ∀ c o, c ≠ z → c ≠ i1 → c ≠ TO → s.heap.get? c = some o → g3.get? c = some o := fun c o c1 c2 c3 e => b3.extBut _ _ c3 (u2 _ _ c1 c2 e)
    refine wpAny_bind (wpAny_bind (wpAny_onRaise ?_)); show wpAny _ _ (Builtin.SmallTypes.nextOf (.ref i2) >>= _) _ _ _
    exact wpAny_bind (SI.over hh (w2.keep fun o e => u3 _ _ d.i2z d.i12.symm d.TOi2.symm e) (v2.keep fun o e => u3 _ _ d.l2z d.l2i1 d.l2TO e) hy fun g4 e b4 st => last g4 e (b4 _ _ d.i2z.symm (b3.extBut _ _ d.TOz.symm (b2.extBut _ _ d.i1z.symm ho1)))
      (fun c o c1 c2 c3 c4 x => b4 _ _ c4 (u3 _ _ c1 c3 c2 x)) st)
theorem mix_next {x y : Value} {Q : Option Value → Shared → Prop} (S : Stand t1 t2 s.heap z TI TO i1 i2 l1 l2 k1 k2 xs ys a b) (hx : xs[k1]? = some x) (hy : ys[k2]? = some y)
    (q : ∀ h', IsZip h' z TI TO (rawInt s.heap.objs.size) → IsPair h' TO x y → SI t1 h' i1 l1 (k1 + 1) → SI t2 h' i2 l2 (k2 + 1) → IsPair h' s.heap.objs.size x y → h'.objs.size = s.heap.objs.size + 1 →
      (∀ c o, c ≠ z → c ≠ TO → c ≠ i1 → c ≠ i2 → s.heap.get? c = some o → h'.get? c = some o) → Q (some (.ref s.heap.objs.size)) { s with heap := h' }) : wpAny (model prog w) A (pyNext (.ref z)) Q E s := by
  have ty : s.TypeIs (.ref z) "zip" := ⟨_, S.hz, rfl⟩
  rw [pyNext]
  refine wpAny_bind (wpAny_attempt (wpAny_callSpecial?_slot (name := "__next__") ty F.slot_zip_next ?_))
  exact wpAny_call_entry F.slot_zip_next ty F.entry_zip_next (mix_item S hx hy fun h' p1 p2 p3 p4 p5 p6 p7 => wpAny_pure (q h' p1 p2 p3 p4 p5 p6 p7)) (F.args_zip_next_1 _)
theorem mix_done {Q : Option Value → Shared → Prop} (hh : A.handled = none) (S : Stand t1 t2 s.heap z TI TO i1 i2 l1 l2 k1 k2 xs ys a b) (he : xs[k1]? = none ∨ ys[k2]? = none)
    (q : ∀ h', (∀ c o, c ≠ z → c ≠ TO → c ≠ i1 → c ≠ i2 → s.heap.get? c = some o → h'.get? c = some o) → Q none { s with heap := h' }) : wpAny (model prog w) A (pyNext (.ref z)) Q E s := by
  have ty : s.TypeIs (.ref z) "zip" := ⟨_, S.hz, rfl⟩
  rw [pyNext]
  refine wpAny_bind (wpAny_attempt (wpAny_callSpecial?_slot (name := "__next__") ty F.slot_zip_next ?_))
  refine wpAny_call_entry F.slot_zip_next ty F.entry_zip_next (mix_end hh S he fun h' e hk st => ?_) (F.args_zip_next_1 _)
  obtain ⟨o, e1, e2⟩ := st
  exact wpAny_bind (wpAny_isInstance (T := "StopIteration") (b := true) ⟨o, e1, e2⟩ isSubtype_stop (wpAny_pure (q _ hk)))
/-! how it is made -/
def itN : Bool → String
  | true => "tuple_iterator"
  | false => "list_iterator"
abbrev itO (t : Bool) (l : Addr) : Obj := { cls := .type (itN t), data := .fields #[.ref l, .int 0 0] }
theorem SS.iter {t : Bool} {l : Addr} {xs : Array Value} {Q : Value → Shared → Prop} (b : SS t s.heap l xs) (q : Q (.ref s.heap.objs.size) { s with heap := s.heap.push (itO t l) }) : wpAny (model prog w) A (pyIter (.ref l)) Q E s := by
  cases t
  · exact wpAny_pyIter_list b q
  · exact wpAny_pyIter_tuple b q
abbrev mk2 (t1 t2 : Bool) (h : Heap) (l1 l2 : Addr) : Heap := (h.push (itO t1 l1)).push (itO t2 l2)
abbrev mk3 (t1 t2 : Bool) (h : Heap) (l1 l2 : Addr) : Heap := (mk2 t1 t2 h l1 l2).push { cls := .type "tuple", data := .seq #[.ref h.objs.size, .ref (h.push (itO t1 l1)).objs.size] }
abbrev mk4 (t1 t2 : Bool) (h : Heap) (l1 l2 : Addr) : Heap := (mk3 t1 t2 h l1 l2).push { cls := .type "tuple", data := .seq #[.none, .none] }
abbrev mk5 (t1 t2 : Bool) (h : Heap) (l1 l2 : Addr) : Heap := (mk4 t1 t2 h l1 l2).push { cls := .type "zip", data := .fields #[.none, .bool false, .bool false, .ref (mk2 t1 t2 h l1 l2).objs.size, .ref (mk3 t1 t2 h l1 l2).objs.size] }
theorem SS.push {t : Bool} {h : Heap} {l : Addr} {xs : Array Value} (b : SS t h l xs) (o : Obj) : SS t (h.push o) l xs := b.keep fun _ e => Heap.get?_push_of_some _ e
theorem mix_made (t1 t2 : Bool) (l1 l2 : Addr) (xs ys : Array Value) :
    Meets (Builtin.«zip.__new__» ⟨[.type "zip", .ref l1, .ref l2], []⟩) (fun _ R s => SS t1 s.heap l1 xs ∧ SS t2 s.heap l2 ys ∧ R (.ok (.ret (.ref (mk4 t1 t2 s.heap l1 l2).objs.size))) { s with heap := mk5 t1 t2 s.heap l1 l2 }) :=
  .of_wp fun prog w A R s h => by
    obtain ⟨hp, g, d, tk, os⟩ := s
    obtain ⟨v1, v2, h⟩ := h
    have sub := sub_zip
    have p1 : SS t1 (Shared.heap ⟨hp, g, d, tk, os⟩) l1 xs := v1
    have p2 : SS t2 (Shared.heap ⟨hp.push (itO t1 l1), g, d, tk, os⟩) l2 ys := SS.push v2 _
    wp_walk using SS.iter p1, SS.iter p2
    exact ⟨_, rfl, h⟩
theorem mix_call {Q : Value → Shared → Prop} (v1 : SS t1 s.heap l1 xs) (v2 : SS t2 s.heap l2 ys)
    (q : ∀ h', IsZip h' (s.heap.objs.size + 4) (s.heap.objs.size + 2) (s.heap.objs.size + 3) .none → IsPair h' (s.heap.objs.size + 2) (.ref s.heap.objs.size) (.ref (s.heap.objs.size + 1)) → IsPair h' (s.heap.objs.size + 3) .none .none →
      SI t1 h' s.heap.objs.size l1 0 → SI t2 h' (s.heap.objs.size + 1) l2 0 → (∀ c o, s.heap.get? c = some o → h'.get? c = some o) → Q (.ref (s.heap.objs.size + 4)) { s with heap := h' }) : wpAny (model prog w) A (call (.type "zip") [.ref l1, .ref l2]) Q E s := by
  refine callType_new F.called_zip (by decide) (F.typeCall_zip_2 _ _) (F.newCall_zip_2 _ _) (fun ob => F.args_object_init_3 ob _ _) F.entry_zip_new (mix_made t1 t2 l1 l2 xs ys) ⟨v1, v2, ?_⟩
  have n1 : (s.heap.push (itO t1 l1)).objs.size = s.heap.objs.size + 1 := Heap.size_push ..
  have n2 : (mk2 t1 t2 s.heap l1 l2).objs.size = s.heap.objs.size + 2 := by rw [Heap.size_push, n1]
  have n3 : (mk3 t1 t2 s.heap l1 l2).objs.size = s.heap.objs.size + 3 := by rw [Heap.size_push, n2]
  have n4 : (mk4 t1 t2 s.heap l1 l2).objs.size = s.heap.objs.size + 4 := by rw [Heap.size_push, n3]
  have c1 : ∀ {c o}, s.heap.get? c = some o → (s.heap.push (itO t1 l1)).get? c = some o := fun e => Heap.get?_push_of_some _ e
  have c2 : ∀ {c o}, (s.heap.push (itO t1 l1)).get? c = some o → (mk2 t1 t2 s.heap l1 l2).get? c = some o := fun e => Heap.get?_push_of_some _ e
  have c3 : ∀ {c o}, (mk2 t1 t2 s.heap l1 l2).get? c = some o → (mk5 t1 t2 s.heap l1 l2).get? c = some o := fun e => Heap.get?_push_of_some _ (Heap.get?_push_of_some _ (Heap.get?_push_of_some _ e))
  have w5 : (mk5 t1 t2 s.heap l1 l2).get? (mk4 t1 t2 s.heap l1 l2).objs.size = some _ := Heap.get?_push_size _ rfl
  have w4 : (mk5 t1 t2 s.heap l1 l2).get? (mk3 t1 t2 s.heap l1 l2).objs.size = some _ := Heap.get?_push_of_some _ (Heap.get?_push_size _ rfl)
  have w3 : (mk5 t1 t2 s.heap l1 l2).get? (mk2 t1 t2 s.heap l1 l2).objs.size = some _ := Heap.get?_push_of_some _ (Heap.get?_push_of_some _ (Heap.get?_push_size _ rfl))
  have w2 : (mk5 t1 t2 s.heap l1 l2).get? (s.heap.push (itO t1 l1)).objs.size = some _ := c3 (Heap.get?_push_size _ rfl)
  have w1 : (mk5 t1 t2 s.heap l1 l2).get? s.heap.objs.size = some _ := c3 (c2 (Heap.get?_push_size _ rfl))
  show _ ∧ _
  rw [n2, n3, n4] at w5
  rw [n1, n2] at w3
  rw [n3] at w4
  rw [n1] at w2
  rw [n4]
  exact ⟨⟨_, w5, rfl⟩, q _ w5 w3 w4 (by cases t1 <;> exact ⟨_, w1, rfl, rfl⟩) (by cases t2 <;> exact ⟨_, w2, rfl, rfl⟩) fun c o e => c3 (c2 (c1 e))⟩
end
end DZ
end
section
set_option Elab.async false
set_option linter.all false
set_option maxRecDepth 100000
set_option maxHeartbeats 1000000
/-! zip of any two sequences, as what is walked -/
namespace DL
open PySem PySem.Spec PyProof.Rows L2 RZ DZ
/-- a tuple (t) or a list, by values -/
def SqX (t : Bool) (K : PySem.W.Frag) (H : Hp) (a : Addr) (xs : List V) : Prop := match t with
  | true => SqT K H a xs
  | false => SqL K H a xs
section
variable {X : Cx} {pins : List (Addr × Obj)} {σ : L2.St} {H : Hp} {s : Shared} {a : Addr} {xs ys : List V} {t : Bool}
theorem SqX.at (I : L2.Inv X pins σ H s) (h : SqX t X.K H a xs) : ∃ its : List Value, Vals xs its ∧ SS t s.heap a its.toArray ∧ a < s.heap.objs.size := by
  cases t
  · obtain ⟨its, r, p, _⟩ := I.list h
    exact ⟨its, r, p.isList, p.lt⟩
  · obtain ⟨its, r, p, _⟩ := I.tuple h
    obtain ⟨o, e, _⟩ := id p
    exact ⟨its, r, p, Heap.lt_size e⟩
theorem SqX.one (I : L2.Inv X pins σ H s) (h : SqX t X.K H a xs) (h2 : SqX t X.K H a ys) : xs = ys := by
  cases t
  · exact I.list_inj h h2
  · exact I.tuple_inj h h2
end
def ItM (t1 t2 : Bool) (K : PySem.W.Frag) (a b : Addr) : It :=
  ⟨fun i H => ∃ xs ys x y, SqX t1 K H a xs ∧ SqX t2 K H b ys ∧ xs[i]? = some x ∧ ys[i]? = some y,
   fun i H v H' => ∃ T x y, v = .ref T ∧ H T = none ∧ H' = upd H T (.tup [x, y]) ∧ (∀ xs, SqX t1 K H a xs → xs[i]? = some x) ∧ ∀ ys, SqX t2 K H b ys → ys[i]? = some y,
   fun i H => ∃ xs ys, SqX t1 K H a xs ∧ SqX t2 K H b ys ∧ (xs.length ≤ i ∨ ys.length ≤ i)⟩
/-- the zip's own objects -/
def ZAt (t1 t2 : Bool) (z TI TO i1 i2 a b : Addr) (i : Nat) (h : Heap) : Prop := IsZip h z TI TO .none ∧ IsPair h TI (.ref i1) (.ref i2) ∧ (∃ x y, IsPair h TO x y) ∧ SI t1 h i1 a i ∧ SI t2 h i2 b i
theorem five {p q r s t c : Addr} (h : c ∈ [p, q, r, s, t]) : c = p ∨ c = q ∨ c = r ∨ c = s ∨ c = t := by simpa using h
theorem turn_mix {P : Program} {w : World} {K : PySem.W.Frag} {elts : List Expr} {kk : Nat} {tpos : Pos} {a b z TI TO i1 i2 : Addr} {t1 t2 : Bool} (d : ZipApart z TI TO i1 i2 a b) :
    Turn P w K (.Tuple elts kk tpos) (ItM t1 t2 K a b) [z, TI, TO, i1, i2] z (ZAt t1 t2 z TI TO i1 i2 a b) where
  mem := List.mem_cons_self
  obj := fun i h st c hc => by
    obtain ⟨hz, hT, ⟨x, y, hO⟩, w1, w2⟩ := st
    rcases five hc with e | e | e | e | e <;> subst e
    · exact ⟨_, hz, fun v q => nomatch q⟩
    · exact ⟨_, hT, fun v q => nomatch q⟩
    · exact ⟨_, hO, fun v q => nomatch q⟩
    · cases t1 <;> (obtain ⟨o, e, _, dd⟩ := w1; exact ⟨o, e, fun v q => by rw [dd] at q; cases q⟩)
    · cases t2 <;> (obtain ⟨o, e, _, dd⟩ := w2; exact ⟨o, e, fun v q => by rw [dd] at q; cases q⟩)
  keep := fun i h h' st k => by
    obtain ⟨hz, hT, ⟨x, y, hO⟩, w1, w2⟩ := st
    exact ⟨k z (by simp) _ hz, k TI (by simp) _ hT, ⟨x, y, k TO (by simp) _ hO⟩, w1.keep fun o e => k i1 (by simp) o e, w2.keep fun o e => k i2 (by simp) o e⟩
  item := by
    intro X hP hw hK hc i pins s σ H E I hf st hg
    subst hP hw hK
    obtain ⟨hz, hT, ⟨x0, y0, hO⟩, w1, w2⟩ := st
    obtain ⟨xs, ys, x, y, q1, q2, hx, hy⟩ := hg
    obtain ⟨its1, r1, v1, _⟩ := q1.at I
    obtain ⟨its2, r2, v2, _⟩ := q2.at I
    obtain ⟨u1, hu1, ru1⟩ := r1.get hx
    obtain ⟨u2, hu2, ru2⟩ := r2.get hy
    have zl : z < s.heap.objs.size := Heap.lt_size hz
    refine mix_next ⟨d, hz, hT, hO, w1, w2, v1, v2⟩ (x := u1) (y := u2) (by simpa using hu1) (by simpa using hu2) fun h1 z1 o1 n1 n2 nT sz hk => ⟨_, rfl, ?_⟩
    refine wpAny_letOwnedTupleGo_zip (s := { s with heap := h1 }) z1 fun h2 z2 sb => ?_
    have nT2 : h2.get? s.heap.objs.size = some { cls := .type "tuple", data := .seq #[u1, u2] } := (sb.2 _ (Nat.ne_of_gt zl)).trans nT
    have nw : ObjOk X.prog X.w (upd H s.heap.objs.size (.tup [x, y])) h2 s.heap.objs.size (.tup [x, y]) := ⟨(by decide : 2 ≤ sizeLine), [u1, u2], .cons ru1 (.cons ru2 .nil), ⟨_, nT2, rfl, _, rfl⟩⟩
    have I1 : L2.Inv X pins σ (upd H s.heap.objs.size (.tup [x, y])) { s with heap := h2 } := I.turnedNew (t' := s.toks) (ch := [z, TI, TO, i1, i2]) (fun c o nb q => by
      have ne : ∀ y ∈ [z, TI, TO, i1, i2], c ≠ y := fun y hy e => nb (e ▸ hy)
      exact (sb.2 c (ne z (by simp))).trans (hk c o (ne z (by simp)) (ne TO (by simp)) (ne i1 (by simp)) (ne i2 (by simp)) q)) hf (Nat.le_refl _) nw
    refine ⟨.ref s.heap.objs.size, _, I1, rfl, ⟨_, x, y, rfl, I.hok.fresh (Nat.le_refl _), rfl, fun l hl => by rw [hl.one I q1]; exact hx, fun l hl => by rw [hl.one I q2]; exact hy⟩, ⟨z2, ?_, ⟨u1, u2, ?_⟩, ?_, ?_⟩, fun c hcm => ?_⟩
    · exact (sb.2 _ d.TIz).trans (hk _ _ d.TIz d.TITO d.TIi1 d.TIi2 hT)
    · exact (sb.2 _ d.TOz).trans o1
    · exact n1.keep fun o q => (sb.2 _ d.i1z).trans q
    · exact n2.keep fun o q => (sb.2 _ d.i2z).trans q
    · have lt : c < s.heap.objs.size := by
        rcases five hcm with e | e | e | e | e <;> subst e
        · exact zl
        · exact Heap.lt_size hT
        · exact Heap.lt_size hO
        · exact w1.lt
        · exact w2.lt
      rw [upd_ne (Nat.ne_of_lt lt)]
      exact (hf c hcm).1
  done := by
    intro X hP hw hK hc i pins s σ H E I hf st hg
    subst hP hw hK
    obtain ⟨hz, hT, ⟨x0, y0, hO⟩, w1, w2⟩ := st
    obtain ⟨xs, ys, q1, q2, he⟩ := hg
    obtain ⟨its1, r1, v1, _⟩ := q1.at I
    obtain ⟨its2, r2, v2, _⟩ := q2.at I
    have n1 := r1.length
    have n2 := r2.length
    have ee : its1.toArray[i]? = none ∨ its2.toArray[i]? = none := he.elim (fun q => .inl (by simp; omega)) fun q => .inr (by simp; omega)
    exact mix_done (I.ok.hd hc) ⟨d, hz, hT, hO, w1, w2, v1, v2⟩ ee fun h' hk => ⟨rfl, I.turnedL (t' := s.toks) (ch := [z, TI, TO, i1, i2]) (fun c o nb q => by
      have ne : ∀ y ∈ [z, TI, TO, i1, i2], c ≠ y := fun y hy e => nb (e ▸ hy)
      exact hk c o (ne z (by simp)) (ne TO (by simp)) (ne i1 (by simp)) (ne i2 (by simp)) q) hf⟩
  self := fun A i s Q E st h => wpAny_pyIter_zip st.1 h
def iMix (K : PySem.W.Frag) (ta : TA) : TI := fun σ H R => ta σ H fun vs H1 => ∃ a b xs ys t1 t2, vs = [.ref a, .ref b] ∧ SqX t1 K H1 a xs ∧ SqX t2 K H1 b ys ∧ R (ItM t1 t2 K a b) H1
theorem pi_mix {X : Cx} {e e2 : Expr} {ta : TA} {p pos tpos : Pos} {elts : List Expr} {kk : Nat} (hg : Gl X "zip") (hm : X.mg "zip" = none) (ha : PA X [e, e2] ta)
    (hs : starEach [e, e2] X.env = (false, eval e X.env) :: starEach [e2] X.env := by rfl) (hpl : (backTo pos (starEach [e2] X.env)).any (·.1) = false := by rfl) : PI X (.Tuple elts kk tpos) (.Call (.Name "zip" p) [e, e2] [] pos) (iMix X.K ta) := by
  refine ⟨fun pins s σ H R I h => ?_⟩
  refine Call_ (ld_blt I hg hm PyProof.Rows.boot_zip (PyProof.Rows.callWith_type1 (thn (ha.run pos pins s σ H _ I h) fun us s1 ⟨vs, H1, I1, r1, o1⟩ => ?_) hs hpl))
  obtain ⟨a, b, xs, ys, t1, t2, ex, q1, q2, q⟩ := o1
  subst ex
  cases r1 with
  | cons ra rr => cases rr with
    | cons rb rr =>
      cases rr
      cases ra
      cases rb
      obtain ⟨its1, _, v1, l1⟩ := q1.at I1
      obtain ⟨its2, _, v2, l2⟩ := q2.at I1
      refine mix_call v1 v2 fun h' hz hT hO w1 w2 hk => wpAny_pyIter_zip hz ?_
      have I2 : L2.Inv X pins σ H1 { s1 with heap := h' } := I1.kept (t' := s1.toks) hk
      refine ⟨s1.heap.objs.size + 4, [s1.heap.objs.size + 4, s1.heap.objs.size + 2, s1.heap.objs.size + 3, s1.heap.objs.size, s1.heap.objs.size + 1], _, _, H1, rfl, I2, turn_mix (PySem.W.ktu_apart s1.heap.objs.size a b l1 l2), ⟨hz, hT, ⟨_, _, hO⟩, w1, w2⟩, fun c hcm => ?_, q⟩
      have le : s1.heap.objs.size ≤ c := by rcases five hcm with e | e | e | e | e <;> subst e <;> omega
      exact I1.fpOk le (I1.hok.fresh le)
/-! over data -/
def seqOf : D → Option (Bool × List D)
  | .lst xs => some (false, xs)
  | .fz xs => some (false, xs)
  | .tup xs => some (true, xs)
  | .ft xs => some (true, xs)
  | _ => none
theorem seqOf_sq {K : PySem.W.Frag} {G : Hp} {ps : List Addr} {M : Sto} {H : Hp} {d : D} {v : V} {t : Bool} {ds : List D} (s : Sto0 K G ps M H) (r : Rep K G ps d v) (e : seqOf d = some (t, ds)) : ∃ a xs, v = .ref a ∧ SqX t K G a xs ∧ SqX t K H a xs ∧ Reps K G ps ds xs := by
  cases d with
  | lst xs => cases e; exact lst_sq s r
  | fz xs => cases e; exact fz_sq s r
  | tup xs => cases e; exact tup_sq s r
  | ft xs => cases e; exact ft_sq s r
  | _ => cases e
theorem sqX_later {t : Bool} {K : PySem.W.Frag} {G G' : Hp} {ps ps' : List Addr} {M : Sto} {H : Hp} {a : Addr} {xs : List V} (s : Sto0 K G' ps' M H) (x : Ext G ps G' ps') (h : SqX t K G a xs) : SqX t K H a xs := by
  cases t
  · exact s.seqL (x.seqL h)
  · exact s.seqT (x.seqT h)
theorem walks_mix {t1 t2 : Bool} {K : PySem.W.Frag} {G : Hp} {ps : List Addr} {a b : Addr} {xs ys : List V} {ds es : List D} (h : SqX t1 K G a xs) (r : Reps K G ps ds xs) (h2 : SqX t2 K G b ys) (r2 : Reps K G ps es ys) : Walks K G ps (ItM t1 t2 K a b) (zipD ds es) := fun i G' ps' M' H' x s => by
  have hs : SqX t1 K H' a xs := sqX_later s x h
  have hs2 : SqX t2 K H' b ys := sqX_later s x h2
  refine ⟨fun hl => ⟨xs, ys, hs, hs2, by rw [zipD_len] at hl; rw [← r.len, ← r2.len]; omega⟩, fun d e => ?_⟩
  obtain ⟨d1, d2, e1, e2, e3⟩ := zipD_get e
  obtain ⟨v1, g1, rv1⟩ := r.get e1
  obtain ⟨v2, g2, rv2⟩ := r2.get e2
  refine ⟨⟨xs, ys, v1, v2, hs, hs2, g1, g2⟩, fun y H'' z => ?_⟩
  obtain ⟨T, w1, w2, z1, z2, z3, z4, z5⟩ := z
  have q1 := z4 xs hs; rw [g1] at q1; cases q1
  have q2 := z5 ys hs2; rw [g2] at q2; cases q2
  subst z1; subst z3; subst e3
  exact pair_new s z2 (rv1.mono x) (rv2.mono x)
def zipA : List D → C (List D)
  | [x, y] => match seqOf x, seqOf y with
    | some (_, xs), some (_, ys) => C.pure (zipD xs ys)
    | _, _ => C.bad
  | _ => C.bad
theorem di_zipA {X : Cx} {W : WX} {e e2 : Expr} {gl : Env → C (List D)} {p pos tpos : Pos} {elts : List Expr} {kk : Nat} (ha : DA X W [e, e2] gl) (hg : Gl X "zip") (hm : X.mg "zip" = none) (hs : starEach [e, e2] X.env = (false, eval e X.env) :: starEach [e2] X.env := by rfl) (hpl : (backTo pos (starEach [e2] X.env)).any (·.1) = false := by rfl) :
    DI X W (.Tuple elts kk tpos) (.Call (.Name "zip" p) [e, e2] [] pos) (dRng zipA gl) :=
  pi_imp (pi_mix hg hm ha hs hpl) fun σ H R h => tds_mono (seqL (P := fun ds G ps _ H' => ∀ J, Walks X.K G ps J ds → R J H') (k := fun _ xs => zipA xs) h) fun vs H1 hh => by
    obtain ⟨G, ps, M, xs, s, r, p⟩ := hh.out
    unfold zipA at p
    split at p
    · obtain ⟨v, u, e, r1, r2⟩ := r.two; subst e
      rename_i dx dy
      cases q1 : seqOf dx with
      | none => rw [q1] at p; exact p.elim
      | some b1 => cases q2 : seqOf dy with
        | none => rw [q1, q2] at p; exact p.elim
        | some b2 =>
        rw [q1, q2] at p
        obtain ⟨a1, xs1, e1, g1, h1, w1⟩ := seqOf_sq s r1 q1
        obtain ⟨a2, xs2, e2, g2, h2, w2⟩ := seqOf_sq s r2 q2
        subst e1; subst e2
        exact ⟨a1, a2, xs1, xs2, _, _, rfl, h1, h2, p G ps H1 Stp.refl s _ (walks_mix g1 w1 g2 w2)⟩
    · exact p.elim
end DL
end
section
set_option Elab.async false
set_option linter.all false
set_option maxRecDepth 100000
set_option maxHeartbeats 1000000
/-! enumerate of a list or of a tuple -/
namespace DZ
open PySem
theorem draws {prog : Program} {w : World} {A : Around} (hh : A.handled = none) (t : Bool) (it l : Addr) (ne : l ≠ it) (xs : Array Value) :
    Draws prog w A it [it, l] xs.size (fun i v => xs[i]? = some v) (fun i h => SI t h it l i ∧ SS t h l xs) where
  live := fun i h st => by cases t <;> exact ⟨_, st.1.choose_spec.1⟩
  frame := fun i h h' st hk => ⟨st.1.keep fun o e => hk it (by simp) o e, st.2.keep fun o e => hk l (by simp) o e⟩
  item := fun i s Q E hi st q => SI.next st.1 st.2 (x := xs[i]) (by simp [hi]) fun h' n1 sb => q _ h' s.toks (by simp [hi]) ⟨n1, st.2.keep fun o e => (sb.2 _ ne).trans e⟩ sb
  done := fun s Q E st q => SI.over hh st.1 st.2 (by simp) q
theorem draws_end {prog : Program} {w : World} {A : Around} (hh : A.handled = none) (t : Bool) (it l : Addr) (xs : Array Value) (n : Nat) (hx : xs[n]? = none) :
    Draws prog w A it [it, l] n (fun _ _ => True) (fun i h => i = n ∧ SI t h it l i ∧ SS t h l xs) where
  live := fun i h st => by cases t <;> exact ⟨_, st.2.1.choose_spec.1⟩
  frame := fun i h h' st hk => ⟨st.1, st.2.1.keep fun o e => hk it (by simp) o e, st.2.2.keep fun o e => hk l (by simp) o e⟩
  item := fun i s Q E hi st q => absurd hi (by have := st.1; omega)
  done := fun s Q E st q => SI.over hh st.2.1 st.2.2 hx q
abbrev enO (n : Nat) : Obj := { cls := .type "enumerate", data := .fields #[.none, .bool false, .ref n, rawInt 0, .none, .none] }
theorem enu_made (t : Bool) (l : Addr) (xs : Array Value) :
    Meets (Builtin.«enumerate.__new__» ⟨[.type "enumerate", .ref l], []⟩) (fun _ R s => SS t s.heap l xs ∧ R (.ok (.ret (.ref (s.heap.push (itO t l)).objs.size))) { s with heap := (s.heap.push (itO t l)).push (enO s.heap.objs.size) }) :=
  .of_wp fun prog w A R s h => by
    obtain ⟨hp, g, d, tk, os⟩ := s
    obtain ⟨v1, h⟩ := h
    have sub := sub_enumerate
    have p1 : SS t (Shared.heap ⟨hp, g, d, tk, os⟩) l xs := v1
    wp_walk; refine wpAny_stack_any fun sk => wpAny_pure ?_
    split
    · rename_i c _ _ _ _ _
      cases c == Value.type "enumerate" <;> (wp_walk using SS.iter p1; exact ⟨_, rfl, h⟩)
    · wp_walk using SS.iter p1; exact ⟨_, rfl, h⟩
section
variable {prog : Program} {w : World} {A : Around} {E : Value → Shared → Prop} {s : Shared} {t : Bool} {l : Addr} {xs : Array Value}
theorem enu_call {Q : Value → Shared → Prop} (v1 : SS t s.heap l xs)
    (q : ∀ h', IsEnum h' (s.heap.objs.size + 1) s.heap.objs.size 0 .none → SI t h' s.heap.objs.size l 0 → (∀ c o, s.heap.get? c = some o → h'.get? c = some o) → Q (.ref (s.heap.objs.size + 1)) { s with heap := h' }) : wpAny (model prog w) A (call (.type "enumerate") [.ref l]) Q E s := by
  refine callType_new F.called_enumerate (by decide) (F.typeCall_enumerate_1 _) (F.newCall_enumerate_1 _) (fun ob => F.args_object_init_2 ob _) F.entry_enumerate_new (enu_made t l xs) ⟨v1, ?_⟩
  have n1 : (s.heap.push (itO t l)).objs.size = s.heap.objs.size + 1 := Heap.size_push ..
  have w2 : ((s.heap.push (itO t l)).push (enO s.heap.objs.size)).get? (s.heap.push (itO t l)).objs.size = some _ := Heap.get?_push_size _ rfl
  have w1 : ((s.heap.push (itO t l)).push (enO s.heap.objs.size)).get? s.heap.objs.size = some _ := Heap.get?_push_of_some _ (Heap.get?_push_size _ rfl)
  show _ ∧ _
  rw [n1] at w2 ⊢
  exact ⟨⟨_, w2, rfl⟩, q _ w2 (by cases t <;> exact ⟨_, w1, rfl, rfl⟩) fun c o e => Heap.get?_push_of_some _ (Heap.get?_push_of_some _ e)⟩
end
end DZ
namespace DL
open PySem PySem.Spec PyProof.Rows L2 RZ DZ
def ItN (t : Bool) (K : PySem.W.Frag) (a : Addr) : It :=
  ⟨fun i H => ∃ xs x, SqX t K H a xs ∧ xs[i]? = some x, fun i H v H' => ∃ T x, v = .ref T ∧ H T = none ∧ H' = upd H T (.tup [.int (i : Nat), x]) ∧ ∀ xs, SqX t K H a xs → xs[i]? = some x, fun i H => ∃ xs, SqX t K H a xs ∧ xs.length ≤ i⟩
def NAt (t : Bool) (e it a : Addr) (i : Nat) (h : Heap) : Prop := (∃ old, IsEnum h e it ((i : Nat) : Int) old) ∧ SI t h it a i ∧ e ≠ it ∧ a ≠ it ∧ a ≠ e
theorem duo {p q c : Addr} (h : c ∈ [p, q]) : c = p ∨ c = q := by simpa using h
theorem turn_enu {P : Program} {w : World} {K : PySem.W.Frag} {elts : List Expr} {kk : Nat} {tpos : Pos} (t : Bool) (a e it : Addr) : Turn P w K (.Tuple elts kk tpos) (ItN t K a) [e, it] e (NAt t e it a) where
  mem := List.mem_cons_self
  obj := fun i h st c hc => by
    obtain ⟨⟨old, he⟩, w1, _⟩ := st
    rcases duo hc with q | q <;> subst q
    · exact ⟨_, he, fun v q => nomatch q⟩
    · cases t <;> (obtain ⟨o, e, _, dd⟩ := w1; exact ⟨o, e, fun v q => by rw [dd] at q; cases q⟩)
  keep := fun i h h' st k => by
    obtain ⟨⟨old, he⟩, w1, r⟩ := st
    exact ⟨⟨old, k e (by simp) _ he⟩, w1.keep fun o q => k it (by simp) o q, r⟩
  item := by
    intro X hP hw hK hc i pins s σ H E I hf st hg
    subst hP hw hK
    obtain ⟨⟨old, he⟩, w1, ne, nl, na⟩ := st
    obtain ⟨xs, x, q1, hx⟩ := hg
    obtain ⟨its, r1, v1, _⟩ := q1.at I
    obtain ⟨u, hu, ru⟩ := r1.get hx
    have el : e < s.heap.objs.size := Heap.lt_size he
    have hi : i < its.toArray.size := by rw [List.size_toArray]; exact (List.getElem?_eq_some_iff.mp hu).1
    refine wpAny_pyNext_enum_itemD (draws (A := X.A.in1) (I.ok.hd hc) t it a nl its.toArray) he ⟨w1, v1⟩ hi ne (by simp; exact ⟨ne, Ne.symm na⟩) fun u' h1 tk pu ho st1 nT sz hk => ⟨_, rfl, ?_⟩
    have eu : u' = u := by have := pu; rw [List.getElem?_toArray, hu] at this; exact (Option.some.inj this).symm
    subst eu
    refine wpAny_letOwnedTupleGo_enum (s := { s with heap := h1, toks := tk + 1 }) ho fun h2 he2 sb => ?_
    have nT2 : h2.get? s.heap.objs.size = some { cls := .type "tuple", data := .seq #[.int i tk, u'] } := (sb.2 _ (Nat.ne_of_gt el)).trans nT
    have nw : ObjOk X.prog X.w (upd H s.heap.objs.size (.tup [.int (i : Nat), x])) h2 s.heap.objs.size (.tup [.int (i : Nat), x]) := ⟨(by decide : 2 ≤ sizeLine), [.int i tk, u'], .cons ⟨_, rfl⟩ (.cons ru .nil), ⟨_, nT2, rfl, _, rfl⟩⟩
    have I1 : L2.Inv X pins σ (upd H s.heap.objs.size (.tup [.int (i : Nat), x])) { s with heap := h2, toks := tk + 1 } := I.turnedNew (ch := [e, it]) (fun c o nb q => by
      have nn : ∀ y ∈ [e, it], c ≠ y := fun y hy q => nb (q ▸ hy)
      exact (sb.2 c (nn e (by simp))).trans (hk c o (nn e (by simp)) (nn it (by simp)) q)) hf (Nat.le_refl _) nw
    refine ⟨.ref s.heap.objs.size, _, I1, rfl, ⟨_, x, rfl, I.hok.fresh (Nat.le_refl _), rfl, fun l hl => by rw [hl.one I q1]; exact hx⟩, ⟨⟨u', ?_⟩, st1.1.keep fun o q => (sb.2 _ (Ne.symm ne)).trans q, ne, nl, na⟩, fun c hcm => ?_⟩
    · rw [show ((i + 1 : Nat) : Int) = (i : Int) + 1 by omega]; exact he2
    · have lt : c < s.heap.objs.size := by
        rcases duo hcm with q | q <;> subst q
        · exact el
        · exact w1.lt
      rw [upd_ne (Nat.ne_of_lt lt)]
      exact (hf c hcm).1
  done := by
    intro X hP hw hK hc i pins s σ H E I hf st hg
    subst hP hw hK
    obtain ⟨⟨old, he⟩, w1, ne, nl, na⟩ := st
    obtain ⟨xs, q1, hl⟩ := hg
    obtain ⟨its, r1, v1, _⟩ := q1.at I
    have n1 := r1.length
    obtain ⟨f0, f1, f2, f3, f4, f5⟩ := hf it (by simp)
    refine wpAny_pyNext_enum_endD (draws_end (A := X.A.in1) (I.ok.hd hc) t it a its.toArray i (by simp; omega)) he ⟨rfl, w1, v1⟩ fun h' eb => ⟨rfl, ?_⟩
    exact I.turned (t' := s.toks) (fun b o hb q => eb b o hb q) f0 f1 f3 f4 f5
  self := fun A i s Q E st h => by
    obtain ⟨⟨_, he⟩, _⟩ := st
    exact wpAny_pyIter_enum he h
def iEnuA (K : PySem.W.Frag) (ta : TA) : TI := fun σ H R => ta σ H fun vs H1 => ∃ a xs t, vs = [.ref a] ∧ SqX t K H1 a xs ∧ R (ItN t K a) H1
theorem pi_enuA {X : Cx} {e : Expr} {ta : TA} {p pos tpos : Pos} {elts : List Expr} {kk : Nat} (hg : Gl X "enumerate") (hm : X.mg "enumerate" = none) (ha : PA X [e] ta) (hs : starEach [e] X.env = [(false, eval e X.env)] := by rfl) :
    PI X (.Tuple elts kk tpos) (.Call (.Name "enumerate" p) [e] [] pos) (iEnuA X.K ta) := by
  refine ⟨fun pins s σ H R I h => ?_⟩
  refine Call_ (ld_blt I hg hm boot_enumerate (PyProof.Rows.callWith_type1 (thn (ha.run pos pins s σ H _ I h) fun us s1 ⟨vs, H1, I1, r1, o1⟩ => ?_) hs rfl))
  obtain ⟨a, xs, t, ex, q1, q⟩ := o1
  subst ex
  cases r1 with
  | cons ra rr =>
    cases rr
    cases ra
    obtain ⟨its1, _, v1, l1⟩ := q1.at I1
    refine enu_call v1 fun h' he w1 hk => wpAny_pyIter_enum he ?_
    have I2 : L2.Inv X pins σ H1 { s1 with heap := h' } := I1.kept (t' := s1.toks) hk
    refine ⟨s1.heap.objs.size + 1, [s1.heap.objs.size + 1, s1.heap.objs.size], _, _, H1, rfl, I2, turn_enu t a (s1.heap.objs.size + 1) s1.heap.objs.size, ⟨⟨.none, he⟩, w1, Nat.succ_ne_self _, Nat.ne_of_lt l1, Nat.ne_of_lt (Nat.lt_succ_of_lt l1)⟩, fun c hcm => ?_, q⟩
    have le : s1.heap.objs.size ≤ c := by rcases duo hcm with e | e <;> subst e <;> omega
    exact I1.fpOk le (I1.hok.fresh le)
theorem walks_enuA {t : Bool} {K : PySem.W.Frag} {G : Hp} {ps : List Addr} {a : Addr} {xs : List V} {ds : List D} (h : SqX t K G a xs) (r : Reps K G ps ds xs) : Walks K G ps (ItN t K a) (enuD 0 ds) := fun i G' ps' M' H' x s => by
  have hs : SqX t K H' a xs := sqX_later s x h
  refine ⟨fun hl => ⟨xs, hs, by rw [enuD_len] at hl; rw [← r.len]; omega⟩, fun d e => ?_⟩
  obtain ⟨d1, e1, e3⟩ := enuD_get e
  obtain ⟨v1, g1, rv1⟩ := r.get e1
  refine ⟨⟨xs, v1, hs, g1⟩, fun y H'' z => ?_⟩
  obtain ⟨T, w1, z1, z2, z3, z4⟩ := z
  have q1 := z4 xs hs; rw [g1] at q1; cases q1
  subst z1; subst z3; subst e3
  rw [Nat.zero_add]
  exact pair_new s z2 Rep.int_of (rv1.mono x)
def enuA : List D → C (List D)
  | [x] => match seqOf x with
    | some (_, xs) => C.pure (enuD 0 xs)
    | none => C.bad
  | _ => C.bad
theorem di_enuA {X : Cx} {W : WX} {e : Expr} {gl : Env → C (List D)} {p pos tpos : Pos} {elts : List Expr} {kk : Nat} (ha : DA X W [e] gl) (hg : Gl X "enumerate") (hm : X.mg "enumerate" = none) (hs : starEach [e] X.env = [(false, eval e X.env)] := by rfl) :
    DI X W (.Tuple elts kk tpos) (.Call (.Name "enumerate" p) [e] [] pos) (dRng enuA gl) :=
  pi_imp (pi_enuA hg hm ha hs) fun σ H R h => tds_mono (seqL (P := fun ds G ps _ H' => ∀ J, Walks X.K G ps J ds → R J H') (k := fun _ xs => enuA xs) h) fun vs H1 hh => by
    obtain ⟨G, ps, M, xs, s, r, p⟩ := hh.out
    unfold enuA at p
    split at p
    · obtain ⟨v, e, r1⟩ := r.one; subst e
      rename_i dx
      cases q1 : seqOf dx with
      | none => rw [q1] at p; exact p.elim
      | some b1 =>
        rw [q1] at p
        obtain ⟨a1, xs1, e1, g1, h1, w1⟩ := seqOf_sq s r1 q1
        subst e1
        exact ⟨a1, xs1, _, rfl, h1, p G ps H1 Stp.refl s _ (walks_enuA g1 w1)⟩
    · exact p.elim
end DL
end
section
set_option Elab.async false
set_option linter.all false
set_option maxRecDepth 100000
set_option maxHeartbeats 1000000
/-! reckoning with computations over data -/
namespace DL
open PySem PySem.Spec PyProof.Rows L2
abbrev EC := Str → List Str → List D → Sto → Prop
/-- it comes out so -/
def wp {α : Type} (x : Res α) (Q : α → Sto → Prop) (E : EC) : Prop := match x with
  | .ok a M => Q a M
  | .err c fn ds M => E c fn ds M
  | .bad => False
section
variable {α β : Type} {Q : α → Sto → Prop} {E : EC}
theorem wp_ok {a : α} {M : Sto} : wp (.ok a M) Q E = Q a M := rfl
theorem wp_err {c : Str} {fn : List Str} {ds : List D} {M : Sto} : wp (.err c fn ds M : Res α) Q E = E c fn ds M := rfl
theorem wp_bad : wp (.bad : Res α) Q E = False := rfl
theorem wp_pure {a : α} {M : Sto} : wp (C.pure a M) Q E = Q a M := rfl
theorem wp_cbad {M : Sto} : wp (C.bad M : Res α) Q E = False := rfl
theorem wp_bind {x : C β} {f : β → C α} {M : Sto} : wp (C.bind x f M) Q E = wp (x M) (fun b M' => wp (f b M') Q E) E := by
  unfold C.bind; cases x M <;> rfl
theorem wp_rbind {x : Res β} {f : β → C α} : wp (x.bind f) Q E = wp x (fun b M' => wp (f b M') Q E) E := by cases x <;> rfl
theorem wp_mono {x : Res α} {Q' : α → Sto → Prop} {E' : EC} (h : wp x Q E) (hq : ∀ a M, Q a M → Q' a M) (he : ∀ c fn ds M, E c fn ds M → E' c fn ds M) : wp x Q' E' := by
  cases x with
  | ok a M => exact hq _ _ h
  | err c fn ds M => exact he _ _ _ _ h
  | bad => exact h
theorem wp_ne {x : C α} {M : Sto} : wp (C.ne x M) Q E = wp (x M) Q (fun _ _ _ _ => False) := by
  unfold C.ne; cases x M <;> rfl
theorem wp_if {c : Prop} [Decidable c] {x y : C α} {M : Sto} : wp ((if c then x else y) M) Q E = if c then wp (x M) Q E else wp (y M) Q E := by
  by_cases h : c
  · rw [if_pos h, if_pos h]
  · rw [if_neg h, if_neg h]
theorem wp_eq {x : Res α} {a : α} {M : Sto} (h : wp x (fun b M' => b = a ∧ M' = M) (fun _ _ _ _ => False)) : x = .ok a M := by
  cases x with
  | ok b M' => obtain ⟨e1, e2⟩ := h; subst e1; subst e2; rfl
  | err c fn ds M => exact h.elim
  | bad => exact h.elim
theorem wp_ex {x : Res α} {R : α → Prop} (h : wp x (fun b _ => R b) (fun _ _ _ _ => False)) : ∃ b M', x = .ok b M' ∧ R b := by
  cases x with
  | ok b M' => exact ⟨b, M', rfl, h⟩
  | err c fn ds M => exact h.elim
  | bad => exact h.elim
end
section
variable {Q : Out → Sto → Prop} {E : EC} {ρ : Env} {M : Sto} {t u b : SF}
theorem wp_lift {α : Type} {e : Env → C α} {k : Env → α → C Out} : wp (lift e k ρ M) Q E = wp (e ρ M) (fun a M' => wp (k ρ a M') Q E) (fun c fn ds M' => Q (.ex c fn ds ρ) M') := by
  unfold lift; cases e ρ M <;> rfl
def seqQ (u : SF) (Q : Out → Sto → Prop) (E : EC) : Out → Sto → Prop := fun o M' => match o with
  | .nx ρ' => wp (u ρ' M') Q E
  | o => Q o M'
theorem wp_seq : wp (sSeq t u ρ M) Q E = wp (t ρ M) (seqQ u Q E) E := by
  unfold sSeq seqQ
  cases t ρ M with
  | ok o M' => cases o <;> rfl
  | err c fn ds M' => rfl
  | bad => rfl
theorem seqQ_nx {M' : Sto} {ρ' : Env} : seqQ u Q E (.nx ρ') M' = wp (u ρ' M') Q E := rfl
theorem seqQ_rt {M' : Sto} {d : D} : seqQ u Q E (.rt d) M' = Q (.rt d) M' := rfl
theorem seqQ_bk {M' : Sto} {ρ' : Env} : seqQ u Q E (.bk ρ') M' = Q (.bk ρ') M' := rfl
theorem seqQ_ct {M' : Sto} {ρ' : Env} : seqQ u Q E (.ct ρ') M' = Q (.ct ρ') M' := rfl
theorem seqQ_ex {M' : Sto} {ρ' : Env} {c : Str} {fn : List Str} {ds : List D} : seqQ u Q E (.ex c fn ds ρ') M' = Q (.ex c fn ds ρ') M' := rfl
theorem wp_sNx : wp (sNx ρ M) Q E = Q (.nx ρ) M := rfl
theorem wp_sIf {c : Env → C Bool} : wp (sIf c t u ρ M) Q E = wp (c ρ M) (fun b M' => wp (if b = true then t ρ M' else u ρ M') Q E) (fun c fn ds M' => Q (.ex c fn ds ρ) M') := by
  unfold sIf
  rw [wp_lift]
  congr 1
  funext b M'
  by_cases h : b = true
  · rw [if_pos h, if_pos h]
  · rw [if_neg h, if_neg h]
theorem wp_sAsg {f : Env → C D} {q : Pat} : wp (sAsg f q ρ M) Q E = wp (f ρ M) (fun d M' => match q.put M' d ρ with
    | some ρ' => Q (.nx ρ') M'
    | none => False) (fun c fn ds M' => Q (.ex c fn ds ρ) M') := by
  unfold sAsg
  rw [wp_lift]
  congr 1
  funext d M'
  cases q.put M' d ρ <;> rfl
theorem wp_sAsgT {f : Env → C D} {l : List Pat} : wp (sAsg f (.tp l) ρ M) Q E = wp (f ρ M) (fun d M' => match (Pat.tp l).put M' d ρ with
    | some ρ' => Q (.nx ρ') M'
    | none => False) (fun c fn ds M' => Q (.ex c fn ds ρ) M') := wp_sAsg
theorem wp_sSet {f : Env → C D} {i : Nat} : wp (sAsg f (.nm i) ρ M) Q E = wp (f ρ M) (fun d M' => Q (.nx (ρ.set i (some d))) M') (fun c fn ds M' => Q (.ex c fn ds ρ) M') := by
  rw [wp_sAsg]
  congr 1
theorem wp_def {n np : Nat} {ds : List D} {Q : D → Sto → Prop} : wp (dDef n np b ds M) Q E = if ds.length = np then wp (b (ds.map some ++ List.replicate (n - np) none) M) (fun o M' => wp (outC o M') Q E) (fun _ _ _ _ => False) else False := by
  unfold dDef
  by_cases h : ds.length = np
  · rw [if_pos h, if_pos h]
    cases b (ds.map some ++ List.replicate (n - np) none) M with
    | ok o M' => rfl
    | err c fn ds M' => rfl
    | bad => rfl
  · rw [if_neg h, if_neg h]; rfl
theorem outC_rt {d : D} {M : Sto} {Q : D → Sto → Prop} : wp (outC (.rt d) M) Q E = Q d M := rfl
theorem outC_nx {ρ : Env} {M : Sto} {Q : D → Sto → Prop} : wp (outC (.nx ρ) M) Q E = Q .non M := rfl
theorem outC_ex {ρ : Env} {c : Str} {fn : List Str} {ds : List D} {M : Sto} {Q : D → Sto → Prop} : wp (outC (.ex c fn ds ρ) M) Q E = E c fn ds M := rfl
/-! loops -/
def turnQ (Q : Out → Sto → Prop) (I : Env → Sto → Prop) : Out → Sto → Prop := fun o M' => match o with
  | .nx ρ' => I ρ' M'
  | .ct ρ' => I ρ' M'
  | .bk ρ' => Q (.nx ρ') M'
  | .rt d => Q (.rt d) M'
  | .ex c fn ds ρ' => Q (.ex c fn ds ρ') M'
theorem wp_turn {k : SF} : wp (turnS k b ρ M) Q E = wp (b ρ M) (turnQ Q fun ρ' M' => wp (k ρ' M') Q E) E := by
  unfold turnS turnQ
  cases b ρ M with
  | ok o M' => cases o <;> rfl
  | err c fn ds M' => rfl
  | bad => rfl
theorem wp_for {q : Pat} (I : Nat → Env → Sto → Prop) : ∀ {ds : List D} {i : Nat} {ρ : Env} {M : Sto},
    (∀ j d ρ M, ds[j]? = some d → I (i + j) ρ M → ∃ ρ1, q.put M d ρ = some ρ1 ∧ wp (b ρ1 M) (turnQ Q (I (i + j + 1))) E) → I i ρ M → (∀ ρ M, I (i + ds.length) ρ M → Q (.nx ρ) M) → wp (forS q b ds ρ M) Q E
  | [], i, ρ, M, _, h0, he => he ρ M h0
  | d :: ds, i, ρ, M, hs, h0, he => by
    obtain ⟨ρ1, e, h⟩ := hs 0 d ρ M rfl h0
    show wp (match q.put M d ρ with
      | some ρ1 => turnS (forS q b ds) b ρ1 M
      | none => .bad) Q E
    rw [e]
    show wp (turnS (forS q b ds) b ρ1 M) Q E
    rw [wp_turn]
    refine wp_mono h (fun o M' ho => ?_) fun _ _ _ _ z => z
    have go : ∀ ρ' M', I (i + 0 + 1) ρ' M' → wp (forS q b ds ρ' M') Q E := fun ρ' M' hi =>
      wp_for (i := i + 1) I (fun j d ρ M hd hj => by
        obtain ⟨ρ2, e2, h2⟩ := hs (j + 1) d ρ M hd (by rw [show i + (j + 1) = i + 1 + j by omega]; exact hj)
        exact ⟨ρ2, e2, by rw [show i + 1 + j + 1 = i + (j + 1) + 1 by omega]; exact h2⟩) hi (fun ρ M hm => he ρ M (by rw [List.length_cons, show i + (ds.length + 1) = i + 1 + ds.length by omega]; exact hm))
    unfold turnQ at ho ⊢
    cases o with
    | nx ρ' => exact go ρ' M' ho
    | ct ρ' => exact go ρ' M' ho
    | bk ρ' => exact ho
    | rt d => exact ho
    | ex c fn ds ρ' => exact ho
theorem wp_sFor {q : Pat} {it : Env → C (List D)} : wp (sFor it q b ρ M) Q E = wp (it ρ M) (fun ds M' => wp (forS q b ds ρ M') Q E) (fun c fn ds M' => Q (.ex c fn ds ρ) M') := wp_lift
theorem turn_eq {k k' : SF} (hk : ∀ ρ M, k ρ M ≠ .bad → k' ρ M = k ρ M) (h : turnS k b ρ M ≠ .bad) : turnS k' b ρ M = turnS k b ρ M := by
  unfold turnS at h ⊢
  cases q : b ρ M with
  | ok o M' =>
    rw [q] at h
    cases o with
    | nx ρ' => exact hk _ _ h
    | ct ρ' => exact hk _ _ h
    | _ => rfl
  | _ => rfl
theorem whileN_succ {c : Env → C Bool} : ∀ (n : Nat) (ρ : Env) (M : Sto), whileN c b n ρ M ≠ .bad → whileN c b (n + 1) ρ M = whileN c b n ρ M
  | 0, ρ, M, h => (h rfl).elim
  | n + 1, ρ, M, h => by
    unfold whileN lift at h ⊢
    cases q : c ρ M with
    | ok x M' =>
      rw [q] at h
      cases x with
      | true =>
        simp only [if_true] at h ⊢
        exact turn_eq (whileN_succ n) h
      | false => rfl
    | _ => rfl
theorem whileN_le {c : Env → C Bool} {n m : Nat} (hl : n ≤ m) {ρ : Env} {M : Sto} (h : whileN c b n ρ M ≠ .bad) : whileN c b m ρ M = whileN c b n ρ M := by
  induction hl with
  | refl => rfl
  | step hl ih => exact (whileN_succ _ _ _ (by rw [ih]; exact h)).trans ih
theorem whileS_of {c : Env → C Bool} {n : Nat} {ρ : Env} {M : Sto} (h : whileN c b n ρ M ≠ .bad) : whileS c b ρ M = whileN c b n ρ M := by
  unfold whileS
  rw [dif_pos ⟨n, h⟩]
  have hc := Classical.choose_spec (⟨n, h⟩ : ∃ n, whileN c b n ρ M ≠ .bad)
  rcases Nat.le_total n (Classical.choose (⟨n, h⟩ : ∃ n, whileN c b n ρ M ≠ .bad)) with l | l
  · exact whileN_le l h
  · exact (whileN_le l hc).symm
theorem wp_ne_bad {α : Type} {x : Res α} {Q : α → Sto → Prop} {E : EC} (h : wp x Q E) : x ≠ .bad := fun e => by rw [e] at h; exact h
theorem wp_whileN {c : Env → C Bool} (I : Nat → Env → Sto → Prop) (hs : ∀ n ρ M, I n ρ M → wp (c ρ M) (fun x M' => if x = true then wp (b ρ M') (turnQ Q fun ρ' M'' => ∃ m, m < n ∧ I m ρ' M'') E else Q (.nx ρ) M') (fun c fn ds M' => Q (.ex c fn ds ρ) M')) :
    ∀ n ρ M, I n ρ M → wp (whileN c b (n + 1) ρ M) Q E := fun n => by
  induction n using Nat.strongRecOn with
  | _ n ih =>
    intro ρ M hi
    unfold whileN
    rw [wp_lift]
    refine wp_mono (hs n ρ M hi) (fun x M' hx => ?_) fun _ _ _ _ z => z
    cases x with
    | false => exact hx
    | true =>
      simp only [if_true] at hx ⊢
      rw [wp_turn]
      refine wp_mono hx (fun o M'' ho => ?_) fun _ _ _ _ z => z
      have go : ∀ ρ' M'', (∃ m, m < n ∧ I m ρ' M'') → wp (whileN c b n ρ' M'') Q E := fun ρ' M'' ⟨m, hm, hi'⟩ => by
        have h := ih m hm ρ' M'' hi'
        have e := whileN_le (c := c) (b := b) (show m + 1 ≤ n by omega) (wp_ne_bad h)
        rw [e]; exact h
      unfold turnQ at ho ⊢
      cases o with
      | nx ρ' => exact go ρ' M'' ho
      | ct ρ' => exact go ρ' M'' ho
      | bk ρ' => exact ho
      | rt d => exact ho
      | ex c fn ds ρ' => exact ho
theorem wp_while {c : Env → C Bool} (I : Nat → Env → Sto → Prop) (hs : ∀ n ρ M, I n ρ M → wp (c ρ M) (fun x M' => if x = true then wp (b ρ M') (turnQ Q fun ρ' M'' => ∃ m, m < n ∧ I m ρ' M'') E else Q (.nx ρ) M') (fun c fn ds M' => Q (.ex c fn ds ρ) M'))
    {n : Nat} {ρ : Env} {M : Sto} (h0 : I n ρ M) : wp (whileS c b ρ M) Q E := by
  have h := wp_whileN I hs n ρ M h0
  rw [whileS_of (wp_ne_bad h)]
  exact h
end
/-! comprehensions -/
theorem wp_lc {q : Pat} {t : Env → C Bool} {e : Env → C D} {ρ : Env} {Q : List D → Sto → Prop} {E : EC} (I : Nat → List D → Sto → Prop) : ∀ {ds : List D} {i : Nat} {acc : List D} {M : Sto},
    (∀ j d acc M, ds[j]? = some d → I (i + j) acc M → ∃ ρ1, q.put M d ρ = some ρ1 ∧ wp (t ρ1 M) (fun b M' => if b = true then wp (e ρ1 M') (fun y M'' => acc.length < sizeLine ∧ I (i + j + 1) (acc ++ [y]) M'') (fun _ _ _ _ => False) else I (i + j + 1) acc M') (fun _ _ _ _ => False)) →
    I i acc M → (∀ acc M, I (i + ds.length) acc M → Q acc M) → wp (lcS q t e ρ ds acc M) Q E
  | [], i, acc, M, _, h0, he => he acc M h0
  | d :: ds, i, acc, M, hs, h0, he => by
    obtain ⟨ρ1, ep, h⟩ := hs 0 d acc M rfl h0
    show wp (match q.put M d ρ with
      | some ρ1 => C.bind (C.ne (t ρ1)) (fun b => if b = true then C.bind (C.ne (e ρ1)) (fun y => if acc.length < sizeLine then lcS q t e ρ ds (acc ++ [y]) else C.bad) else lcS q t e ρ ds acc) M
      | none => .bad) Q E
    rw [ep]
    show wp (C.bind (C.ne (t ρ1)) (fun b => if b = true then C.bind (C.ne (e ρ1)) (fun y => if acc.length < sizeLine then lcS q t e ρ ds (acc ++ [y]) else C.bad) else lcS q t e ρ ds acc) M) Q E
    have go : ∀ acc M', I (i + 0 + 1) acc M' → wp (lcS q t e ρ ds acc M') Q E := fun acc M' hi =>
      wp_lc (i := i + 1) I (fun j d acc M hd hj => by
        obtain ⟨ρ2, e2, h2⟩ := hs (j + 1) d acc M hd (by rw [show i + (j + 1) = i + 1 + j by omega]; exact hj)
        exact ⟨ρ2, e2, by rw [show i + 1 + j + 1 = i + (j + 1) + 1 by omega]; exact h2⟩) hi (fun acc M hm => he acc M (by rw [List.length_cons, show i + (ds.length + 1) = i + 1 + ds.length by omega]; exact hm))
    rw [wp_bind, wp_ne]
    refine wp_mono h (fun b M' hb => ?_) fun _ _ _ _ z => z.elim
    cases b with
    | false => simp only [Bool.false_eq_true, if_false] at hb ⊢; exact go _ _ hb
    | true =>
      simp only [if_true] at hb ⊢
      rw [wp_bind, wp_ne]
      refine wp_mono hb (fun y M'' hy => ?_) fun _ _ _ _ z => z.elim
      rw [if_pos hy.1]
      exact go _ _ hy.2
end DL
end
section
set_option Elab.async false
set_option linter.all false
set_option maxRecDepth 100000
set_option maxHeartbeats 1000000
namespace DL
open PySem PySem.Spec PyProof.Rows L2
section
variable {α : Type} {Q : D → Sto → Prop} {QL : List D → Sto → Prop} {QB : Bool → Sto → Prop} {QO : Out → Sto → Prop} {E : EC} {ρ : Env} {M : Sto} {f g : Env → C D} {h : Env → C (List D)} {t u : Env → C Bool} {k : D → D → C D} {kU : D → C D} {kL : List D → C D} {x y d : D} {i j : Int} {b : Bool}
theorem wp_dB : wp (dB k f g ρ M) Q E = wp (f ρ M) (fun x M1 => wp (g ρ M1) (fun y M2 => wp (k x y M2) Q E) E) E := by unfold dB; rw [wp_bind]; congr 1; funext x M1; rw [wp_bind]
theorem wp_dU : wp (dU kU f ρ M) Q E = wp (f ρ M) (fun x M1 => wp (kU x M1) Q E) E := by unfold dU; rw [wp_bind]
theorem wp_cB : wp (cB kL h ρ M) Q E = wp (h ρ M) (fun xs M1 => wp (kL xs M1) Q E) E := by unfold cB; rw [wp_bind]
theorem wp_aNil : wp (aNil ρ M) QL E = QL [] M := rfl
theorem wp_aCons : wp (aCons f h ρ M) QL E = wp (f ρ M) (fun x M1 => wp (h ρ M1) (fun xs M2 => QL (x :: xs) M2) E) E := by
  unfold aCons; rw [wp_bind]; congr 1; funext x M1; rw [wp_bind]; rfl
theorem wp_dC : wp (dC d ρ M) Q E = Q d M := rfl
theorem wp_var0 {r : Env} : wp (dVar 0 (some d :: r) M) Q E = Q d M := rfl
theorem wp_varS {r : Env} {o : Option D} {n : Nat} : wp (dVar (n + 1) (o :: r) M) Q E = wp (dVar n r M) Q E := rfl
theorem wp_tV : wp (tV f ρ M) QB E = wp (f ρ M) (fun x M1 => wp (asB x M1) QB E) E := by unfold tV; rw [wp_bind]
theorem wp_asB : wp (asB (.bl b) M) QB E = QB b M := rfl
theorem wp_tNot : wp (tNotD t ρ M) QB E = wp (t ρ M) (fun b M1 => QB (!b) M1) E := by unfold tNotD; rw [wp_bind]; rfl
theorem wp_tAnd : wp (tAndD t u ρ M) QB E = wp (t ρ M) (fun b M1 => if b = true then wp (u ρ M1) QB E else QB false M1) E := by
  unfold tAndD; rw [wp_bind]; congr 1; funext b M1; rw [wp_if]; rfl
theorem wp_tOr : wp (tOrD t u ρ M) QB E = wp (t ρ M) (fun b M1 => if b = true then QB true M1 else wp (u ρ M1) QB E) E := by
  unfold tOrD; rw [wp_bind]; congr 1; funext b M1; rw [wp_if]; rfl
theorem wp_vAnd : wp (vAnd f g ρ M) Q E = wp (f ρ M) (fun x M1 => wp (asB x M1) (fun b M2 => if b = true then wp (g ρ M2) Q E else Q (.bl false) M2) E) E := by
  unfold vAnd; rw [wp_bind, wp_tV]; congr 1; funext x M1; congr 1; funext b M2; rw [wp_if]; rfl
theorem wp_vOr : wp (vOr f g ρ M) Q E = wp (f ρ M) (fun x M1 => wp (asB x M1) (fun b M2 => if b = true then Q (.bl true) M2 else wp (g ρ M2) Q E) E) E := by
  unfold vOr; rw [wp_bind, wp_tV]; congr 1; funext x M1; congr 1; funext b M2; rw [wp_if]; rfl
theorem wp_vNot : wp (vNot f ρ M) Q E = wp (f ρ M) (fun x M1 => wp (asB x M1) (fun b M2 => Q (.bl (!b)) M2) E) E := by
  unfold vNot; rw [wp_bind, wp_tV]; rfl
theorem wp_vIf : wp (vIf t f g ρ M) Q E = wp (t ρ M) (fun b M1 => if b = true then wp (f ρ M1) Q E else wp (g ρ M1) Q E) E := by
  unfold vIf; rw [wp_bind]; congr 1; funext b M1; rw [wp_if]
theorem wp_dTup : wp (dTup h ρ M) Q E = wp (h ρ M) (fun xs M1 => xs.length ≤ sizeLine ∧ Q (.tup xs) M1) E := by
  unfold dTup; rw [wp_bind]; congr 1; funext xs M1; rw [wp_if, wp_pure, wp_cbad]
  by_cases z : xs.length ≤ sizeLine <;> simp [z]
theorem wp_dLst : wp (dLst h ρ M) Q E = wp (h ρ M) (fun xs M1 => xs.length ≤ sizeLine ∧ Q (.lst xs) M1) E := by
  unfold dLst; rw [wp_bind]; congr 1; funext xs M1; rw [wp_if, wp_pure, wp_cbad]
  by_cases z : xs.length ≤ sizeLine <;> simp [z]
theorem wp_dLstM : wp (dLstM h ρ M) Q E = wp (h ρ M) (fun xs M1 => xs.length ≤ sizeLine ∧ Q (.ptr M1.length) (M1 ++ [.lst xs])) E := by
  unfold dLstM; rw [wp_bind]; congr 1; funext xs M1; rw [wp_if, wp_cbad]
  by_cases z : xs.length ≤ sizeLine
  · simp only [z, if_true, true_and]; rfl
  · simp only [z, if_false, false_and]
theorem wp_dDic0 : wp (dDic0 ρ M) Q E = Q (.dic [] []) M := rfl
theorem wp_sRt : wp (sRt f ρ M) QO E = wp (f ρ M) (fun d M1 => QO (.rt d) M1) (fun c fn ds M' => QO (.ex c fn ds ρ) M') := by unfold sRt; rw [wp_lift]; rfl
theorem wp_sEx : wp (sEx f ρ M) QO E = wp (f ρ M) (fun d M1 => QO (.nx ρ) M1) (fun c fn ds M' => QO (.ex c fn ds ρ) M') := by unfold sEx; rw [wp_lift]; rfl
theorem wp_sPar {a c : Nat} : wp (sPar a c h ρ M) QO E = wp (h ρ M) (fun ds M1 => ∃ d e, ds = [d, e] ∧ QO (.nx ((ρ.set a (some d)).set c (some e))) M1) (fun c fn ds M' => QO (.ex c fn ds ρ) M') := by
  unfold sPar; rw [wp_lift]; congr 1; funext ds M1
  cases ds with
  | nil => exact propext ⟨fun z => z.elim, fun ⟨_, _, z, _⟩ => nomatch z⟩
  | cons a l => cases l with
    | nil => exact propext ⟨fun z => z.elim, fun ⟨_, _, z, _⟩ => nomatch z⟩
    | cons b l => cases l with
      | nil => exact propext ⟨fun z => ⟨a, b, rfl, z⟩, fun ⟨_, _, z, q⟩ => by cases z; exact q⟩
      | cons c l => exact propext ⟨fun z => z.elim, fun ⟨_, _, z, _⟩ => nomatch z⟩
theorem wp_sSub {o p : Env → C D} : wp (sSub f o p ρ M) QO E = wp (f ρ M) (fun v M1 => wp (o ρ M1) (fun x M2 => wp (p ρ M2) (fun y M3 => wp (setAt x y v (C.pure (.nx ρ)) M3) QO E) (fun c fn ds M' => QO (.ex c fn ds ρ) M')) (fun c fn ds M' => QO (.ex c fn ds ρ) M')) (fun c fn ds M' => QO (.ex c fn ds ρ) M') := by
  unfold sSub; rw [wp_lift]; congr 1; funext v M1; rw [wp_lift]; congr 1; funext x M2; rw [wp_lift]
/-! primitives -/
theorem wp_sub : wp (dSub (.int i) (.int j) M) Q E = Q (.int (i - j)) M := rfl
theorem wp_add : wp (dAdd (.int i) (.int j) M) Q E = Q (.int (i + j)) M := rfl
theorem wp_lt : wp (dLt (.int i) (.int j) M) Q E = Q (.bl (decide (i < j))) M := rfl
theorem wp_le : wp (dLe (.int i) (.int j) M) Q E = Q (.bl (decide (i ≤ j))) M := rfl
theorem wp_gt : wp (dGt (.int i) (.int j) M) Q E = Q (.bl (decide (j < i))) M := rfl
theorem wp_ge : wp (dGe (.int i) (.int j) M) Q E = Q (.bl (decide (j ≤ i))) M := rfl
theorem wp_neg : wp (dNeg (.int i) M) Q E = Q (.int (-i)) M := rfl
theorem wp_mod : wp (dMod (.int i) (.int j) M) Q E = (0 < j ∧ Q (.int (i % j)) M) := by
  show wp ((if decide (0 < j) = true then C.pure (D.int (i % j)) else C.bad) M) Q E = _
  rw [wp_if, wp_pure, wp_cbad]; by_cases z : 0 < j <;> simp [z]
theorem wp_fdiv : wp (dFdiv (.int i) (.int j) M) Q E = ((0 < j ∧ small2 9000 j = true) ∧ Q (.int (i / j)) M) := by
  show wp ((if (decide (0 < j) && small2 9000 j) = true then C.pure (D.int (i / j)) else C.bad) M) Q E = _
  rw [wp_if, wp_pure, wp_cbad]; by_cases z : 0 < j <;> by_cases z2 : small2 9000 j = true <;> simp [z, z2]
theorem wp_pow : wp (dPow (.int i) (.int j) M) Q E = ((0 ≤ j ∧ j ≤ 1000000 ∧ i.natAbs < 2 ^ 64) ∧ Q (.int (i ^ j.toNat)) M) := by
  show wp ((if decide (0 ≤ j ∧ j ≤ 1000000 ∧ i.natAbs < 2 ^ 64) = true then C.pure (D.int (i ^ j.toNat)) else C.bad) M) Q E = _
  rw [wp_if, wp_pure, wp_cbad]; by_cases z : 0 ≤ j ∧ j ≤ 1000000 ∧ i.natAbs < 2 ^ 64 <;> simp only [z, decide_true, decide_false, if_true, if_false, true_and, false_and, Bool.false_eq_true]
theorem wp_mul : wp (dMul (.int i) (.int j) M) Q E = (mulOk i j = true ∧ Q (.int (i * j)) M) := by
  show wp ((if mulOk i j = true then C.pure (D.int (i * j)) else C.bad) M) Q E = _
  rw [wp_if, wp_pure, wp_cbad]; by_cases z : mulOk i j = true <;> simp [z]
theorem wp_int : wp (dInt [.int i] M) Q E = Q (.int i) M := rfl
theorem wp_intb : wp (dInt [.bl b] M) Q E = Q (.int (if b then 1 else 0)) M := rfl
theorem wp_abs : wp (dAbs [.int i] M) Q E = Q (.int (if i < 0 then -i else i)) M := rfl
theorem wp_gcd : wp (dGcd [.int i, .int j] M) Q E = Q (.int ((Nat.gcd i.natAbs j.natAbs : Nat) : Int)) M := rfl
def notStr : D → Bool
  | .str _ => false
  | _ => true
theorem eqv_unf {neg : Bool} (hs : notStr x = true) : dEqv neg x y M = match pyM M x, pyM M y with
    | some a, some b => if SeqAt.shaped a && SeqAt.shaped b then .ok (.bl (if neg then !PyData.eqv a b else PyData.eqv a b)) M else .bad
    | _, _ => .bad := by
  cases x <;> first | rfl | cases hs
theorem wp_eqv {neg : Bool} (hs : notStr x = true) : wp (dEqv neg x y M) Q E = ∃ a b, pyM M x = some a ∧ pyM M y = some b ∧ SeqAt.shaped a = true ∧ SeqAt.shaped b = true ∧ Q (.bl (if neg then !PyData.eqv a b else PyData.eqv a b)) M := by
  rw [eqv_unf hs]
  cases h1 : pyM M x with
  | none => exact propext ⟨fun z => z.elim, fun ⟨_, _, z, _⟩ => nomatch z⟩
  | some a => cases h2 : pyM M y with
    | none => exact propext ⟨fun z => z.elim, fun ⟨_, _, _, z, _⟩ => nomatch z⟩
    | some b =>
      by_cases z : (SeqAt.shaped a && SeqAt.shaped b) = true
      · simp only [z, if_true, wp_ok]
        simp only [Bool.and_eq_true] at z
        exact propext ⟨fun q => ⟨a, b, rfl, rfl, z.1, z.2, q⟩, fun ⟨_, _, e1, e2, _, _, q⟩ => by cases e1; cases e2; exact q⟩
      · simp only [z, if_false, wp_bad]
        exact propext ⟨fun q => q.elim, fun ⟨_, _, e1, e2, z1, z2, q⟩ => by cases e1; cases e2; exact absurd (by rw [z1, z2]; rfl) z⟩
theorem wp_eqs {neg : Bool} {s r : Str} : wp (dEqv neg (.str s) (.str r) M) Q E = Q (.bl (if neg then !decide (s = r) else decide (s = r))) M := rfl
theorem eqv_int {i j : Int} : PyData.eqv (.int i) (.int j) = decide (i = j) := by
  have : PyData.eqv (.int i) (.int j) = (i == j) := by simp [PyData.eqv]
  rw [this]; rfl
theorem wp_eqi {neg : Bool} : wp (dEqv neg (.int i) (.int j) M) Q E = Q (.bl (if neg then !decide (i = j) else decide (i = j))) M := by
  rw [wp_eqv rfl, ← eqv_int]
  refine propext ⟨fun ⟨a, b, e1, e2, _, _, q⟩ => ?_, fun q => ⟨.int i, .int j, rfl, rfl, rfl, rfl, q⟩⟩
  cases e1; cases e2; exact q
theorem wp_isN : wp (dIsN false x .non M) Q E = Q (.bl (isNon x)) M := rfl
theorem wp_isNn : wp (dIsN true x .non M) Q E = Q (.bl (!isNon x)) M := rfl
theorem isNon_int : isNon (.int i) = false := rfl
theorem isNon_non : isNon .non = true := rfl
theorem wp_withSeq {K' : List D → C D} : wp (withSeq d K' M) Q E = ∃ ds, asSeq M d = some ds ∧ wp (K' ds M) Q E := by
  unfold withSeq
  cases asSeq M d with
  | none => exact propext ⟨fun z => z.elim, fun ⟨_, z, _⟩ => nomatch z⟩
  | some ds => exact propext ⟨fun z => ⟨ds, rfl, z⟩, fun ⟨_, e, z⟩ => by cases e; exact z⟩
theorem wp_of {o : Option D} : wp (C.of o M) Q E = ∃ d, o = some d ∧ Q d M := by
  cases o with
  | none => exact propext ⟨fun z => z.elim, fun ⟨_, z, _⟩ => nomatch z⟩
  | some d => exact propext ⟨fun z => ⟨d, rfl, z⟩, fun ⟨_, e, z⟩ => by cases e; exact z⟩
theorem wp_ix (hs : notStr d = true) : wp (dIx d (.int i) M) Q E = ∃ ds v, asSeq M d = some ds ∧ L2.atI ds i = some v ∧ Q v M := by
  have e : dIx d (.int i) = withSeq d fun ds => C.of (L2.atI ds i) := by
    cases d <;> first | rfl | cases hs
  rw [e, wp_withSeq]
  exact propext ⟨fun ⟨ds, e1, q⟩ => by rw [wp_of] at q; obtain ⟨v, e2, q⟩ := q; exact ⟨ds, v, e1, e2, q⟩, fun ⟨ds, v, e1, e2, q⟩ => ⟨ds, e1, by rw [wp_of]; exact ⟨v, e2, q⟩⟩⟩
/-- an item, where the sequence and the item are known -/
theorem ix_intro {ds : List D} {v : D} (hs : notStr d = true) (e1 : asSeq M d = some ds) (e2 : L2.atI ds i = some v) (q : Q v M) : wp (dIx d (.int i) M) Q E := by rw [wp_ix hs]; exact ⟨ds, v, e1, e2, q⟩
theorem set_intro {n : Nat} {v : D} {ds : List D} {j : Nat} {kk : C Out} (hm : M[n]? = some (.lst ds)) (hj : ixN ds.length i = some j) (q : wp (kk (M.set n (.lst (ds.set j v)))) QO E) : wp (setAt (.ptr n) (.int i) v kk M) QO E := by
  unfold setAt
  simp only [hm, hj]
  exact q
theorem wp_len (hs : notStr d = true) : wp (dLen [d] M) Q E = ∃ ds, asSeq M d = some ds ∧ Q (.int ds.length) M := by
  have e : dLen [d] = withSeq d fun ds => C.pure (.int ds.length) := by
    cases d <;> first | rfl | cases hs
  rw [e, wp_withSeq]; rfl
theorem len_intro {ds : List D} (hs : notStr d = true) (e1 : asSeq M d = some ds) (q : Q (.int ds.length) M) : wp (dLen [d] M) Q E := by rw [wp_len hs]; exact ⟨ds, e1, q⟩
end
end DL
end
section
set_option Elab.async false
set_option linter.all false
set_option maxRecDepth 100000
set_option maxHeartbeats 2000000
namespace DL
open PySem PySem.Spec PyProof.Rows L2
local macro_rules | `(tactic| walk_at "wp") => `(tactic| simp only [wp_eqs, wp_eqi, wp_isN, wp_isNn, isNon_int, isNon_non, wp_def, wp_seq, wp_sIf, seqQ_nx, seqQ_rt, seqQ_ex, seqQ_bk, seqQ_ct, wp_sNx, wp_sSet, wp_sAsgT, wp_sRt, wp_sEx, wp_sPar, wp_sSub, wp_tV, wp_asB, wp_tNot, wp_tAnd, wp_tOr, wp_vAnd, wp_vOr, wp_vNot, wp_vIf, wp_dB, wp_dU, wp_cB, wp_aNil, wp_aCons, wp_dC, wp_var0, wp_varS, wp_dTup, wp_dLst, wp_dLstM, wp_dDic0, wp_sub, wp_add, wp_lt, wp_le, wp_gt, wp_ge, wp_neg, wp_mod, wp_fdiv, wp_pow, wp_mul, wp_int, wp_intb, wp_abs, wp_gcd, wp_bind, wp_pure, wp_ok, wp_cbad, wp_bad, wp_if, outC_rt, outC_nx, outC_ex, List.length_cons, List.length_nil, Nat.zero_add, Nat.reduceAdd, Nat.reduceSub, if_true, if_false, Bool.false_eq_true, List.map_cons, List.map_nil, List.replicate, List.cons_append, List.nil_append, List.set_cons_zero, List.set_cons_succ, List.set_nil, decide_true, decide_false, not_true, not_false_eq_true, Bool.not_true, Bool.not_false])
/-- what draws, at n: it has begun at most B cells -/
def Gau (n : Nat) (B : Int) (M : Sto) : Prop := ∃ (cs : List Int) (t l : Int), M[n]? = some (.lst [.lst (cs.map D.int), .int t, .int l]) ∧ 0 ≤ t ∧ t ≤ B ∧ 0 ≤ l
/-- nothing else has changed -/
def But (n : Nat) (M M' : Sto) : Prop := M'.length = M.length ∧ ∀ i, i ≠ n → M'[i]? = M[i]?
def dialA (p1 a1 b1 p2 b2 a2 c2 p3 : Int) : SF :=
    sSeq (sIf (tV (dB dGt (dB dIx (dVar 0) (dC (.int 2))) (dC (.int 0))))
    (sSeq (sAsg (cB dInt (aCons (dB dIx (dVar 0) (dC (.int 2))) (aNil))) (.nm 2))
    (sSeq (sSub (dB dFdiv (dVar 2) (dVar 1)) (dVar 0) (dC (.int 2)))
    (sRt (dB dMod (cB dInt (aCons (dVar 2) (aNil))) (dVar 1)))))
    (sNx))
    (sSeq (sAsg (dB dIx (dVar 0) (dC (.int 1))) (.nm 3))
    (sSeq (sSub (dB dAdd (dVar 3) (dC (.int 1))) (dVar 0) (dC (.int 1)))
    (sSeq (sIf (tV (dB (dEqv false) (dB dIx (dVar 0) (dC (.int 0))) (dLst (aNil))))
    (sRt (dC (.int 0)))
    (sNx))
    (sSeq (sAsg (dB dIx (dB dIx (dVar 0) (dC (.int 0))) (dB dMod (cB dInt (aCons (dVar 3) (aNil))) (cB dLen (aCons (dB dIx (dVar 0) (dC (.int 0))) (aNil))))) (.nm 4))
    (sSeq (sIf (tAndD (tV (dB dLt (dVar 3) (cB dLen (aCons (dB dIx (dVar 0) (dC (.int 0))) (aNil))))) (tV (dB dGe (cB dAbs (aCons (dVar 4) (aNil))) (dB dPow (dC (.int 10)) (dC (.int 18))))))
    (sSeq (sAsg (dB dAdd (dB dMul (dC (.int 2)) (dB dSub (cB dAbs (aCons (cB dInt (aCons (dVar 4) (aNil))) (aNil))) (dB dPow (dC (.int 10)) (dC (.int 18))))) (cB dInt (aCons (dB dLt (dVar 4) (dC (.int 0))) (aNil)))) (.nm 2))
    (sSeq (sSub (dB dFdiv (dVar 2) (dVar 1)) (dVar 0) (dC (.int 2)))
    (sRt (dB dMod (cB dInt (aCons (dVar 2) (aNil))) (dVar 1)))))
    (sNx))
    (sSeq (sAsg (dB dMod (cB dInt (aCons (dB dPow (dB dAdd (dB dAdd (dB dMod (cB dInt (aCons (dVar 4) (aNil))) (dC (.int p1))) (dB dMul (dC (.int a1)) (dVar 3))) (dC (.int b1))) (dC (.int 5))) (aNil))) (dC (.int p2))) (.nm 5))
    (sSeq (sAsg (dB dMod (cB dInt (aCons (dB dPow (dB dAdd (dB dAdd (dB dMul (dVar 5) (dB dAdd (dB dMul (dC (.int 2)) (dVar 3)) (dC (.int b2)))) (dB dMul (dB dMul (dC (.int a2)) (dVar 3)) (dVar 3))) (dC (.int c2))) (dC (.int 3))) (aNil))) (dC (.int p3))) (.nm 5))
    (sRt (dB dMod (cB dInt (aCons (dB dFdiv (dVar 5) (dC (.int 64))) (aNil))) (dVar 1))))))))))
theorem asSeq_ptr {M : Sto} {n : Nat} {ds : List D} (h : M[n]? = some (.lst ds)) : asSeq M (.ptr n) = some ds := by
  dsimp only [asSeq]; rw [h]
theorem But.set {n : Nat} {M : Sto} {o : MO} : But n M (M.set n o) := ⟨by rw [List.length_set], fun i h => by rw [List.getElem?_set_ne (Ne.symm h)]⟩
theorem But.trans {n : Nat} {M M1 M2 : Sto} (a : But n M M1) (b : But n M1 M2) : But n M M2 := ⟨b.1.trans a.1, fun i h => (b.2 i h).trans (a.2 i h)⟩
theorem py0s_ints : ∀ cs : List Int, py0s (cs.map D.int) = some (cs.map PyData.int)
  | [] => rfl
  | c :: cs => by
    show (match py0 (D.int c), py0s (cs.map D.int) with
      | some x, some xs => some (x :: xs)
      | _, _ => none) = _
    rw [py0s_ints cs]; rfl
theorem py_ints {M : Sto} (cs : List Int) : pyM M (.lst (cs.map D.int)) = some (.list (cs.map PyData.int)) := by
  show (py0s (cs.map D.int)).map PyData.list = _
  rw [py0s_ints]; rfl
theorem lay_ints : ∀ cs : List Int, PyData.canLayAll0 (cs.map PyData.int) = true
  | [] => by simp [PyData.canLayAll0]
  | c :: cs => by simp [PyData.canLayAll0, PyData.canLay0, lay_ints cs]
theorem depth_ints : ∀ cs : List Int, PyData.depthAll (cs.map PyData.int) ≤ 1
  | [] => by simp [PyData.depthAll]
  | c :: cs => by simp [PyData.depthAll, PyData.depth]; exact depth_ints cs
theorem shaped_ints (cs : List Int) : SeqAt.shaped (.list (cs.map PyData.int)) = true := by
  unfold SeqAt.shaped
  have := depth_ints cs
  have e : (PyData.list (cs.map PyData.int)).depth = PyData.depthAll (cs.map PyData.int) + 1 := by simp [PyData.depth]
  rw [e]
  simp only [PyData.canLay0, lay_ints, Bool.true_and, decide_eq_true_eq]
  omega
theorem eqv_ints_nil (cs : List Int) : PyData.eqv (.list (cs.map PyData.int)) (.list []) = cs.isEmpty := by
  cases cs <;> simp [PyData.eqv, PyData.eqvAll]
theorem mulOk_l {i j : Int} (h : i.natAbs < 2 ^ 64) : mulOk i j = true := by
  unfold mulOk
  simp only [Bool.or_eq_true, decide_eq_true_eq]
  exact .inl (.inl (by omega))
section
variable {n : Nat} {B m : Int} {M : Sto} {E : EC} {p1 a1 b1 p2 b2 a2 c2 p3 : Int}
theorem dialA_spec (h : Gau n B M) (hB : B ≤ 500000) (hm : 1 ≤ m) (hm2 : small2 9000 m = true) (h1 : 0 < p1 ∧ p1 < 2 ^ 32) (h2 : 0 < a1 ∧ a1 < 2 ^ 20 ∧ 0 < b1 ∧ b1 < 2 ^ 20) (h3 : 0 < p2 ∧ p2 < 2 ^ 31) (h4 : 0 < b2 ∧ b2 < 2 ^ 20 ∧ 0 < a2 ∧ a2 < 2 ^ 20 ∧ 0 < c2 ∧ c2 < 2 ^ 20) (h5 : 0 < p3) :
    wp (dDef 6 2 (dialA p1 a1 b1 p2 b2 a2 c2 p3) [.ptr n, .int m] M) (fun d M' => ∃ v, d = .int v ∧ 0 ≤ v ∧ v < m ∧ Gau n (B + 1) M' ∧ But n M M') E := by
  obtain ⟨cs, t, l, hM, t0, tB, l0⟩ := h
  have hn : n < M.length := (List.getElem?_eq_some_iff.mp hM).1
  (try walk_at "wp")
  unfold dialA
  (try walk_at "wp")
  refine ix_intro rfl (asSeq_ptr hM) rfl ?_
  (try walk_at "wp")
  by_cases hl : 0 < l
  · simp only [hl]
    (try walk_at "wp")
    refine ix_intro rfl (asSeq_ptr hM) rfl ?_
    (try walk_at "wp")
    refine ⟨⟨by omega, hm2⟩, set_intro hM rfl ?_⟩
    (try walk_at "wp")
    refine ⟨by omega, _, rfl, Int.emod_nonneg _ (by omega), Int.emod_lt_of_pos _ (by omega), ⟨cs, t, l / m, ?_, t0, by omega, Int.ediv_nonneg l0 (by omega)⟩, But.set⟩
    rw [List.getElem?_set_self hn]
    rfl
  · simp only [hl]
    (try walk_at "wp")
    refine ix_intro rfl (asSeq_ptr hM) rfl ?_
    (try walk_at "wp")
    refine set_intro hM rfl ?_
    (try walk_at "wp")
    have hM1 : (M.set n (MO.lst [D.lst (cs.map D.int), D.int (t + 1), D.int l]))[n]? = some (MO.lst [D.lst (cs.map D.int), D.int (t + 1), D.int l]) := List.getElem?_set_self hn
    have hB1 : But n M (M.set n (MO.lst [D.lst (cs.map D.int), D.int (t + 1), D.int l])) := But.set
    show wp (dIx (D.ptr n) (D.int 0) (M.set n (MO.lst [D.lst (cs.map D.int), D.int (t + 1), D.int l]))) _ _
    generalize M.set n (MO.lst [D.lst (cs.map D.int), D.int (t + 1), D.int l]) = M1 at hM1 hB1
    have hn1 : n < M1.length := (List.getElem?_eq_some_iff.mp hM1).1
    have gau1 : Gau n (B + 1) M1 := ⟨cs, t + 1, l, hM1, by omega, by omega, l0⟩
    refine ix_intro rfl (asSeq_ptr hM1) rfl ⟨Nat.zero_le _, ?_⟩
    rw [wp_eqv rfl]
    refine ⟨_, _, py_ints cs, rfl, shaped_ints cs, rfl, ?_⟩
    rw [eqv_ints_nil]
    (try walk_at "wp")
    cases cs with
    | nil =>
      simp only [List.isEmpty_nil, if_true, Bool.false_eq_true, if_false]
      (try walk_at "wp")
      exact ⟨0, rfl, by omega, by omega, gau1, hB1⟩
    | cons c0 cr =>
      have hlen : 0 < (c0 :: cr).length := Nat.succ_pos _
      generalize hcs : c0 :: cr = cs at hM1 hlen gau1
      have hne : cs.isEmpty = false := by rw [← hcs]; rfl
      simp only [hne, if_false, Bool.false_eq_true]
      (try walk_at "wp")
      refine ix_intro rfl (asSeq_ptr hM1) rfl ?_
      (try walk_at "wp")
      refine ix_intro rfl (asSeq_ptr hM1) rfl ?_
      refine len_intro (ds := cs.map D.int) rfl rfl ?_
      rw [wp_mod, List.length_map]
      refine ⟨by omega, ?_⟩
      have hr0 : 0 ≤ t % (cs.length : Int) := Int.emod_nonneg _ (by omega)
      have hr1 : t % (cs.length : Int) < cs.length := Int.emod_lt_of_pos _ (by omega)
      have hlt : (t % (cs.length : Int)).toNat < cs.length := by omega
      obtain ⟨c, hc⟩ : ∃ c, cs[(t % (cs.length : Int)).toNat]? = some c := ⟨_, List.getElem?_eq_getElem hlt⟩
      refine ix_intro (ds := cs.map D.int) (v := D.int c) rfl rfl (by
        have e : (cs.map D.int)[(t % (cs.length : Int)).toNat]? = some (D.int c) := by rw [List.getElem?_map, hc]; rfl
        have := L2.atI_nat e
        rw [Int.toNat_of_nonneg hr0] at this
        exact this) ?_
      (try walk_at "wp")
      refine ix_intro rfl (asSeq_ptr hM1) rfl ?_
      refine len_intro (ds := cs.map D.int) rfl rfl ?_
      (try walk_at "wp")
      have tail : 0 < p1 ∧ mulOk a1 t = true ∧ ((0 : Int) ≤ 5 ∧ (5 : Int) ≤ 1000000 ∧ (c % p1 + a1 * t + b1).natAbs < 2 ^ 64) ∧ 0 < p2 ∧ mulOk 2 t = true ∧ mulOk ((c % p1 + a1 * t + b1) ^ Int.toNat 5 % p2) (2 * t + b2) = true ∧ mulOk a2 t = true ∧ mulOk (a2 * t) t = true ∧
          ((0 : Int) ≤ 3 ∧ (3 : Int) ≤ 1000000 ∧ ((c % p1 + a1 * t + b1) ^ Int.toNat 5 % p2 * (2 * t + b2) + a2 * t * t + c2).natAbs < 2 ^ 64) ∧ 0 < p3 ∧ ((0 : Int) < 64 ∧ small2 9000 64 = true) ∧ 0 < m ∧
          ∃ v, D.int (((c % p1 + a1 * t + b1) ^ Int.toNat 5 % p2 * (2 * t + b2) + a2 * t * t + c2) ^ Int.toNat 3 % p3 / 64 % m) = D.int v ∧ 0 ≤ v ∧ v < m ∧ Gau n (B + 1) M1 ∧ But n M M1 := by
        have t5 : t ≤ 500000 := by omega
        have hA : a1 * t ≤ 1048576 * 500000 := Int.mul_le_mul (by omega) t5 t0 (by omega)
        have hA0 : 0 ≤ a1 * t := Int.mul_nonneg (by omega) t0
        have hr0 : 0 ≤ c % p1 := Int.emod_nonneg _ (by omega)
        have hr1 : c % p1 < p1 := Int.emod_lt_of_pos _ (by omega)
        refine ⟨h1.1, mulOk_l (by omega), ⟨by omega, by omega, by omega⟩, h3.1, ?_⟩
        generalize hx : (c % p1 + a1 * t + b1) ^ (5 : Int).toNat % p2 = x
        have x0 : 0 ≤ x := by rw [← hx]; exact Int.emod_nonneg _ (by omega)
        have x1 : x < p2 := by rw [← hx]; exact Int.emod_lt_of_pos _ (by omega)
        have hB0 : 0 ≤ x * (2 * t + b2) := Int.mul_nonneg x0 (by omega)
        have hB1' : x * (2 * t + b2) ≤ 2147483648 * 2097152 := Int.mul_le_mul (by omega) (by omega) (by omega) (by omega)
        have hC : a2 * t ≤ 1048576 * 500000 := Int.mul_le_mul (by omega) t5 t0 (by omega)
        have hC0 : 0 ≤ a2 * t := Int.mul_nonneg (by omega) t0
        have hD : a2 * t * t ≤ 1048576 * 500000 * 500000 := Int.mul_le_mul hC t5 t0 (by omega)
        have hD0 : 0 ≤ a2 * t * t := Int.mul_nonneg hC0 t0
        refine ⟨mulOk_l (by omega), mulOk_l (by omega), mulOk_l (by omega), mulOk_l (by omega), ⟨by omega, by omega, by omega⟩, h5, ⟨by omega, by decide⟩, by omega, ?_⟩
        exact ⟨_, rfl, Int.emod_nonneg _ (by omega), Int.emod_lt_of_pos _ (by omega), gau1, hB1⟩
      by_cases ht : t < ((cs.map D.int).length : Int)
      · simp only [ht]
        (try walk_at "wp")
        refine ⟨⟨by omega, by omega, by omega⟩, ?_⟩
        by_cases hbig : (10 : Int) ^ (18 : Int).toNat ≤ if c < 0 then -c else c
        · simp only [hbig]
          (try walk_at "wp")
          refine ⟨⟨by omega, by omega, by omega⟩, mulOk_l (by omega), ⟨by omega, hm2⟩, set_intro hM1 rfl ?_⟩
          (try walk_at "wp")
          have nn : 0 ≤ 2 * ((if c < 0 then -c else c) - 10 ^ (18 : Int).toNat) + (if decide (c < 0) = true then 1 else 0) := by
            have : (0 : Int) ≤ if decide (c < 0) = true then 1 else 0 := by split <;> omega
            omega
          refine ⟨by omega, _, rfl, Int.emod_nonneg _ (by omega), Int.emod_lt_of_pos _ (by omega), ⟨cs, t + 1, _, ?_, by omega, by omega, Int.ediv_nonneg (b := m) nn (by omega)⟩, hB1.trans But.set⟩
          rw [List.getElem?_set_self hn1]
          rfl
        · simp only [hbig]
          (try walk_at "wp")
          exact tail
      · simp only [ht]
        (try walk_at "wp")
        exact tail
end
end DL
end
section
set_option Elab.async false
set_option linter.all false
set_option maxRecDepth 100000
set_option maxHeartbeats 2000000
/-! how long what repr writes can be -/
namespace DL
open PySem PySem.Spec PyProof.Rows L2
mutual
def lenB : PyData → Nat
  | .none => 4
  | .bool _ => 5
  | .int _ => 1922
  | .str x => 10 * x.length + 2
  | .list xs => lenBs xs + 3
  | .tuple xs => lenBs xs + 3
  | .dict _ => 0
def lenBs : List PyData → Nat
  | [] => 0
  | x :: xs => lenB x + lenBs xs + 2
end
mutual
def okS : PyData → Bool
  | .none => true
  | .bool _ => true
  | .int i => decide (i.natAbs.log2 < 1920)
  | .str x => x.cps.toList.all fun c => decide (c < 16 ^ 8)
  | .list xs => okSs xs
  | .tuple xs => okSs xs
  | .dict _ => false
def okSs : List PyData → Bool
  | [] => true
  | x :: xs => okS x && okSs xs
end
theorem int_len {i : Int} (h : i.natAbs.log2 < 1920) : (Str.ofString (toString i)).length ≤ 1922 := by
  have e := int_text_length_le (k := 1920) (by decide) h
  rw [PySem.ofString_length]; omega
mutual
theorem shown_len : ∀ d : PyData, okS d = true → d.shown.length ≤ lenB d
  | .none, _ => by simp only [PyData.shown, lenB]; decide
  | .bool b, _ => by cases b <;> simp only [PyData.shown, lenB] <;> decide
  | .int i, h => by
    simp only [okS, decide_eq_true_eq] at h
    simp only [PyData.shown, lenB]
    exact int_len h
  | .str x, h => by
    simp only [okS, List.all_eq_true, decide_eq_true_eq] at h
    simp only [PyData.shown, lenB]
    exact PySem.StrLaws.reprText_len x h
  | .list xs, h => by
    simp only [okS] at h
    have := shown_lens xs h
    simp only [PyData.shown, lenB]
    have := listText_len_le (PyData.shownAll xs)
    omega
  | .tuple xs, h => by
    simp only [okS] at h
    have := shown_lens xs h
    simp only [PyData.shown, lenB]
    have := tupleText_len_le (PyData.shownAll xs)
    omega
  | .dict _, h => by simp [okS] at h
theorem shown_lens : ∀ xs : List PyData, okSs xs = true → ((PyData.shownAll xs).map (·.length)).sum + 2 * (PyData.shownAll xs).length ≤ lenBs xs
  | [], _ => by simp [PyData.shownAll]
  | x :: xs, h => by
    simp only [okSs, Bool.and_eq_true] at h
    have a := shown_len x h.1
    have b := shown_lens xs h.2
    simp only [PyData.shownAll, lenBs, List.map_cons, List.sum_cons, List.length_cons]
    omega
end
mutual
theorem okS_showable : ∀ d : PyData, okS d = true → d.showable = true ∧ d.hasDict = false
  | .none, _ => ⟨rfl, rfl⟩
  | .bool b, _ => ⟨rfl, rfl⟩
  | .int i, h => ⟨by simpa [okS, PyData.showable] using h, rfl⟩
  | .str x, h => ⟨rfl, rfl⟩
  | .list xs, h => by simp only [okS] at h; simpa [PyData.showable, PyData.hasDict] using okS_showables xs h
  | .tuple xs, h => by simp only [okS] at h; simpa [PyData.showable, PyData.hasDict] using okS_showables xs h
  | .dict _, h => by simp [okS] at h
theorem okS_showables : ∀ xs : List PyData, okSs xs = true → PyData.showableAll xs = true ∧ PyData.hasDictAll xs = false
  | [], _ => ⟨rfl, rfl⟩
  | x :: xs, h => by
    simp only [okSs, Bool.and_eq_true] at h
    have a := okS_showable x h.1
    have b := okS_showables xs h.2
    exact ⟨by simp [PyData.showableAll, a.1, b.1], by simp [PyData.hasDictAll, a.2, b.2]⟩
end
theorem reprOk_of {d : PyData} (h : okS d = true) (hd : d.depth ≤ 60) (hl : lenB d ≤ sizeLine) : reprOk d = true := by
  have a := okS_showable d h
  have b := shown_len d h
  unfold reprOk
  simp only [a.1, a.2, Bool.not_false, Bool.and_true, Bool.true_and, Bool.and_eq_true, decide_eq_true_eq]
  exact ⟨hd, by omega⟩
/-- repr, where it is known what is written -/
theorem repr_eq {d : D} {q : PyData} {M : Sto} (e : pyM M d = some q) (h : reprOk q = true) (hn : d ≠ .dic [] []) : dRepr [d] M = .ok (.str q.shown) M := by
  have go : dRepr [d] M = (match pyM M d with
      | some q => if reprOk q = true then .ok (.str q.shown) M else .bad
      | none => .bad) := by
    unfold dRepr
    cases d with
    | dic ks ds => cases ks with
      | nil => cases ds with
        | nil => exact (hn rfl).elim
        | cons _ _ => rfl
      | cons _ _ => rfl
    | _ => rfl
  rw [go, e]
  dsimp only
  rw [if_pos h]
theorem log_fits {i : Int} {k : Nat} (h : i.natAbs < 2 ^ k) (hk : k ≤ 1920 := by decide) (h0 : 0 < k := by decide) : i.natAbs.log2 < 1920 := by
  by_cases z : i.natAbs = 0
  · rw [z]; decide
  · have := (Nat.log2_lt z).mpr h; omega
end DL
end
section
set_option Elab.async false
set_option linter.all false
set_option maxRecDepth 100000
set_option maxHeartbeats 2000000
/-! the gauge and what is picked -/
namespace DL
open PySem PySem.Spec PyProof.Rows L2
local macro_rules | `(tactic| walk_at "wp") => `(tactic| simp only [wp_eqs, wp_eqi, wp_isN, wp_isNn, isNon_int, isNon_non, wp_def, wp_seq, wp_sIf, seqQ_nx, seqQ_rt, seqQ_ex, seqQ_bk, seqQ_ct, wp_sNx, wp_sSet, wp_sAsgT, wp_sRt, wp_sEx, wp_sPar, wp_sSub, wp_tV, wp_asB, wp_tNot, wp_tAnd, wp_tOr, wp_vAnd, wp_vOr, wp_vNot, wp_vIf, wp_dB, wp_dU, wp_cB, wp_aNil, wp_aCons, wp_dC, wp_var0, wp_varS, wp_dTup, wp_dLst, wp_dLstM, wp_dDic0, wp_sub, wp_add, wp_lt, wp_le, wp_gt, wp_ge, wp_neg, wp_mod, wp_fdiv, wp_pow, wp_mul, wp_int, wp_intb, wp_abs, wp_gcd, wp_bind, wp_pure, wp_ok, wp_cbad, wp_bad, wp_if, outC_rt, outC_nx, outC_ex, List.length_cons, List.length_nil, Nat.zero_add, Nat.reduceAdd, Nat.reduceSub, if_true, if_false, Bool.false_eq_true, List.map_cons, List.map_nil, List.replicate, List.cons_append, List.nil_append, List.set_cons_zero, List.set_cons_succ, List.set_nil, decide_true, decide_false, not_true, not_false_eq_true, Bool.not_true, Bool.not_false])
theorem small2_le {i : Int} (h0 : 0 ≤ i) (h : i < 2 ^ 64) : small2 9000 i = true := by
  unfold small2
  rw [decide_eq_true_eq]
  have := log_fits (i := i) (k := 64) (by omega)
  omega
/-- what draws below a bound -/
def DialOk (F : List D → C D) : Prop := ∀ (n : Nat) (B m : Int) (M : Sto) (E : EC), Gau n B M → B ≤ 500000 → 1 ≤ m → m < 2 ^ 64 → wp (F [.ptr n, .int m] M) (fun d M' => ∃ v, d = .int v ∧ 0 ≤ v ∧ v < m ∧ Gau n (B + 1) M' ∧ But n M M') E
theorem dialA_ok {p1 a1 b1 p2 b2 a2 c2 p3 : Int} (h1 : 0 < p1 ∧ p1 < 2 ^ 32) (h2 : 0 < a1 ∧ a1 < 2 ^ 20 ∧ 0 < b1 ∧ b1 < 2 ^ 20) (h3 : 0 < p2 ∧ p2 < 2 ^ 31) (h4 : 0 < b2 ∧ b2 < 2 ^ 20 ∧ 0 < a2 ∧ a2 < 2 ^ 20 ∧ 0 < c2 ∧ c2 < 2 ^ 20) (h5 : 0 < p3) : DialOk (dDef 6 2 (dialA p1 a1 b1 p2 b2 a2 c2 p3)) :=
  fun n B m M E h hB hm hm2 => dialA_spec h hB hm (small2_le (by omega) hm2) h1 h2 h3 h4 h5
def pickB (F : List D → C D) : SF := sRt (dB dIx (dVar 1) (cB F (aCons (dVar 0) (aCons (cB dLen (aCons (dVar 1) (aNil))) (aNil)))))
theorem Gau.mono {n : Nat} {B C : Int} {M : Sto} (h : Gau n B M) (l : B ≤ C) : Gau n C M := by
  obtain ⟨cs, t, k, a, b, c, e⟩ := h
  exact ⟨cs, t, k, a, b, by omega, e⟩
theorem atI_lt {ds : List D} {v : Int} (h0 : 0 ≤ v) (h : v < ds.length) : ∃ d, L2.atI ds v = some d ∧ d ∈ ds := by
  have hlt : v.toNat < ds.length := by omega
  have e : ds[v.toNat]? = some ds[v.toNat] := List.getElem?_eq_getElem hlt
  have := L2.atI_nat e
  rw [Int.toNat_of_nonneg h0] at this
  exact ⟨_, this, List.getElem_mem hlt⟩
theorem pick_ok {F : List D → C D} (hF : DialOk F) {n : Nat} {B : Int} {M : Sto} {E : EC} {ds : List D} (h : Gau n B M) (hB : B ≤ 500000) (h1 : 1 ≤ ds.length) (h2 : ds.length < 2 ^ 64) :
    wp (dDef 2 2 (pickB F) [.ptr n, .lst ds] M) (fun d M' => d ∈ ds ∧ Gau n (B + 1) M' ∧ But n M M') E := by
  unfold pickB
  (try walk_at "wp")
  refine len_intro (ds := ds) rfl rfl ?_
  (try walk_at "wp")
  refine wp_mono (hF n B ds.length M _ h hB (by omega) (by omega)) (fun d M' ⟨v, e, h3, h4, h5, h6⟩ => ?_) fun _ _ _ _ z => z
  subst e
  obtain ⟨d, e, hd⟩ := atI_lt h3 h4
  refine ix_intro (ds := ds) rfl rfl e ?_
  (try walk_at "wp")
  exact ⟨hd, h5, h6⟩
/-- how a law begins -/
def gaugeB (k : Int) : SF := sRt (dLstM (aCons (dLc (dIt (dSlice (dVar 0) (pNo) (pSo (dC (.int k))))) (.nm 1) (tYesD) (cB dInt (aCons (dVar 1) (aNil))) [1]) (aCons (dC (.int 0)) (aCons (dC (.int 0)) (aNil)))))
theorem cut_map {zs : List Int} {lo hi : Option Int} : ∃ ys : List Int, cut (zs.map D.int) lo hi = ys.map D.int ∧ ys.length ≤ zs.length := by
  unfold cut
  refine ⟨(zs.drop (HT.sIx (zs.map D.int).length 0 lo)).take (HT.sIx (zs.map D.int).length (zs.map D.int).length hi - HT.sIx (zs.map D.int).length 0 lo), ?_, ?_⟩
  · rw [List.map_take, List.map_drop]
  · rw [List.length_take, List.length_drop]; omega
theorem wp_dLc {it : Env → C (List D)} {q : Pat} {t : Env → C Bool} {e : Env → C D} {vs : List Nat} {ρ : Env} {M : Sto} {Q : D → Sto → Prop} {E : EC} : wp (dLc it q t e vs ρ M) Q E = wp (it ρ M) (fun ds M1 => wp (lcS q t e (wipeE ρ vs) ds [] M1) (fun acc M2 => Q (.lst acc) M2) E) E := by
  unfold dLc; rw [wp_bind]; congr 1; funext ds M1; rw [wp_bind]; rfl
theorem wp_dIt {f : Env → C D} {ρ : Env} {M : Sto} {Q : List D → Sto → Prop} {E : EC} : wp (dIt f ρ M) Q E = wp (f ρ M) (fun d M1 => wp (items d M1) Q E) E := by
  unfold dIt; rw [wp_bind]
theorem wp_items {ds : List D} {M : Sto} {Q : List D → Sto → Prop} {E : EC} : wp (items (.lst ds) M) Q E = Q ds M := rfl
theorem gauge_ok {k : Int} {zs : List Int} {M : Sto} {E : EC} (hz : zs.length ≤ 63) :
    wp (dDef 2 1 (gaugeB k) [.fz (zs.map D.int)] M) (fun d M' => d = .ptr M.length ∧ Gau M.length 0 M' ∧ M'.length = M.length + 1) E := by
  unfold gaugeB
  (try walk_at "wp")
  rw [wp_dLc, wp_dIt]
  show wp (C.pure (D.lst (cut (zs.map D.int) none (some k))) M) _ _
  obtain ⟨ys, e, hy⟩ := cut_map (zs := zs) (lo := none) (hi := some k)
  rw [e]
  (try walk_at "wp")
  rw [wp_items]
  refine wp_lc (fun i acc M' => acc = (ys.take i).map D.int ∧ M' = M ∧ i ≤ ys.length) (i := 0) (fun j d acc M' hd hi => ?_) ⟨by simp, rfl, Nat.zero_le _⟩ fun acc M' hi => ?_
  · obtain ⟨e1, e2, hl⟩ := hi
    subst e1; subst e2
    rw [List.getElem?_map] at hd
    obtain ⟨y, hy2, e3⟩ := Option.map_eq_some_iff.mp hd
    subst e3
    have hj : j < ys.length := (List.getElem?_eq_some_iff.mp hy2).1
    refine ⟨_, rfl, ?_⟩
    show wp (C.pure true M') _ _
    (try walk_at "wp")
    dsimp only [wipeE, List.set]
    (try walk_at "wp")
    refine ⟨?_, ?_, trivial, by omega⟩
    · rw [List.length_map, List.length_take]
      have : 100 ≤ sizeLine := by decide
      omega
    · rw [List.take_succ, hy2, List.map_append]; rfl
  · obtain ⟨e1, e2, hl⟩ := hi
    subst e1; subst e2
    (try walk_at "wp")
    refine ⟨by decide, trivial, ⟨(ys.take ((ys.map D.int).length)), 0, 0, ?_, by omega, by omega, by omega⟩, by rw [List.length_append]; rfl⟩
    rw [List.getElem?_append_right (Nat.le_refl _), Nat.sub_self]
    rfl
end DL
end
section
set_option Elab.async false
set_option linter.all false
set_option maxRecDepth 100000
set_option maxHeartbeats 2000000
/-! two more ways to draw -/
namespace DL
open PySem PySem.Spec PyProof.Rows L2
local macro_rules | `(tactic| walk_at "wp") => `(tactic| simp only [wp_eqs, wp_eqi, wp_isN, wp_isNn, isNon_int, isNon_non, wp_def, wp_seq, wp_sIf, seqQ_nx, seqQ_rt, seqQ_ex, seqQ_bk, seqQ_ct, wp_sNx, wp_sSet, wp_sAsgT, wp_sRt, wp_sEx, wp_sPar, wp_sSub, wp_tV, wp_asB, wp_tNot, wp_tAnd, wp_tOr, wp_vAnd, wp_vOr, wp_vNot, wp_vIf, wp_dB, wp_dU, wp_cB, wp_aNil, wp_aCons, wp_dC, wp_var0, wp_varS, wp_dTup, wp_dLst, wp_dLstM, wp_dDic0, wp_sub, wp_add, wp_lt, wp_le, wp_gt, wp_ge, wp_neg, wp_mod, wp_fdiv, wp_pow, wp_mul, wp_int, wp_intb, wp_abs, wp_gcd, wp_bind, wp_pure, wp_ok, wp_cbad, wp_bad, wp_if, outC_rt, outC_nx, outC_ex, List.length_cons, List.length_nil, Nat.zero_add, Nat.reduceAdd, Nat.reduceSub, if_true, if_false, Bool.false_eq_true, List.map_cons, List.map_nil, List.replicate, List.cons_append, List.nil_append, List.set_cons_zero, List.set_cons_succ, List.set_nil, decide_true, decide_false, not_true, not_false_eq_true, Bool.not_true, Bool.not_false])
def absX : Bool → Env → C D
  | true => cB dAbs (aCons (cB dInt (aCons (dVar 4) (aNil))) (aNil))
  | false => cB dAbs (aCons (dVar 4) (aNil))
def restB (fl : Bool) (p1 a1 b1 p2 b2 a2 c2 p3 : Int) : SF :=
    sSeq (sIf (tAndD (tV (dB dLt (dVar 3) (cB dLen (aCons (dB dIx (dVar 0) (dC (.int 0))) (aNil))))) (tV (dB dGe (cB dAbs (aCons (dVar 4) (aNil))) (dB dPow (dC (.int 10)) (dC (.int 18))))))
    (sSeq (sAsg (dB dAdd (dB dMul (dC (.int 2)) (dB dSub (absX fl) (dB dPow (dC (.int 10)) (dC (.int 18))))) (cB dInt (aCons (dB dLt (dVar 4) (dC (.int 0))) (aNil)))) (.nm 2))
    (sSeq (sSub (dB dFdiv (dVar 2) (dVar 1)) (dVar 0) (dC (.int 2)))
    (sRt (dB dMod (cB dInt (aCons (dVar 2) (aNil))) (dVar 1)))))
    (sNx))
    (sSeq (sAsg (dB dMod (cB dInt (aCons (dB dPow (dB dAdd (dB dAdd (dB dMod (cB dInt (aCons (dVar 4) (aNil))) (dC (.int p1))) (dB dMul (dC (.int a1)) (dVar 3))) (dC (.int b1))) (dC (.int 5))) (aNil))) (dC (.int p2))) (.nm 5))
    (sSeq (sAsg (dB dMod (cB dInt (aCons (dB dPow (dB dAdd (dB dAdd (dB dMul (dVar 5) (dB dAdd (dB dMul (dC (.int 2)) (dVar 3)) (dC (.int b2)))) (dB dMul (dB dMul (dC (.int a2)) (dVar 3)) (dVar 3))) (dC (.int c2))) (dC (.int 3))) (aNil))) (dC (.int p3))) (.nm 5))
    (sRt (dB dMod (cB dInt (aCons (dB dFdiv (dVar 5) (dC (.int 64))) (aNil))) (dVar 1)))))
def dialB (fl : Bool) (c0 d0 p1 a1 b1 p2 b2 a2 c2 p3 : Int) : SF :=
    sSeq (sIf (tV (dB dGt (dB dIx (dVar 0) (dC (.int 2))) (dC (.int 0))))
    (sSeq (sAsg (cB dInt (aCons (dB dIx (dVar 0) (dC (.int 2))) (aNil))) (.nm 2))
    (sSeq (sSub (dB dFdiv (dVar 2) (dVar 1)) (dVar 0) (dC (.int 2)))
    (sRt (dB dMod (cB dInt (aCons (dVar 2) (aNil))) (dVar 1)))))
    (sNx))
    (sSeq (sAsg (dB dIx (dVar 0) (dC (.int 1))) (.nm 3))
    (sSeq (sSub (dB dAdd (dVar 3) (dC (.int 1))) (dVar 0) (dC (.int 1)))
    (sSeq (sAsg (dB dAdd (dB dMul (dC (.int c0)) (dVar 3)) (dC (.int d0))) (.nm 4))
    (sSeq (sIf (tV (dB (dEqv true) (dB dIx (dVar 0) (dC (.int 0))) (dLst (aNil))))
    (sAsg (dB dIx (dB dIx (dVar 0) (dC (.int 0))) (dB dMod (cB dInt (aCons (dVar 3) (aNil))) (cB dLen (aCons (dB dIx (dVar 0) (dC (.int 0))) (aNil))))) (.nm 4))
    (sNx))
    (restB fl p1 a1 b1 p2 b2 a2 c2 p3)))))
section
variable {n : Nat} {B m : Int} {M : Sto} {E : EC} {p1 a1 b1 p2 b2 a2 c2 p3 : Int}
variable {c0 d0 : Int} {fl : Bool}
theorem absX_eq {o0 o1 o2 o3 o5 : Option D} {c : Int} {Q : D → Sto → Prop} : wp (absX fl [o0, o1, o2, o3, some (.int c), o5] M) Q E = Q (.int (if c < 0 then -c else c)) M := by cases fl <;> rfl
theorem restB_spec {cs : List Int} {t l c : Int} (hM1 : M[n]? = some (.lst [.lst (cs.map D.int), .int (t + 1), .int l])) (t0 : 0 ≤ t) (tB : t ≤ B) (l0 : 0 ≤ l) (hB : B ≤ 500000) (hm : 1 ≤ m) (hm2 : small2 9000 m = true) (h1 : 0 < p1 ∧ p1 < 2 ^ 32) (h2 : 0 < a1 ∧ a1 < 2 ^ 20 ∧ 0 < b1 ∧ b1 < 2 ^ 20) (h3 : 0 < p2 ∧ p2 < 2 ^ 31) (h4 : 0 < b2 ∧ b2 < 2 ^ 20 ∧ 0 < a2 ∧ a2 < 2 ^ 20 ∧ 0 < c2 ∧ c2 < 2 ^ 20) (h5 : 0 < p3) :
    wp (restB fl p1 a1 b1 p2 b2 a2 c2 p3 [some (.ptr n), some (.int m), none, some (.int t), some (.int c), none] M) (fun o M' => ∃ v, o = .rt (.int v) ∧ 0 ≤ v ∧ v < m ∧ Gau n (B + 1) M' ∧ But n M M') E := by
  have hn1 : n < M.length := (List.getElem?_eq_some_iff.mp hM1).1
  have gau1 : Gau n (B + 1) M := ⟨cs, t + 1, l, hM1, by omega, by omega, l0⟩
  unfold restB
  (try walk_at "wp")
  refine ix_intro rfl (asSeq_ptr hM1) rfl ?_
  refine len_intro (ds := cs.map D.int) rfl rfl ?_
  (try walk_at "wp")
  have tail : 0 < p1 ∧ mulOk a1 t = true ∧ ((0 : Int) ≤ 5 ∧ (5 : Int) ≤ 1000000 ∧ (c % p1 + a1 * t + b1).natAbs < 2 ^ 64) ∧ 0 < p2 ∧ mulOk 2 t = true ∧ mulOk ((c % p1 + a1 * t + b1) ^ Int.toNat 5 % p2) (2 * t + b2) = true ∧ mulOk a2 t = true ∧ mulOk (a2 * t) t = true ∧
      ((0 : Int) ≤ 3 ∧ (3 : Int) ≤ 1000000 ∧ ((c % p1 + a1 * t + b1) ^ Int.toNat 5 % p2 * (2 * t + b2) + a2 * t * t + c2).natAbs < 2 ^ 64) ∧ 0 < p3 ∧ ((0 : Int) < 64 ∧ small2 9000 64 = true) ∧ 0 < m ∧
      ∃ v, Out.rt (D.int (((c % p1 + a1 * t + b1) ^ Int.toNat 5 % p2 * (2 * t + b2) + a2 * t * t + c2) ^ Int.toNat 3 % p3 / 64 % m)) = Out.rt (D.int v) ∧ 0 ≤ v ∧ v < m ∧ Gau n (B + 1) M ∧ But n M M := by
    have t5 : t ≤ 500000 := by omega
    have hA : a1 * t ≤ 1048576 * 500000 := Int.mul_le_mul (by omega) t5 t0 (by omega)
    have hA0 : 0 ≤ a1 * t := Int.mul_nonneg (by omega) t0
    have hr0 : 0 ≤ c % p1 := Int.emod_nonneg _ (by omega)
    have hr1 : c % p1 < p1 := Int.emod_lt_of_pos _ (by omega)
    refine ⟨h1.1, mulOk_l (by omega), ⟨by omega, by omega, by omega⟩, h3.1, ?_⟩
    generalize hx : (c % p1 + a1 * t + b1) ^ (5 : Int).toNat % p2 = x
    have x0 : 0 ≤ x := by rw [← hx]; exact Int.emod_nonneg _ (by omega)
    have x1 : x < p2 := by rw [← hx]; exact Int.emod_lt_of_pos _ (by omega)
    have hB0 : 0 ≤ x * (2 * t + b2) := Int.mul_nonneg x0 (by omega)
    have hB1' : x * (2 * t + b2) ≤ 2147483648 * 2097152 := Int.mul_le_mul (by omega) (by omega) (by omega) (by omega)
    have hC : a2 * t ≤ 1048576 * 500000 := Int.mul_le_mul (by omega) t5 t0 (by omega)
    have hC0 : 0 ≤ a2 * t := Int.mul_nonneg (by omega) t0
    have hD : a2 * t * t ≤ 1048576 * 500000 * 500000 := Int.mul_le_mul hC t5 t0 (by omega)
    have hD0 : 0 ≤ a2 * t * t := Int.mul_nonneg hC0 t0
    refine ⟨mulOk_l (by omega), mulOk_l (by omega), mulOk_l (by omega), mulOk_l (by omega), ⟨by omega, by omega, by omega⟩, h5, ⟨by omega, by decide⟩, by omega, ?_⟩
    exact ⟨_, rfl, Int.emod_nonneg _ (by omega), Int.emod_lt_of_pos _ (by omega), gau1, ⟨rfl, fun _ _ => rfl⟩⟩
  by_cases ht : t < ((cs.map D.int).length : Int)
  · simp only [ht]
    (try walk_at "wp")
    refine ⟨⟨by omega, by omega, by omega⟩, ?_⟩
    by_cases hbig : (10 : Int) ^ (18 : Int).toNat ≤ if c < 0 then -c else c
    · simp only [hbig]
      (try walk_at "wp")
      rw [absX_eq]
      (try walk_at "wp")
      refine ⟨⟨by omega, by omega, by omega⟩, mulOk_l (by omega), ⟨by omega, hm2⟩, set_intro hM1 rfl ?_⟩
      (try walk_at "wp")
      have nn : 0 ≤ 2 * ((if c < 0 then -c else c) - 10 ^ (18 : Int).toNat) + (if decide (c < 0) = true then 1 else 0) := by
        have : (0 : Int) ≤ if decide (c < 0) = true then 1 else 0 := by split <;> omega
        omega
      refine ⟨by omega, _, rfl, Int.emod_nonneg _ (by omega), Int.emod_lt_of_pos _ (by omega), ⟨cs, t + 1, _, ?_, by omega, by omega, Int.ediv_nonneg (b := m) nn (by omega)⟩, But.set⟩
      rw [List.getElem?_set_self hn1]
      rfl
    · simp only [hbig]
      (try walk_at "wp")
      exact tail
  · simp only [ht]
    (try walk_at "wp")
    exact tail
theorem dialB_spec (h : Gau n B M) (hB : B ≤ 500000) (hm : 1 ≤ m) (hm2 : small2 9000 m = true) (h0 : 0 < c0 ∧ c0 < 2 ^ 20 ∧ 0 < d0 ∧ d0 < 2 ^ 20) (h1 : 0 < p1 ∧ p1 < 2 ^ 32) (h2 : 0 < a1 ∧ a1 < 2 ^ 20 ∧ 0 < b1 ∧ b1 < 2 ^ 20) (h3 : 0 < p2 ∧ p2 < 2 ^ 31) (h4 : 0 < b2 ∧ b2 < 2 ^ 20 ∧ 0 < a2 ∧ a2 < 2 ^ 20 ∧ 0 < c2 ∧ c2 < 2 ^ 20) (h5 : 0 < p3) :
    wp (dDef 6 2 (dialB fl c0 d0 p1 a1 b1 p2 b2 a2 c2 p3) [.ptr n, .int m] M) (fun d M' => ∃ v, d = .int v ∧ 0 ≤ v ∧ v < m ∧ Gau n (B + 1) M' ∧ But n M M') E := by
  obtain ⟨cs, t, l, hM, t0, tB, l0⟩ := h
  have hn : n < M.length := (List.getElem?_eq_some_iff.mp hM).1
  (try walk_at "wp")
  unfold dialB
  (try walk_at "wp")
  refine ix_intro rfl (asSeq_ptr hM) rfl ?_
  (try walk_at "wp")
  by_cases hl : 0 < l
  · simp only [hl]
    (try walk_at "wp")
    refine ix_intro rfl (asSeq_ptr hM) rfl ?_
    (try walk_at "wp")
    refine ⟨⟨by omega, hm2⟩, set_intro hM rfl ?_⟩
    (try walk_at "wp")
    refine ⟨by omega, _, rfl, Int.emod_nonneg _ (by omega), Int.emod_lt_of_pos _ (by omega), ⟨cs, t, l / m, ?_, t0, by omega, Int.ediv_nonneg l0 (by omega)⟩, But.set⟩
    rw [List.getElem?_set_self hn]
    rfl
  · simp only [hl]
    (try walk_at "wp")
    refine ix_intro rfl (asSeq_ptr hM) rfl ?_
    (try walk_at "wp")
    refine set_intro hM rfl ?_
    (try walk_at "wp")
    refine ⟨mulOk_l (by omega), ?_⟩
    have hM1 : (M.set n (MO.lst [D.lst (cs.map D.int), D.int (t + 1), D.int l]))[n]? = some (MO.lst [D.lst (cs.map D.int), D.int (t + 1), D.int l]) := List.getElem?_set_self hn
    have hB1 : But n M (M.set n (MO.lst [D.lst (cs.map D.int), D.int (t + 1), D.int l])) := But.set
    show wp (dIx (D.ptr n) (D.int 0) (M.set n (MO.lst [D.lst (cs.map D.int), D.int (t + 1), D.int l]))) _ _
    generalize M.set n (MO.lst [D.lst (cs.map D.int), D.int (t + 1), D.int l]) = M1 at hM1 hB1
    refine ix_intro rfl (asSeq_ptr hM1) rfl ⟨Nat.zero_le _, ?_⟩
    rw [wp_eqv rfl]
    refine ⟨_, _, py_ints cs, rfl, shaped_ints cs, rfl, ?_⟩
    rw [eqv_ints_nil]
    have fin : ∀ c, wp (restB fl p1 a1 b1 p2 b2 a2 c2 p3 [some (.ptr n), some (.int m), none, some (.int t), some (.int c), none] M1) (fun o M' => wp (outC o M') (fun d M' => ∃ v, d = .int v ∧ 0 ≤ v ∧ v < m ∧ Gau n (B + 1) M' ∧ But n M M') E) (fun _ _ _ _ => False) := fun c =>
      wp_mono (restB_spec hM1 t0 tB l0 hB hm hm2 h1 h2 h3 h4 h5) (fun o M' ⟨v, e, a, b, g, u⟩ => by subst e; exact ⟨v, rfl, a, b, g, hB1.trans u⟩) fun _ _ _ _ z => z
    cases cs with
    | nil =>
      simp only [List.isEmpty_nil, Bool.not_true, Bool.false_eq_true, if_false]
      (try walk_at "wp")
      exact fin _
    | cons c0' cr =>
      have hlen : 0 < (c0' :: cr).length := Nat.succ_pos _
      generalize hcs : c0' :: cr = cs at hM1 hlen fin
      have hne : cs.isEmpty = false := by rw [← hcs]; rfl
      simp only [hne]
      (try walk_at "wp")
      refine ix_intro rfl (asSeq_ptr hM1) rfl ?_
      (try walk_at "wp")
      refine ix_intro rfl (asSeq_ptr hM1) rfl ?_
      refine len_intro (ds := cs.map D.int) rfl rfl ?_
      rw [wp_mod, List.length_map]
      refine ⟨by omega, ?_⟩
      have hr0 : 0 ≤ t % (cs.length : Int) := Int.emod_nonneg _ (by omega)
      have hr1 : t % (cs.length : Int) < cs.length := Int.emod_lt_of_pos _ (by omega)
      have hlt : (t % (cs.length : Int)).toNat < cs.length := by omega
      obtain ⟨c, hc⟩ : ∃ c, cs[(t % (cs.length : Int)).toNat]? = some c := ⟨_, List.getElem?_eq_getElem hlt⟩
      refine ix_intro (ds := cs.map D.int) (v := D.int c) rfl rfl (by
        have e : (cs.map D.int)[(t % (cs.length : Int)).toNat]? = some (D.int c) := by rw [List.getElem?_map, hc]; rfl
        have := L2.atI_nat e
        rw [Int.toNat_of_nonneg hr0] at this
        exact this) ?_
      (try walk_at "wp")
      exact fin _
theorem dialB_ok (h0 : 0 < c0 ∧ c0 < 2 ^ 20 ∧ 0 < d0 ∧ d0 < 2 ^ 20) (h1 : 0 < p1 ∧ p1 < 2 ^ 32) (h2 : 0 < a1 ∧ a1 < 2 ^ 20 ∧ 0 < b1 ∧ b1 < 2 ^ 20) (h3 : 0 < p2 ∧ p2 < 2 ^ 31) (h4 : 0 < b2 ∧ b2 < 2 ^ 20 ∧ 0 < a2 ∧ a2 < 2 ^ 20 ∧ 0 < c2 ∧ c2 < 2 ^ 20) (h5 : 0 < p3) : DialOk (dDef 6 2 (dialB fl c0 d0 p1 a1 b1 p2 b2 a2 c2 p3)) :=
  fun n B m M E h hB hm hm2 => dialB_spec h hB hm (small2_le (by omega) hm2) h0 h1 h2 h3 h4 h5
end
end DL
end
section
set_option Elab.async false
set_option linter.all false
set_option maxRecDepth 100000
set_option maxHeartbeats 1000000
/-! reckoning with the later rules -/
namespace DL
open PySem PySem.Spec PyProof.Rows L2
section
variable {Q : D → Sto → Prop} {QL : List D → Sto → Prop} {QB : Bool → Sto → Prop} {QO : Out → Sto → Prop} {E : EC} {ρ : Env} {M : Sto} {f g h : Env → C D} {gl : Env → C (List D)} {k k' : D → D → C D} {kl : List D → C (List D)} {x y d : D} {xs ys : List D} {i j : Int} {b : Bool}
theorem wp_dRng : wp (dRng kl gl ρ M) QL E = wp (gl ρ M) (fun xs M1 => wp (kl xs M1) QL E) E := by unfold dRng; rw [wp_bind]
theorem wp_zipLL : wp (zipA [.lst xs, .lst ys] M) QL E = QL (zipD xs ys) M := rfl
theorem wp_zipLT : wp (zipA [.lst xs, .tup ys] M) QL E = QL (zipD xs ys) M := rfl
theorem wp_zipTL : wp (zipA [.tup xs, .lst ys] M) QL E = QL (zipD xs ys) M := rfl
theorem wp_zipTT : wp (zipA [.tup xs, .tup ys] M) QL E = QL (zipD xs ys) M := rfl
theorem wp_enuL : wp (enuA [.lst xs] M) QL E = QL (enuD 0 xs) M := rfl
theorem wp_enuT : wp (enuA [.tup xs] M) QL E = QL (enuD 0 xs) M := rfl
theorem wp_rng1 : wp (rng1 [.int j] M) QL E = ((-(2 ^ 62) ≤ j ∧ j < 2 ^ 62) ∧ QL (rgI 0 j.toNat) M) := by
  show wp ((if -(2 ^ 62) ≤ j ∧ j < 2 ^ 62 then C.pure (rgI 0 j.toNat) else C.bad) M) QL E = _
  rw [wp_if, wp_pure, wp_cbad]; by_cases z : -(2 ^ 62) ≤ j ∧ j < 2 ^ 62 <;> simp only [z, if_true, if_false, true_and, false_and]
theorem wp_rng2 : wp (rng2 [.int i, .int j] M) QL E = ((-(2 ^ 62) ≤ i ∧ i < 2 ^ 62 ∧ -(2 ^ 62) ≤ j ∧ j < 2 ^ 62) ∧ QL (rgI i (j - i).toNat) M) := by
  show wp ((if -(2 ^ 62) ≤ i ∧ i < 2 ^ 62 ∧ -(2 ^ 62) ≤ j ∧ j < 2 ^ 62 then C.pure (rgI i (j - i).toNat) else C.bad) M) QL E = _
  rw [wp_if, wp_pure, wp_cbad]; by_cases z : -(2 ^ 62) ≤ i ∧ i < 2 ^ 62 ∧ -(2 ^ 62) ≤ j ∧ j < 2 ^ 62 <;> simp only [z, if_true, if_false, true_and, false_and]
theorem wp_chain : wp (dChain k k' f g h ρ M) Q E = wp (f ρ M) (fun x M1 => wp (g ρ M1) (fun y M2 => wp (k x y M2) (fun z M3 => wp (asB z M3) (fun b M4 => if b = true then wp (h ρ M4) (fun w M5 => wp (k' y w M5) Q E) E else Q (.bl false) M4) E) E) E) E := by
  unfold dChain
  rw [wp_bind]; congr 1; funext x M1
  rw [wp_bind]; congr 1; funext y M2
  rw [wp_bind]; congr 1; funext z M3
  rw [wp_bind]; congr 1; funext b M4
  rw [wp_if, wp_bind, wp_pure]
theorem wp_sAug {n : Nat} : wp (sAug n k f ρ M) QO E = wp (dVar n ρ M) (fun x M1 => wp (f ρ M1) (fun y M2 => wp (k x y M2) (fun d M3 => QO (.nx (ρ.set n (some d))) M3) (fun c fn ds M' => QO (.ex c fn ds ρ) M')) (fun c fn ds M' => QO (.ex c fn ds ρ) M')) (fun c fn ds M' => QO (.ex c fn ds ρ) M') := by
  unfold sAug; rw [wp_lift, wp_dB]; rfl
theorem wp_iadd : wp (dIAdd (.int i) (.int j) M) Q E = Q (.int (i + j)) M := rfl
theorem wp_isub : wp (dISub (.int i) (.int j) M) Q E = Q (.int (i - j)) M := rfl
theorem wp_sPar3 {a b c : Nat} : wp (sPar3 a b c gl ρ M) QO E = wp (gl ρ M) (fun ds M1 => ∃ d e f, ds = [d, e, f] ∧ QO (.nx (((ρ.set a (some d)).set b (some e)).set c (some f))) M1) (fun c fn ds M' => QO (.ex c fn ds ρ) M') := by
  unfold sPar3; rw [wp_lift]; congr 1; funext ds M1
  match ds with
  | [] => exact propext ⟨fun z => z.elim, fun ⟨_, _, _, z, _⟩ => nomatch z⟩
  | [_] => exact propext ⟨fun z => z.elim, fun ⟨_, _, _, z, _⟩ => nomatch z⟩
  | [_, _] => exact propext ⟨fun z => z.elim, fun ⟨_, _, _, z, _⟩ => nomatch z⟩
  | [d, e, f] => exact propext ⟨fun z => ⟨d, e, f, rfl, z⟩, fun ⟨_, _, _, z, q⟩ => by cases z; exact q⟩
  | _ :: _ :: _ :: _ :: _ => exact propext ⟨fun z => z.elim, fun ⟨_, _, _, z, _⟩ => nomatch z⟩
theorem wp_dLcm : wp (dLcm [.int i, .int j] M) Q E = (lcmOk i j = true ∧ Q (.int ((Nat.lcm i.natAbs j.natAbs : Nat) : Int)) M) := by
  show wp ((if lcmOk i j = true then C.pure (D.int ((Nat.lcm i.natAbs j.natAbs : Nat) : Int)) else C.bad) M) Q E = _
  rw [wp_if, wp_pure, wp_cbad]; by_cases z : lcmOk i j = true <;> simp only [z, if_true, if_false, true_and, false_and, Bool.false_eq_true]
theorem intsD_map (ns : List Int) : intsD (ns.map D.int) = some ns := by
  induction ns with
  | nil => rfl
  | cons n ns ih => show (intsD (ns.map D.int)).map (n :: ·) = _; rw [ih]; rfl
theorem blsD_map (ns : List Bool) : blsD (ns.map D.bl) = some ns := by
  induction ns with
  | nil => rfl
  | cons n ns ih => show (blsD (ns.map D.bl)).map (n :: ·) = _; rw [ih]; rfl
theorem wp_sum {ns : List Int} : wp (dSum [.lst (ns.map D.int)] M) Q E = Q (.int ns.sum) M := by
  show wp (C.of ((intsD (ns.map D.int)).map fun ns => D.int ns.sum) M) Q E = _
  rw [intsD_map]; rfl
theorem wp_all {ns : List Bool} : wp (dAll [.lst (ns.map D.bl)] M) Q E = Q (.bl (ns.all id)) M := by
  show wp (C.of ((blsD (ns.map D.bl)).map fun ns => D.bl (ns.all id)) M) Q E = _
  rw [blsD_map]; rfl
theorem wp_any {ns : List Bool} : wp (dAny [.lst (ns.map D.bl)] M) Q E = Q (.bl (ns.any id)) M := by
  show wp (C.of ((blsD (ns.map D.bl)).map fun ns => D.bl (ns.any id)) M) Q E = _
  rw [blsD_map]; rfl
end
end DL
end
section
set_option Elab.async false
set_option linter.all false
set_option maxRecDepth 100000
set_option maxHeartbeats 1000000
/-! zip of any number of lists and tuples -/
namespace DZ
open PySem
open PySem.Sem (wp)
/-- one that is zipped: a tuple (t) or a list at l, its items, its iterator -/
structure Src where
  t : Bool
  it : Addr
  l : Addr
  xs : Array Value
def Src.On (e : Src) (i : Nat) (h : Heap) : Prop := SI e.t h e.it e.l i ∧ SS e.t h e.l e.xs
structure ApartN (z TI TO : Addr) (L : List Src) : Prop where
  nd : (L.map (·.it)).Nodup
  li : ∀ e ∈ L, ∀ f ∈ L, e.l ≠ f.it
  iz : ∀ e ∈ L, e.it ≠ z ∧ e.it ≠ TI ∧ e.it ≠ TO
  lz : ∀ e ∈ L, e.l ≠ z ∧ e.l ≠ TO
  Tz : TI ≠ z
  Oz : TO ≠ z
  TO' : TI ≠ TO
abbrev IsTupL (h : Heap) (T : Addr) (xs : List Value) : Prop := h.get? T = some { cls := .type "tuple", data := .seq xs.toArray }
def Src.ref (e : Src) : Value := .ref e.it
theorem Src.On.keep {e : Src} {i : Nat} {h h' : Heap} (x : e.On i h) (k1 : ∀ o, h.get? e.it = some o → h'.get? e.it = some o) (k2 : ∀ o, h.get? e.l = some o → h'.get? e.l = some o) : e.On i h' := ⟨x.1.keep k1, x.2.keep k2⟩
theorem Src.On.turn {e f : Src} {i : Nat} {h h' : Heap} (x : e.On i h) (sb : Heap.SameBut f.it h h') (h1 : e.it ≠ f.it) (h2 : e.l ≠ f.it) : e.On i h' := x.keep (fun o q => sb.extBut _ _ h1 q) fun o q => sb.extBut _ _ h2 q
section
variable {prog : Program} {w : World} {A : Around} {E : Value → Shared → Prop} {s : Shared} {z TI TO T : Addr} {L : List Src} {i : Nat}
/-- all but the iterators is kept -/
def Heap.ExtIts (L : List Src) (h h' : Heap) : Prop := ∀ c o, (∀ e ∈ L, c ≠ e.it) → h.get? c = some o → h'.get? c = some o
/-- what the draws so far have left -/
structure Mid (P : Addr → Prop) (i : Nat) (L : List Src) (rest : List Value) (acc : Array Value) (h h' : Heap) : Prop where
  ex : ∃ L1 L2, L = L1 ++ L2 ∧ rest = L2.map Src.ref ∧ acc.size = L1.length ∧ (∀ (k : Nat) (e : Src), L1[k]? = some e → acc[k]? = e.xs[i]? ∧ i < e.xs.size) ∧ (∀ e ∈ L1, e.On (i + 1) h') ∧ (∀ e ∈ L2, e.On i h')
  keep : ∀ c o, ¬ P c → (∀ e ∈ L, c ≠ e.it) → h.get? c = some o → h'.get? c = some o
  sz : h'.objs.size = h.objs.size
theorem Mid.start {P : Addr → Prop} {h : Heap} (on : ∀ e ∈ L, e.On i h) : Mid P i L (L.map Src.ref) #[] h h where
  ex := ⟨[], L, rfl, rfl, rfl, fun k e q => by simp at q, fun e he => by simp at he, on⟩
  keep := fun _ _ _ _ q => q
  sz := rfl
/-- one more draw: what it finds -/
theorem Mid.draw {P : Addr → Prop} {h : Heap} {v : Value} {rest : List Value} {acc : Array Value} {Q : Value → Shared → Prop} (hh : A.handled = none) (nd : (L.map (·.it)).Nodup) (li : ∀ e ∈ L, ∀ f ∈ L, e.l ≠ f.it) (m : Mid P i L (v :: rest) acc h s.heap)
    (q : ∀ x h', Mid P i L rest (acc.push x) h h' → Heap.ExtIts L s.heap h' → Q x { s with heap := h' })
    (hE : (∃ e ∈ L, e.xs[i]? = none) → ∀ h' e, (∀ c o, ¬ P c → (∀ e ∈ L, c ≠ e.it) → h.get? c = some o → h'.get? c = some o) → Heap.ExtIts L s.heap h' → (∃ o, h'.get? e = some o ∧ o.cls = .type "StopIteration") → E (.ref e) { s with heap := h' }) :
    wpAny (model prog w) A (Builtin.SmallTypes.nextOf v) Q E s := by
  obtain ⟨L1, L2, eL, er, hs, ha, o1, o2⟩ := m.ex
  cases L2 with
  | nil => cases er
  | cons f L2 =>
    simp only [List.map_cons, List.cons.injEq] at er
    obtain ⟨ev, er⟩ := er
    subst ev
    have hf : f ∈ L := by rw [eL]; simp
    have of_ := o2 f List.mem_cons_self
    have nd' : (L1.map (·.it) ++ f.it :: L2.map (·.it)).Nodup := by rw [eL] at nd; simpa using nd
    have ne1 : ∀ e ∈ L1, e.it ≠ f.it := fun e he q => by
      have := (List.nodup_append.mp nd').2.2 e.it (List.mem_map_of_mem he) f.it List.mem_cons_self
      exact this q
    have ne2 : ∀ e ∈ L2, e.it ≠ f.it := fun e he q => by
      have := (List.nodup_cons.mp (List.nodup_append.mp nd').2.1).1
      exact this (q ▸ List.mem_map_of_mem (f := fun e : Src => e.it) he)
    have m1 : ∀ e ∈ L1, e ∈ L := fun e he => by rw [eL]; exact List.mem_append_left _ he
    have m2 : ∀ e ∈ L2, e ∈ L := fun e he => by rw [eL]; exact List.mem_append_right _ (List.mem_cons_of_mem _ he)
    cases hx : f.xs[i]? with
    | some x =>
      refine SI.next of_.1 of_.2 hx fun h' n1 sb => q x h' ⟨⟨L1 ++ [f], L2, by rw [eL]; simp, er, by rw [Array.size_push, hs]; simp, fun k e he => ?_, fun e he => ?_, fun e he => ?_⟩, fun c o hp hc e => sb.extBut _ _ (hc f hf) (m.keep c o hp hc e), by rw [sb.1, m.sz]⟩ fun c o hc e => sb.extBut _ _ (hc f hf) e
      · by_cases hk : k < L1.length
        · rw [List.getElem?_append_left hk] at he
          rw [Array.getElem?_push, if_neg (by omega)]
          exact ha k e he
        · rw [List.getElem?_append_right (by omega)] at he
          have hk0 : k - L1.length = 0 := by
            have := (List.getElem?_eq_some_iff.mp he).1
            simp at this; omega
          rw [hk0] at he
          simp only [List.getElem?_cons_zero, Option.some.injEq] at he
          subst he
          rw [Array.getElem?_push, if_pos (by omega), hx]
          exact ⟨rfl, by obtain ⟨h, _⟩ := Array.getElem?_eq_some_iff.mp hx; exact h⟩
      · rcases List.mem_append.mp he with he | he
        · exact (o1 e he).turn sb (ne1 e he) (li e (m1 e he) f hf)
        · simp only [List.mem_singleton] at he
          subst he
          exact ⟨n1, of_.2.keep fun o q => sb.extBut _ _ (li e hf e hf) q⟩
      · exact (o2 e (List.mem_cons_of_mem _ he)).turn sb (ne2 e he) (li e (m2 e he) f hf)
    | none =>
      exact SI.over hh of_.1 of_.2 hx fun h' e eb st => hE ⟨f, hf, hx⟩ h' e (fun c o hp hc e => eb _ _ (hc f hf) (m.keep c o hp hc e)) (fun c o hc e => eb _ _ (hc f hf) e) st
theorem Mid.fin {P : Addr → Prop} {h h' : Heap} {acc : Array Value} (m : Mid P i L [] acc h h') : acc.size = L.length ∧ (∀ (k : Nat) (e : Src), L[k]? = some e → acc[k]? = e.xs[i]? ∧ i < e.xs.size) ∧ ∀ e ∈ L, e.On (i + 1) h' := by
  obtain ⟨L1, L2, eL, er, hs, ha, o1, o2⟩ := m.ex
  cases L2 with
  | nil => rw [List.append_nil] at eL; subst eL; exact ⟨hs, ha, o1⟩
  | cons f L2 => cases er
theorem Mid.other {P : Addr → Prop} {h h' h'' : Heap} {rest : List Value} {acc : Array Value} {b : Addr} (m : Mid P i L rest acc h h') (sb : Heap.SameBut b h' h'') (hb : P b) (d1 : ∀ e ∈ L, e.it ≠ b ∧ e.l ≠ b) : Mid P i L rest acc h h'' where
  ex := by
    obtain ⟨L1, L2, eL, er, hs, ha, o1, o2⟩ := m.ex
    refine ⟨L1, L2, eL, er, hs, ha, fun e he => (o1 e he).keep (fun o q => sb.extBut _ _ (d1 e (eL ▸ List.mem_append_left _ he)).1 q) fun o q => sb.extBut _ _ (d1 e (eL ▸ List.mem_append_left _ he)).2 q, fun e he => (o2 e he).keep (fun o q => sb.extBut _ _ (d1 e (eL ▸ List.mem_append_right _ he)).1 q) fun o q => sb.extBut _ _ (d1 e (eL ▸ List.mem_append_right _ he)).2 q⟩
  keep := fun c o hp hc e => sb.extBut _ _ (fun z => hp (z ▸ hb)) (m.keep c o hp hc e)
  sz := by rw [sb.1, m.sz]
theorem updateSeq_tup {T : Addr} {xs : List Value} {x : Value} {k : Nat} {Q : Unit → Shared → Prop} (hz : xs.length ≤ sizeLine) (hT : IsTupL s.heap T xs) (h : ∀ h', IsTupL h' T (xs.set k x) → Heap.SameBut T s.heap h' → Q () { s with heap := h' }) :
    wpAny (model prog w) A (updateSeq T (·.setIfInBounds k x)) Q E s := by
  refine wpAny_updateSeq hT rfl (h _ ?_ (Heap.SameBut.update ..)) (by simpa using hz) (by simp; omega)
  show _ = _
  rw [Heap.get?_update_self _ hT rfl]
  simp [Obj.mapSeq]
/-- the next one where the last tuple is still out -/
theorem zn_held {f : Bool} {oT : Obj} {Q : Value → Shared → Prop} (hh : A.handled = none) (D : ApartN z TI TO L) (hz : IsZipHeld s.heap z TI TO T f) (hT : s.heap.get? T = some oT) (hTI : IsTupL s.heap TI (L.map Src.ref)) (hL : L ≠ []) (on : ∀ e ∈ L, e.On i s.heap)
    (hQ : ∀ xs : Array Value, xs.size = L.length → (∀ (k : Nat) (e : Src), L[k]? = some e → xs[k]? = e.xs[i]? ∧ i < e.xs.size) → ∀ h', IsZipHeld h' z TI TO T true → (∀ e ∈ L, e.On (i + 1) h') → IsTupL h' s.heap.objs.size xs.toList → h'.objs.size = s.heap.objs.size + 1 →
      (∀ c o, c ≠ z → (∀ e ∈ L, c ≠ e.it) → s.heap.get? c = some o → h'.get? c = some o) → Q (.ref s.heap.objs.size) { s with heap := h' })
    (hn : L.length ≤ sizeLine)
    (hE : (∃ e ∈ L, e.xs[i]? = none) → ∀ h' e, (∀ c o, c ≠ z → (∀ e ∈ L, c ≠ e.it) → s.heap.get? c = some o → h'.get? c = some o) → (∃ o, h'.get? e = some o ∧ o.cls = .type "StopIteration") → E (.ref e) { s with heap := h' }) :
    wpAny (model prog w) A (Builtin.«zip.__next__» ⟨[.ref z], []⟩) (fun fin s' => ∃ v, fin = .done (.ret v) ∧ Q v s') E s := by
  show wpAny _ _ (field (.ref z) 2 >>= _) _ _ _
  refine wpAny_bind (wpAny_field hz rfl (x := .bool false) rfl ?_)
  show wpAny _ _ (field (.ref z) 3 >>= _) _ _ _
  refine wpAny_bind (wpAny_field hz rfl (x := .ref TI) rfl ?_)
  refine wpAny_bind (wpAny_seqItems hTI rfl ?_)
  dsimp only
  rw [if_neg (show ¬ ((List.map Src.ref L).toArray.isEmpty = true) by cases L with | nil => exact (hL rfl).elim | cons e L => simp)]
  show wpAny _ _ (Builtin.SmallTypes.ownedTupleIsFree (.ref z) >>= _) _ _ _
  refine wpAny_bind (wpAny_tupleHeld_zip hz hT fun h₁ hz₁ hs₁ => ?_)
  simp only [Bool.false_eq_true, if_false]
  have on1 : ∀ e ∈ L, e.On i h₁ := fun e he => (on e he).keep (fun o q => hs₁.extBut _ _ (D.iz e he).1 q) fun o q => hs₁.extBut _ _ (D.lz e he).1 q
  refine wpAny_bind ?_
  rw [← Array.forIn_toList]
  refine wpAny_forIn_list _ (fun rest r s' => r.1 = none ∧ ∃ h', s' = { s with heap := h' } ∧ Mid (fun _ => False) i L rest r.2 h₁ h') _ (fun v rest r s2 hI => ?_) (fun r s2 hI => ?_) _ _ ⟨rfl, h₁, rfl, Mid.start on1⟩
  · obtain ⟨r1, h2, e2, m⟩ := hI
    subst e2
    refine wpAny_bind (wpAny_holding ?_)
    show wpAny _ _ (Builtin.SmallTypes.nextOf v >>= _) _ _ _
    refine wpAny_bind (Mid.draw (s := { s with heap := h2 }) hh D.nd D.li m (fun x h' m' _ => ?_) fun he h' e k _ st => ?_)
    · exact wpAny_pure (wpAny_pure ⟨rfl, h', rfl, m'⟩)
    · exact hE he h' e (fun c o c1 c2 q => k c o (fun z => z) c2 (hs₁.extBut _ _ c1 q)) st
  · obtain ⟨r1, h2, e2, m⟩ := hI
    obtain ⟨rf, acc⟩ := r
    dsimp only at r1 m
    subst r1
    subst e2
    obtain ⟨f1, f2, f3⟩ := m.fin
    show wpAny _ _ (newTuple acc.toList >>= _) _ _ _
    refine wpAny_bind (wpAny_newTuple ?_ (by rw [Array.length_toList, f1]; exact hn))
    have zl : z < s.heap.objs.size := Heap.lt_size hz
    have sz : h2.objs.size = s.heap.objs.size := m.sz.trans hs₁.1
    have p1 : (h2.push { cls := .type "tuple", data := .seq acc.toList.toArray }).get? h2.objs.size = some _ := Heap.get?_push_size _ rfl
    have p2 : (h2.push { cls := .type "tuple", data := .seq acc.toList.toArray }).objs.size = h2.objs.size + 1 := Heap.size_push ..
    refine wpAny_pure ⟨_, rfl, ?_⟩
    show Q (.ref h2.objs.size) _
    rw [sz] at p1 p2 ⊢
    refine hQ acc f1 f2 _ (Heap.get?_push_of_some _ (m.keep z _ (fun z => z) (fun e he => (D.iz e he).1.symm) hz₁)) (fun e he => (f3 e he).keep (fun o q => Heap.get?_push_of_some _ q) fun o q => Heap.get?_push_of_some _ q) p1 p2 fun c o c1 c2 q => Heap.get?_push_of_some _ (m.keep c o (fun z => z) c2 (hs₁.extBut _ _ c1 q))
theorem set_here {acc : Array Value} {os : List Value} {x : Value} (hlt : acc.size < os.length) : (acc.toList ++ os.drop acc.size).set acc.size x = (acc.push x).toList ++ os.drop (acc.push x).size := by
  apply List.ext_getElem?
  intro k
  rw [Array.toList_push, Array.size_push]
  rcases Nat.lt_trichotomy k acc.size with h | h | h
  · rw [List.getElem?_set_ne (by omega), List.getElem?_append_left (by simpa using h), List.append_assoc, List.getElem?_append_left (by simpa using h)]
  · subst h
    rw [List.getElem?_set_self (by simp; omega), List.append_assoc, List.getElem?_append_right (by simp)]
    simp
  · rw [List.getElem?_set_ne (by omega), List.getElem?_append_right (by simp; omega), List.append_assoc, List.getElem?_append_right (by simp; omega)]
    simp only [Array.length_toList, List.getElem?_drop, List.cons_append, List.nil_append]
    rw [show k - acc.size = (k - acc.size - 1) + 1 by omega, List.getElem?_cons_succ, List.getElem?_drop]
    congr 1
    omega
/-- the next one where none is out -/
theorem zn_free {os : List Value} {Q : Value → Shared → Prop} (hh : A.handled = none) (D : ApartN z TI TO L) (hz : IsZip s.heap z TI TO .none) (hTO : IsTupL s.heap TO os) (hTI : IsTupL s.heap TI (L.map Src.ref)) (hL : L ≠ []) (on : ∀ e ∈ L, e.On i s.heap) (ho : os.length = L.length)
    (hQ : ∀ xs : Array Value, xs.size = L.length → (∀ (k : Nat) (e : Src), L[k]? = some e → xs[k]? = e.xs[i]? ∧ i < e.xs.size) → ∀ h', IsZip h' z TI TO (rawInt s.heap.objs.size) → IsTupL h' TO xs.toList → (∀ e ∈ L, e.On (i + 1) h') → IsTupL h' s.heap.objs.size xs.toList → h'.objs.size = s.heap.objs.size + 1 →
      (∀ c o, c ≠ z → c ≠ TO → (∀ e ∈ L, c ≠ e.it) → s.heap.get? c = some o → h'.get? c = some o) → Q (.ref s.heap.objs.size) { s with heap := h' })
    (hn : L.length ≤ sizeLine)
    (hE : (∃ e ∈ L, e.xs[i]? = none) → ∀ h' e, (∀ c o, c ≠ z → c ≠ TO → (∀ e ∈ L, c ≠ e.it) → s.heap.get? c = some o → h'.get? c = some o) → (∃ o, h'.get? e = some o ∧ o.cls = .type "StopIteration") → E (.ref e) { s with heap := h' }) :
    wpAny (model prog w) A (Builtin.«zip.__next__» ⟨[.ref z], []⟩) (fun fin s' => ∃ v, fin = .done (.ret v) ∧ Q v s') E s := by
  show wpAny _ _ (field (.ref z) 2 >>= _) _ _ _
  refine wpAny_bind (wpAny_field hz rfl (x := .bool false) rfl ?_)
  show wpAny _ _ (field (.ref z) 3 >>= _) _ _ _
  refine wpAny_bind (wpAny_field hz rfl (x := .ref TI) rfl ?_)
  refine wpAny_bind (wpAny_seqItems hTI rfl ?_)
  dsimp only
  rw [if_neg (show ¬ ((List.map Src.ref L).toArray.isEmpty = true) by cases L with | nil => exact (hL rfl).elim | cons e L => simp)]
  show wpAny _ _ (Builtin.SmallTypes.ownedTupleIsFree (.ref z) >>= _) _ _ _
  refine wpAny_bind ?_; rw [Builtin.SmallTypes.ownedTupleIsFree]
  refine wpAny_bind (wpAny_field hz rfl (x := .none) rfl (wpAny_pure ?_)); simp only [if_true]
  refine wpAny_bind (wpAny_rule (wpAny_bind (wpAny_field hz rfl (x := .ref TO) rfl ?_)))
  refine wpAny_bind (wpAny_setField_rec hz (by simp) fun g1 ho1 b1 => ?_)
  replace ho1 : IsZip g1 z TI TO .ellipsis := ho1
  have on1 : ∀ e ∈ L, e.On i g1 := fun e he => (on e he).keep (fun o q => b1.extBut _ _ (D.iz e he).1 q) fun o q => b1.extBut _ _ (D.lz e he).1 q
  have hO1 : IsTupL g1 TO os := b1.extBut _ _ D.Oz hTO
  have dO : ∀ e ∈ L, e.it ≠ TO ∧ e.l ≠ TO := fun e he => ⟨(D.iz e he).2.2, (D.lz e he).2⟩
  have last : ∀ (g9 : Heap) (e : Addr), IsZip g9 z TI TO .ellipsis → (∀ c o, c ≠ z → c ≠ TO → (∀ e ∈ L, c ≠ e.it) → s.heap.get? c = some o → g9.get? c = some o) → (∃ o, g9.get? e = some o ∧ o.cls = .type "StopIteration") → (∃ e ∈ L, e.xs[i]? = none) →
      wpAny (model prog w) A (setField (.ref z) 0 .none) (fun _ s' => E (.ref e) s') E { s with heap := g9 } := fun g9 e hz9 u9 ⟨oe, e1, e2⟩ hx => by
    have ne : e ≠ z := fun q => by rw [q, hz9] at e1; cases e1; simp at e2
    exact wpAny_setField_rec (s := { s with heap := g9 }) hz9 (by simp) fun g10 _ b10 => hE hx g10 e (fun c o c1 c2 c3 x => b10.extBut _ _ c1 (u9 c o c1 c2 c3 x)) ⟨oe, b10.extBut _ _ ne e1, e2⟩
  refine wpAny_bind (wpAny_forIn_list _ (fun rest r s' => r.1 = none ∧ ∃ h' acc rv, s' = { s with heap := h' } ∧ rest = rv.zipIdx acc.size ∧ Mid (fun c => c = TO) i L rv acc g1 h' ∧ IsZip h' z TI TO .ellipsis ∧ IsTupL h' TO (acc.toList ++ os.drop acc.size)) _ (fun vk rest r s2 hI => ?_) (fun r s2 hI => ?_) _ _ ⟨rfl, g1, #[], L.map Src.ref, rfl, rfl, Mid.start on1, ho1, by simpa using hO1⟩)
  · obtain ⟨r1, h2, acc, rv, e2, er, m, z2, o2⟩ := hI
    subst e2
    cases rv with
    | nil => cases er
    | cons v rv =>
      rw [List.zipIdx_cons, List.cons.injEq] at er
      obtain ⟨ev, er⟩ := er
      subst ev
      dsimp only
      refine wpAny_bind (wpAny_onRaise ?_)
      show wpAny _ _ (Builtin.SmallTypes.nextOf v >>= _) _ _ _
      refine wpAny_bind (Mid.draw (s := { s with heap := h2 }) hh D.nd D.li m (fun x h' m' k' => ?_) fun he h' e k k' st => ?_)
      · refine wpAny_pure ?_
        have hlt : acc.size < os.length := by
          obtain ⟨L1, L2, eL, er', hs, _⟩ := m.ex
          rw [ho, eL, List.length_append, hs]
          cases L2 with
          | nil => cases er'
          | cons _ _ => simp
        have z3 : IsZip h' z TI TO .ellipsis := k' z _ (fun e he => (D.iz e he).1.symm) z2
        have o3 : IsTupL h' TO _ := k' TO _ (fun e he => (D.iz e he).2.2.symm) o2
        refine wpAny_bind (wpAny_seqItems (s := { s with heap := h' }) o3 rfl ?_)
        refine wpAny_bind (updateSeq_tup (s := { s with heap := h' }) (by simp; omega) o3 fun h4 o4 b4 => wpAny_bind (wpAny_letGo (wpAny_pure ?_)))
        refine ⟨rfl, h4, acc.push x, rv, rfl, by rw [Array.size_push]; exact er, m'.other b4 rfl dO, b4.extBut _ _ D.Oz.symm z3, ?_⟩
        have : (acc.toList ++ os.drop acc.size).set acc.size x = (acc.push x).toList ++ os.drop (acc.push x).size := by
          exact set_here hlt
        rw [← this]; exact o4
      · exact last h' e (k' z _ (fun e he => (D.iz e he).1.symm) z2) (fun c o c1 c2 c3 q => k c o c2 c3 (b1.extBut _ _ c1 q)) st he
  · obtain ⟨r1, h2, acc, rv, e2, er, m, z2, o2⟩ := hI
    obtain ⟨rf, u⟩ := r
    dsimp only at r1
    subst r1
    subst e2
    cases rv with
    | cons v rv => rw [List.zipIdx_cons] at er; cases er
    | nil =>
      obtain ⟨f1, f2, f3⟩ := m.fin
      rw [f1, ← ho, List.drop_length, List.append_nil] at o2
      dsimp only
      refine wpAny_bind (wpAny_seqItems (s := { s with heap := h2 }) o2 rfl ?_)
      have sz : h2.objs.size = s.heap.objs.size := m.sz.trans b1.1
      have zl : z < s.heap.objs.size := Heap.lt_size hz
      refine wpAny_bind (wpAny_newTuple ?_ (by simp; omega))
      show wpAny _ _ (Builtin.SmallTypes.ownedTupleHandOut (.ref z) (.ref h2.objs.size) >>= _) _ _ _; refine wpAny_bind ?_; rw [Builtin.SmallTypes.ownedTupleHandOut]
      have z6 : IsZip (h2.push { cls := .type "tuple", data := .seq acc.toList.toArray }) z TI TO .ellipsis := Heap.get?_push_of_some _ z2
      have p1 : (h2.push { cls := .type "tuple", data := .seq acc.toList.toArray }).get? h2.objs.size = some _ := Heap.get?_push_size _ rfl
      have p2 : (h2.push { cls := .type "tuple", data := .seq acc.toList.toArray }).objs.size = h2.objs.size + 1 := Heap.size_push ..
      simp only [Array.toArray_toList] at z6 p1 p2 ⊢
      refine wpAny_bind (wpAny_setField_rec (s := { s with heap := _ }) z6 (by simp) fun g7 z7 b7 => ?_)
      replace z7 : IsZip g7 z TI TO (rawInt h2.objs.size) := z7
      refine wpAny_setField_rec (s := { s with heap := g7 }) z7 (by simp) fun g8 z8 b8 => wpAny_pure ⟨_, rfl, ?_⟩
      replace z8 : IsZip g8 z TI TO (rawInt h2.objs.size) := z8
      have up : ∀ c o, c ≠ z → h2.get? c = some o → g8.get? c = some o := fun c o ne e => b8.extBut _ _ ne (b7.extBut _ _ ne (Heap.get?_push_of_some _ e))
      have nT := b8.extBut _ _ (by rw [sz]; exact Nat.ne_of_gt zl) (b7.extBut _ _ (by rw [sz]; exact Nat.ne_of_gt zl) p1)
      have s8 : g8.objs.size = h2.objs.size + 1 := by rw [b8.1, b7.1, p2]
      rw [sz] at z8 nT s8
      show Q (.ref h2.objs.size) _
      rw [sz]
      exact hQ acc f1 f2 g8 z8 (up _ _ D.Oz o2) (fun e he => (f3 e he).keep (fun o q => up _ _ (D.iz e he).1 q) fun o q => up _ _ (D.lz e he).1 q) (by simpa using nT) s8 fun c o c1 c2 c3 q => up _ _ c1 (m.keep c o c2 c3 (b1.extBut _ _ c1 q))
end
end DZ
end
section
set_option Elab.async false
set_option linter.all false
set_option maxRecDepth 100000
set_option maxHeartbeats 1000000
/-! zip of any number of lists and tuples: how it is made, and all of it in a tuple or a list -/
namespace DZ
open PySem
open PySem.Sem (wp)
theorem tc_zip (vs : List Value) : checkTypeCall "zip" ⟨vs, []⟩ = pure () := by kernel_rfl
theorem nc_zip (v : Value) (vs : List Value) : checkBuiltinCall "zip.__new__" ⟨.type "zip" :: v :: vs, []⟩ = pure () := by kernel_rfl
theorem ao_init (ob : Value) (vs : List Value) : argsOk "object.__init__" ⟨ob :: vs, []⟩ := by
  unfold argsOk; rw [signature?_of (id := "object.__init__") (n := ['_', '_', 't', 'i', 'n', 'i', '_', '_']) (o := ['t', 'c', 'e', 'j', 'b', 'o']) (by kernel_rfl) F.owner_object]; kernel_rfl
/-- what is to be zipped -/
abbrev Sq := Bool × Addr × Array Value
abbrev Sq.ref (e : Sq) : Value := .ref e.2.1
def itsOf (n m : Nat) : List Value := (List.range m).map fun k => .ref (n + k)
theorem itsOf_succ (n m : Nat) : itsOf n (m + 1) = itsOf n m ++ [.ref (n + m)] := by unfold itsOf; rw [List.range_succ, List.map_append]; rfl
theorem newClass_zip (vs : List Value) : Builtin.SmallTypes.newClass "zip" ⟨.type "zip" :: vs, []⟩ = pure (.type "zip", vs) := by
  have := sub_zip
  unfold Builtin.SmallTypes.newClass
  simp only [isType, this, pure_bind, Bool.not_true, Bool.false_eq_true, if_false]
section
variable {prog : Program} {w : World} {A : Around} {E : Value → Shared → Prop} {s : Shared}
/-- the iterators made ahead of a zip -/
theorem iterAll_on {L : List Sq} {Q : List Value → Shared → Prop} (on : ∀ e ∈ L, SS e.1 s.heap e.2.1 e.2.2)
    (q : ∀ h', (∀ c o, s.heap.get? c = some o → h'.get? c = some o) → h'.objs.size = s.heap.objs.size + L.length → (∀ (k : Nat) (e : Sq), L[k]? = some e → SI e.1 h' (s.heap.objs.size + k) e.2.1 0) → Q (itsOf s.heap.objs.size L.length) { s with heap := h' }) :
    wpAny (model prog w) A (Builtin.SmallTypes.iterAll (L.map Sq.ref)) Q E s := by
  unfold Builtin.SmallTypes.iterAll
  refine wpAny_bind (wpAny_forIn_list _ (fun rest its s' => ∃ h', s' = { s with heap := h' } ∧ ∃ L1 L2, L = L1 ++ L2 ∧ rest = L2.map Sq.ref ∧ its.toList = itsOf s.heap.objs.size L1.length ∧ (∀ c o, s.heap.get? c = some o → h'.get? c = some o) ∧ h'.objs.size = s.heap.objs.size + L1.length ∧
    ∀ (k : Nat) (e : Sq), L1[k]? = some e → SI e.1 h' (s.heap.objs.size + k) e.2.1 0) _ (fun v rest its s2 hI => ?_) (fun its s2 hI => ?_) _ _ ⟨s.heap, rfl, [], L, rfl, rfl, rfl, fun _ _ e => e, rfl, fun k e h => by simp at h⟩)
  · obtain ⟨h', e1, L1, L2, eL, er, ei, k1, sz, si⟩ := hI
    subst e1
    cases L2 with
    | nil => cases er
    | cons f L2 =>
      simp only [List.map_cons, List.cons.injEq] at er
      obtain ⟨ev, er⟩ := er
      subst ev
      have ss : SS f.1 h' f.2.1 f.2.2 := (on f (by rw [eL]; simp)).keep fun o e => k1 _ _ e
      refine wpAny_bind (wpAny_holding (SS.iter (s := { s with heap := h' }) ss (wpAny_pure ⟨_, rfl, L1 ++ [f], L2, by rw [eL]; simp, er, ?_, fun c o e => Heap.get?_push_of_some _ (k1 _ _ e), ?_, fun k e he => ?_⟩)))
      · rw [Array.toList_push, ei, List.length_append, List.length_singleton, itsOf_succ, sz]
      · rw [Heap.size_push, sz, List.length_append, List.length_singleton]; omega
      · by_cases hk : k < L1.length
        · rw [List.getElem?_append_left hk] at he
          exact (si k e he).keep fun o q => Heap.get?_push_of_some _ q
        · rw [List.getElem?_append_right (by omega)] at he
          have hk0 : k - L1.length = 0 := by
            have := (List.getElem?_eq_some_iff.mp he).1
            simp at this; omega
          rw [hk0] at he
          simp only [List.getElem?_cons_zero, Option.some.injEq] at he
          subst he
          have w1 : (h'.push (itO f.1 f.2.1)).get? h'.objs.size = some _ := Heap.get?_push_size _ rfl
          rw [sz, show L1.length = k by omega] at w1
          obtain ⟨t, l, xs⟩ := f
          cases t <;> exact ⟨_, w1, rfl, rfl⟩
  · obtain ⟨h', e1, L1, L2, eL, er, ei, k1, sz, si⟩ := hI
    subst e1
    cases L2 with
    | cons f L2 => cases er
    | nil =>
      rw [List.append_nil] at eL
      subst eL
      refine wpAny_pure ?_
      rw [ei]
      exact q h' k1 sz si
def oTI (n m : Nat) : Obj := { cls := .type "tuple", data := .seq (itsOf n m).toArray }
def oTO (m : Nat) : Obj := { cls := .type "tuple", data := .seq (List.replicate m Value.none).toArray }
/-- zip(..) of all of them -/
theorem zip_call {e : Sq} {L : List Sq} {Q : Value → Shared → Prop} (on : ∀ f ∈ e :: L, SS f.1 s.heap f.2.1 f.2.2) (hl : (e :: L).length ≤ sizeLine)
    (q : ∀ h' z, z = s.heap.objs.size + (e :: L).length + 2 → IsZip h' z (s.heap.objs.size + (e :: L).length) (s.heap.objs.size + (e :: L).length + 1) .none → IsTupL h' (s.heap.objs.size + (e :: L).length) (itsOf s.heap.objs.size (e :: L).length) → IsTupL h' (s.heap.objs.size + (e :: L).length + 1) (List.replicate (e :: L).length .none) →
      (∀ (k : Nat) (f : Sq), (e :: L)[k]? = some f → SI f.1 h' (s.heap.objs.size + k) f.2.1 0) → (∀ c o, s.heap.get? c = some o → h'.get? c = some o) → h'.objs.size = s.heap.objs.size + (e :: L).length + 3 → Q (.ref z) { s with heap := h' }) :
    wpAny (model prog w) A (call (.type "zip") ((e :: L).map Sq.ref)) Q E s := by
  have sub := sub_zip
  refine callType_new (S := fun A R s1 => s1 = s ∧ ∀ h' : Heap, IsZip h' (s.heap.objs.size + (e :: L).length + 2) (s.heap.objs.size + (e :: L).length) (s.heap.objs.size + (e :: L).length + 1) .none → IsTupL h' (s.heap.objs.size + (e :: L).length) (itsOf s.heap.objs.size (e :: L).length) → IsTupL h' (s.heap.objs.size + (e :: L).length + 1) (List.replicate (e :: L).length .none) →
      (∀ (k : Nat) (f : Sq), (e :: L)[k]? = some f → SI f.1 h' (s.heap.objs.size + k) f.2.1 0) → (∀ c o, s.heap.get? c = some o → h'.get? c = some o) → h'.objs.size = s.heap.objs.size + (e :: L).length + 3 → R (.ok (.ret (.ref (s.heap.objs.size + (e :: L).length + 2)))) { s with heap := h' })
    F.called_zip (by decide) (tc_zip _) (nc_zip _ _) (fun ob => ao_init ob _) F.entry_zip_new (.of_wp fun prog' w' A' R s1 h => ?_) ⟨rfl, fun h' hz hT hO hs hk sz => ⟨⟨_, hz, rfl⟩, q h' _ rfl hz hT hO hs hk sz⟩⟩
  obtain ⟨e1, h⟩ := h
  subst e1
  obtain ⟨hp, g, d, tk, os⟩ := s1
  unfold Builtin.«zip.__new__»
  refine wpAny_bind (wpAny_of_eq (newClass_zip _) ?_)
  dsimp only
  rw [if_neg (by decide)]
  refine wpAny_bind (iterAll_on (L := e :: L) (s := ⟨hp, g, d, tk, os⟩) on fun h1 k1 z1 i1 => ?_)
  have li : (itsOf hp.objs.size (e :: L).length).length = (e :: L).length := by unfold itsOf; rw [List.length_map, List.length_range]
  refine wpAny_bind (wpAny_newTuple ?_ (by rw [li]; exact hl))
  refine wpAny_bind (wpAny_newTuple ?_ (by rw [List.length_map, li]; exact hl))
  have em : List.map (fun _ => Value.none) (itsOf hp.objs.size (e :: L).length) = List.replicate (e :: L).length Value.none := by rw [List.map_const', li]
  rw [em]
  replace z1 : h1.objs.size = hp.objs.size + (e :: L).length := z1
  show wpAny _ _ (Builtin.SmallTypes.newRecord _ _ >>= _) _ _ _
  unfold Builtin.SmallTypes.newRecord
  refine wpAny_bind (wpAny_newObj_type ?_ (show (5 : Nat) ≤ sizeLine + 2 by decide))
  refine wpAny_pure ⟨_, rfl, ?_⟩
  have zT : (h1.push { cls := .type "tuple", data := .seq (itsOf hp.objs.size (e :: L).length).toArray }).objs.size = hp.objs.size + (e :: L).length + 1 := by rw [Heap.size_push, z1]
  have zO : ((h1.push { cls := .type "tuple", data := .seq (itsOf hp.objs.size (e :: L).length).toArray }).push { cls := .type "tuple", data := .seq (List.replicate (e :: L).length Value.none).toArray }).objs.size = hp.objs.size + (e :: L).length + 2 := by rw [Heap.size_push, zT]
  generalize hg1 : h1.push { cls := .type "tuple", data := .seq (itsOf hp.objs.size (e :: L).length).toArray } = g1 at zT zO
  generalize hg2 : g1.push { cls := .type "tuple", data := .seq (List.replicate (e :: L).length Value.none).toArray } = g2 at zO
  have wT : g1.get? h1.objs.size = some { cls := .type "tuple", data := .seq (itsOf hp.objs.size (e :: L).length).toArray } := by rw [← hg1]; exact Heap.get?_push_size _ rfl
  have wO : g2.get? g1.objs.size = some { cls := .type "tuple", data := .seq (List.replicate (e :: L).length Value.none).toArray } := by rw [← hg2]; exact Heap.get?_push_size _ rfl
  have c1 : ∀ c o, h1.get? c = some o → g1.get? c = some o := fun c o q => by rw [← hg1]; exact Heap.get?_push_of_some _ q
  have c2 : ∀ c o, g1.get? c = some o → g2.get? c = some o := fun c o q => by rw [← hg2]; exact Heap.get?_push_of_some _ q
  have wZ := Heap.get?_push_size g2 (o := { cls := .type "zip", data := .fields #[.none, .bool false, .bool false, .ref h1.objs.size, .ref g1.objs.size] }) rfl
  have zZ : (g2.push { cls := .type "zip", data := .fields #[.none, .bool false, .bool false, .ref h1.objs.size, .ref g1.objs.size] }).objs.size = hp.objs.size + (e :: L).length + 3 := by rw [Heap.size_push, zO]
  have c3 : ∀ c o, g2.get? c = some o → (g2.push { cls := .type "zip", data := .fields #[.none, .bool false, .bool false, .ref h1.objs.size, .ref g1.objs.size] }).get? c = some o := fun c o q => Heap.get?_push_of_some _ q
  show R (.ok (.ret (.ref g2.objs.size))) ⟨g2.push { cls := .type "zip", data := .fields #[.none, .bool false, .bool false, .ref h1.objs.size, .ref g1.objs.size] }, g, d, tk, os⟩
  generalize g2.push { cls := .type "zip", data := .fields #[.none, .bool false, .bool false, .ref h1.objs.size, .ref g1.objs.size] } = g3 at wZ zZ c3
  rw [zO]
  rw [zO, z1, zT] at wZ
  rw [z1] at wT
  rw [zT] at wO
  exact h g3 wZ (c3 _ _ (c2 _ _ wT)) (c3 _ _ wO) (fun k f hf => (i1 k f hf).keep fun o q => c3 _ _ (c2 _ _ (c1 _ _ q))) (fun c o q => c3 _ _ (c2 _ _ (c1 _ _ (k1 _ _ q)))) zZ
end
end DZ
end
section
set_option Elab.async false
set_option linter.all false
set_option maxRecDepth 100000
set_option maxHeartbeats 1000000
/-! all of a zip in a list -/
namespace DZ
open PySem
open PySem.Sem (wp)
/-- one turn's items -/
def Col (L : List Src) (i : Nat) (xs : Array Value) : Prop := xs.size = L.length ∧ ∀ (k : Nat) (e : Src), L[k]? = some e → xs[k]? = e.xs[i]? ∧ i < e.xs.size
def ZSt (z TI TO : Addr) (L : List Src) (i : Nat) (h : Heap) : Prop := IsTupL h TI (L.map Src.ref) ∧ (∀ e ∈ L, e.On i h) ∧
  ((i = 0 ∧ IsZip h z TI TO .none ∧ ∃ os : List Value, os.length = L.length ∧ IsTupL h TO os) ∨ ∃ T f xs, IsZipHeld h z TI TO T f ∧ IsTupL h T xs)
section
variable {prog : Program} {w : World} {A : Around} {E : Value → Shared → Prop} {s : Shared} {z TI TO : Addr} {L : List Src} {i : Nat}
theorem zn_step {Q : Option Value → Shared → Prop} (hh : A.handled = none) (D : ApartN z TI TO L) (hL : L ≠ []) (hn : L.length ≤ sizeLine) (st : ZSt z TI TO L i s.heap)
    (q1 : ∀ xs, Col L i xs → ∀ h', ZSt z TI TO L (i + 1) h' → IsTupL h' s.heap.objs.size xs.toList → h'.objs.size = s.heap.objs.size + 1 → (∀ c o, c ≠ z → c ≠ TO → (∀ e ∈ L, c ≠ e.it) → s.heap.get? c = some o → h'.get? c = some o) → Q (some (.ref s.heap.objs.size)) { s with heap := h' })
    (q2 : (∃ e ∈ L, e.xs[i]? = none) → ∀ h', (∀ c o, c ≠ z → c ≠ TO → (∀ e ∈ L, c ≠ e.it) → s.heap.get? c = some o → h'.get? c = some o) → Q none { s with heap := h' }) :
    wpAny (model prog w) A (pyNext (.ref z)) Q E s := by
  obtain ⟨hTI, on, st⟩ := st
  have fin : ∀ {E' : Value → Shared → Prop} (h' : Heap) (e : Addr), (∀ c o, c ≠ z → c ≠ TO → (∀ e ∈ L, c ≠ e.it) → s.heap.get? c = some o → h'.get? c = some o) → (∃ o, h'.get? e = some o ∧ o.cls = .type "StopIteration") → (∃ e ∈ L, e.xs[i]? = none) →
      wpAny (model prog w) A (isInstance (.ref e) (.type "StopIteration") >>= fun b => if b = true then pure none else throw (.ref e)) Q E' { s with heap := h' } := fun h' e k ⟨o, e1, e2⟩ hx =>
    wpAny_bind (wpAny_isInstance (T := "StopIteration") (b := true) ⟨o, e1, e2⟩ isSubtype_stop (wpAny_pure (q2 hx h' k)))
  have keepT : ∀ h' : Heap, (∀ c o, c ≠ z → c ≠ TO → (∀ e ∈ L, c ≠ e.it) → s.heap.get? c = some o → h'.get? c = some o) → IsTupL h' TI (L.map Src.ref) := fun h' k => k _ _ D.Tz D.TO' (fun e he => (D.iz e he).2.1.symm) hTI
  rcases st with ⟨h0, hz, os, hl, hO⟩ | ⟨T, f, ys, hz, hT⟩
  · have ty : s.TypeIs (.ref z) "zip" := ⟨_, hz, rfl⟩
    rw [pyNext]
    refine wpAny_bind (wpAny_attempt (wpAny_callSpecial?_slot (name := "__next__") ty F.slot_zip_next ?_))
    refine wpAny_call_entry F.slot_zip_next ty F.entry_zip_next (zn_free hh D hz hO hTI hL on hl (fun xs h1 h2 h' z1 o1 n1 t1 s1 k1 => wpAny_pure (q1 xs ⟨h1, h2⟩ h' ⟨keepT _ k1, n1, .inr ⟨_, _, _, z1, t1⟩⟩ t1 s1 k1)) hn fun hx h' e k st => ?_) (F.args_zip_next_1 _)
    exact fin h' e k st hx
  · have ty : s.TypeIs (.ref z) "zip" := ⟨_, hz, rfl⟩
    rw [pyNext]
    refine wpAny_bind (wpAny_attempt (wpAny_callSpecial?_slot (name := "__next__") ty F.slot_zip_next ?_))
    refine wpAny_call_entry F.slot_zip_next ty F.entry_zip_next (zn_held hh D hz hT hTI hL on (fun xs h1 h2 h' z1 n1 t1 s1 k1 => wpAny_pure (q1 xs ⟨h1, h2⟩ h' ⟨keepT _ fun c o c1 _ c3 e => k1 c o c1 c3 e, n1, .inr ⟨T, true, ys, z1, ?_⟩⟩ t1 s1 fun c o c1 _ c3 e => k1 c o c1 c3 e)) hn fun hx h' e k st => ?_) (F.args_zip_next_1 _)
    · refine k1 _ _ (fun e => ?_) (fun e he q => ?_) hT
      · rw [e, IsTupL, hz] at hT; simp at hT
      · have w := (on e he).1
        rw [q] at hT
        cases ht : e.t with
        | true => rw [ht] at w; obtain ⟨o, e1, e2, _⟩ := w; rw [IsTupL, e1] at hT; cases hT; simp at e2
        | false => rw [ht] at w; obtain ⟨o, e1, e2, _⟩ := w; rw [IsTupL, e1] at hT; cases hT; simp at e2
    · exact fin h' e (fun c o c1 _ c3 e => k c o c1 c3 e) st hx
end
theorem ZSt.keep {z TI TO S : Addr} {L : List Src} {i : Nat} {h h' : Heap} {acc : Array Value} {n : Nat} (st : ZSt z TI TO L i h) (hS : h.get? S = some { cls := .type "list", dict := none, data := .seq acc n, slots := #[] }) (k : ∀ c o, c ≠ S → h.get? c = some o → h'.get? c = some o)
    (d1 : S ≠ z ∧ S ≠ TI ∧ S ≠ TO) (d2 : ∀ e ∈ L, S ≠ e.it ∧ S ≠ e.l) : ZSt z TI TO L i h' := by
  obtain ⟨hTI, on, st⟩ := st
  refine ⟨k _ _ d1.2.1.symm hTI, fun e he => (on e he).keep (fun o q => k _ _ (d2 e he).1.symm q) fun o q => k _ _ (d2 e he).2.symm q, ?_⟩
  rcases st with ⟨h0, hz, os, hl, hO⟩ | ⟨T, f, ys, hz, hT⟩
  · exact .inl ⟨h0, k _ _ d1.1.symm hz, os, hl, k _ _ d1.2.2.symm hO⟩
  · refine .inr ⟨T, f, ys, k _ _ d1.1.symm hz, k _ _ (fun e => ?_) hT⟩
    rw [e, IsTupL, hS] at hT; simp at hT
/-- what a loop has gathered: tuples, each newer than the list -/
structure Got (L : List Src) (i : Nat) (acc : Array Value) (S : Addr) (h : Heap) : Prop where
  sz : acc.size = i
  at_ : ∀ j, j < i → ∃ a xs, acc[j]? = some (.ref a) ∧ S < a ∧ Col L j xs ∧ IsTupL h a xs.toList
/-- the zip's own places lie between what was there and the list -/
structure Own (z TI TO S : Addr) (L : List Src) (base : Nat) : Prop where
  z1 : base ≤ z
  o1 : base ≤ TO
  i1 : ∀ e ∈ L, base ≤ e.it
  z2 : z < S
  t2 : TI < S
  o2 : TO < S
  i2 : ∀ e ∈ L, e.it < S
  l2 : ∀ e ∈ L, e.l < S
section
variable {prog : Program} {w : World} {A : Around} {E : Value → Shared → Prop} {z TI TO S : Addr} {L : List Src}
theorem Got.keep {i : Nat} {acc : Array Value} {h h' : Heap} (g : Got L i acc S h) (k : ∀ c o, S < c → h.get? c = some o → h'.get? c = some o) : Got L i acc S h' where
  sz := g.sz
  at_ := fun j hj => by
    obtain ⟨a, xs, e1, e2, e3, e4⟩ := g.at_ j hj
    exact ⟨a, xs, e1, e2, e3, k _ _ e2 e4⟩
theorem zip_loop {R : Result → Shared → Prop} (hh : A.handled = none) (D : ApartN z TI TO L) (hL : L ≠ []) (hn : L.length ≤ sizeLine) (res : Value) (n : Nat) (hnn : n ≤ sizeLine) (hle : ∀ e ∈ L, n ≤ e.xs.size) (hex : ∃ e ∈ L, e.xs.size = n) (h0 : Heap) (O : Own z TI TO S L h0.objs.size) :
    ∀ (k i : Nat) (s : Shared) (acc : Array Value) (c : Nat), n - i = k → i ≤ n → ZSt z TI TO L i s.heap → s.heap.get? S = some { cls := .type "list", dict := none, data := .seq acc c, slots := #[] } → Got L i acc S s.heap → (∀ c o, h0.get? c = some o → s.heap.get? c = some o) →
    (∀ h' acc' c', h'.get? S = some { cls := .type "list", dict := none, data := .seq acc' c', slots := #[] } → Got L n acc' S h' → (∀ c o, h0.get? c = some o → h'.get? c = some o) → R (.ok (.ret res)) { s with heap := h' }) →
    codeAny (model prog w) A (.builtin "list.extend.loop" ⟨[.ref S, .ref z, res], []⟩) R s := by
  have old : ∀ c o, h0.get? c = some o → c ≠ z ∧ c ≠ TO ∧ (∀ e ∈ L, c ≠ e.it) := fun c o e =>
    have l := Heap.lt_size e
    ⟨Nat.ne_of_lt (Nat.lt_of_lt_of_le l O.z1), Nat.ne_of_lt (Nat.lt_of_lt_of_le l O.o1), fun e he => Nat.ne_of_lt (Nat.lt_of_lt_of_le l (O.i1 e he))⟩
  have oldS : ∀ c o, h0.get? c = some o → c ≠ S := fun c o e => Nat.ne_of_lt (Nat.lt_trans (Nat.lt_of_lt_of_le (Heap.lt_size e) O.z1) O.z2)
  have new : ∀ c, S < c → c ≠ z ∧ c ≠ TO ∧ (∀ e ∈ L, c ≠ e.it) := fun c l =>
    ⟨Nat.ne_of_gt (Nat.lt_trans O.z2 l), Nat.ne_of_gt (Nat.lt_trans O.o2 l), fun e he => Nat.ne_of_gt (Nat.lt_trans (O.i2 e he) l)⟩
  have selfS : S ≠ z ∧ S ≠ TO ∧ (∀ e ∈ L, S ≠ e.it) := ⟨Nat.ne_of_gt O.z2, Nat.ne_of_gt O.o2, fun e he => Nat.ne_of_gt (O.i2 e he)⟩
  intro k
  induction k with
  | zero =>
    intro i s acc c hk hi st hS g k0 hR
    have e : i = n := by omega
    subst e
    refine codeAny_builtin F.entry_extend_loop ?_
    rw [Around.under_plainId F.plain_extend_loop _]
    show wpAny _ A.in1 (pyNext (.ref z) >>= _) _ _ s
    refine wpAny_bind (zn_step (A := A.in1) hh D hL hn st (fun xs hc h' _ _ _ _ => ?_) fun _ h' k1 => ?_)
    · obtain ⟨e, he, hs⟩ := hex
      obtain ⟨j, hj⟩ := List.getElem?_of_mem he
      have := (hc.2 j e hj).2
      omega
    · exact wpAny_pure (hR h' acc c (k1 _ _ selfS.1 selfS.2.1 selfS.2.2 hS) (g.keep fun c o l e => k1 c o (new c l).1 (new c l).2.1 (new c l).2.2 e) fun c o e => k1 _ _ (old c o e).1 (old c o e).2.1 (old c o e).2.2 (k0 _ _ e))
  | succ k ih =>
    intro i s acc c hk hi st hS g k0 hR
    have hlt : i < n := by omega
    refine codeAny_builtin F.entry_extend_loop ?_
    rw [Around.under_plainId F.plain_extend_loop _]
    show wpAny _ A.in1 (pyNext (.ref z) >>= _) _ _ s
    refine wpAny_bind (zn_step (A := A.in1) hh D hL hn st (fun xs hc h1 st1 t1 s1 k1 => ?_) fun hx => ?_)
    · have hS1 := k1 _ _ selfS.1 selfS.2.1 selfS.2.2 hS
      have lS : S < s.heap.objs.size := Heap.lt_size hS
      show wpAny _ A.in1 (updateSeq S (·.push (.ref s.heap.objs.size)) >>= _) _ _ _
      refine wpAny_bind ?_
      refine wpAny_updateSeq hS1 rfl (wpAny_pure ⟨plainId_quiet F.plain_extend_loop _, ?_⟩) (by rw [g.sz]; omega) (by show (acc.push _).size ≤ sizeLine + 1; rw [Array.size_push, g.sz]; omega)
      have kS : ∀ c o, c ≠ S → h1.get? c = some o → (h1.update S (Obj.mapSeq (·.push (.ref s.heap.objs.size)))).get? c = some o := fun c o ne e => (Heap.get?_update_other _ _ (Ne.symm ne)).trans e
      refine ih (i + 1) _ (acc.push (.ref s.heap.objs.size)) _ (by omega) hlt (st1.keep hS1 kS ⟨selfS.1, Nat.ne_of_gt O.t2, selfS.2.1⟩ fun e he => ⟨selfS.2.2 e he, Nat.ne_of_gt (O.l2 e he)⟩) (Heap.get?_update_self _ hS1 rfl) ⟨by rw [Array.size_push, g.sz], fun j hj => ?_⟩ (fun c o e => kS _ _ (oldS c o e) (k1 _ _ (old c o e).1 (old c o e).2.1 (old c o e).2.2 (k0 _ _ e))) fun h' acc' c' => hR h' acc' c'
      by_cases hj' : j < i
      · obtain ⟨a, ys, e1, e2, e3, e4⟩ := g.at_ j hj'
        exact ⟨a, ys, by rw [Array.getElem?_push, if_neg (by rw [g.sz]; omega)]; exact e1, e2, e3, kS _ _ (Nat.ne_of_gt e2) (k1 _ _ (new a e2).1 (new a e2).2.1 (new a e2).2.2 e4)⟩
      · have e : j = i := by omega
        subst e
        exact ⟨_, xs, by rw [Array.getElem?_push, if_pos (by rw [g.sz])], lS, hc, kS _ _ (Nat.ne_of_gt lS) t1⟩
    · obtain ⟨e, he, hx⟩ := hx
      have := hle e he
      rw [Array.getElem?_eq_none_iff] at hx
      omega
end
end DZ
end
section
set_option Elab.async false
set_option linter.all false
set_option maxRecDepth 100000
set_option maxHeartbeats 1000000
/-! all of a zip in a tuple or a list -/
namespace DZ
open PySem
open PySem.Sem (wp)
theorem zip_no_len : typeLookup (.type "zip") "__len__" = pure none := by rw [typeLookup_type, builtinLookup_eq_fast]; kernel_rfl
theorem zip_no_hint : typeLookup (.type "zip") "__length_hint__" = pure none := by rw [typeLookup_type, builtinLookup_eq_fast]; kernel_rfl
section
variable {prog : Program} {w : World} {A : Around} {E : Value → Shared → Prop} {s : Shared} {z TI TO S : Addr} {L : List Src} {n : Nat}
/-- the list at S, empty, takes all of a zip that is new -/
theorem extend_zip {R : Result → Shared → Prop} (hh : A.handled = none) (D : ApartN z TI TO L) (hL : L ≠ []) (hn : L.length ≤ sizeLine) (res : Value) (hnn : n ≤ sizeLine) (hle : ∀ e ∈ L, n ≤ e.xs.size) (hex : ∃ e ∈ L, e.xs.size = n) (h0 : Heap) (O : Own z TI TO S L h0.objs.size) (c : Nat)
    (hS : s.heap.get? S = some { cls := .type "list", data := .seq #[] c }) (hz : IsZip s.heap z TI TO .none) (st : ZSt z TI TO L 0 s.heap) (k0 : ∀ c o, h0.get? c = some o → s.heap.get? c = some o)
    (hR : ∀ h' acc' c', h'.get? S = some { cls := .type "list", data := .seq acc' c' } → Got L n acc' S h' → (∀ c o, h0.get? c = some o → h'.get? c = some o) → R (.ok (.ret res)) { s with heap := h' }) :
    wpAny (model prog w) A.in1 (Builtin.List.listExtendWith (.ref S) (.ref z) res) (fun fin s' => match fin with | .done f => R (.ok f) s' | .again c' => c'.quiet = true ∧ codeAny (model prog w) A c' R s') (fun e s' => R (.error e) s') s := by
  have zS : S ≠ z := Nat.ne_of_gt O.z2
  have ty : s.TypeIs (.ref z) "zip" := ⟨_, hz, rfl⟩
  unfold Builtin.List.listExtendWith
  refine wpAny_bind (wpAny_typeOf ty ?_)
  have h1 : Builtin.List.listSameRef (.ref S) (.ref z) = false := by simp [Builtin.List.listSameRef, zS]
  have h2 : (Value.type "zip" == Value.type "list") = false := by decide
  have h3 : (Value.type "zip" == Value.type "tuple") = false := by decide
  simp only [h1, h2, h3, Bool.or_false, Bool.false_eq_true, if_false]
  refine wpAny_bind (wpAny_pyIter_zip hz ?_)
  refine wpAny_bind (wpAny_holding ?_)
  unfold Builtin.List.listLengthHint
  refine wpAny_bind (wpAny_specialOf ty zip_no_len ?_)
  show wpAny _ A.in1 (specialOf (Value.ref z) (Str.ofString "__length_hint__") >>= _) _ _ _
  refine wpAny_bind (wpAny_specialOf ty zip_no_hint ?_)
  refine wpAny_pure ?_
  show wpAny _ A.in1 (rule "list.extend.makes-room" >>= fun _ => Builtin.List.listTouch (.ref S) >>= fun _ => again (.builtin "list.extend.loop" ⟨[.ref S, .ref z, res], []⟩)) _ _ _
  refine wpAny_bind (wpAny_rule ?_)
  refine wpAny_bind ?_
  show wpAny _ A.in1 (updateSeq S (·.push .none) >>= fun _ => updateSeq S (·.pop)) _ _ _
  refine wpAny_bind (wpAny_updateSeq hS rfl ?_)
  have hS2 := Heap.get?_update_self (Obj.mapSeq (·.push Value.none)) hS rfl
  refine wpAny_updateSeq (hz := by seq_fits) hS2 rfl ?_
  have hS3 := Heap.get?_update_self (Obj.mapSeq (·.pop)) hS2 rfl
  have kS : ∀ c o, c ≠ S → s.heap.get? c = some o → ((s.heap.update S (Obj.mapSeq (·.push Value.none))).update S (Obj.mapSeq (·.pop))).get? c = some o := fun c o ne e => (Heap.get?_update_other _ _ (Ne.symm ne)).trans ((Heap.get?_update_other _ _ (Ne.symm ne)).trans e)
  have old : ∀ c o, h0.get? c = some o → c ≠ S := fun c o e => Nat.ne_of_lt (Nat.lt_trans (Nat.lt_of_lt_of_le (Heap.lt_size e) O.z1) O.z2)
  refine wpAny_pure ⟨plainId_quiet F.plain_extend_loop _, ?_⟩
  exact zip_loop (A := A) hh D hL hn res n hnn hle hex h0 O n 0 { s with heap := _ } #[] _ (by omega) (Nat.zero_le _) (st.keep hS kS ⟨zS, Nat.ne_of_gt O.t2, Nat.ne_of_gt O.o2⟩ fun e he => ⟨Nat.ne_of_gt (O.i2 e he), Nat.ne_of_gt (O.l2 e he)⟩) hS3 ⟨rfl, fun j hj => by omega⟩ (fun c o e => kS c o (old c o e) (k0 c o e)) fun h' acc' c' => hR h' acc' c'
/-- where a zip has just been made at the top of the heap -/
structure New (z TI TO : Addr) (L : List Src) (h0 h : Heap) : Prop where
  d : ApartN z TI TO L
  ne : L ≠ []
  hn : L.length ≤ sizeLine
  hz : IsZip h z TI TO .none
  st : ZSt z TI TO L 0 h
  k0 : ∀ c o, h0.get? c = some o → h.get? c = some o
  z1 : h0.objs.size ≤ z
  o1 : h0.objs.size ≤ TO
  i1 : ∀ e ∈ L, h0.objs.size ≤ e.it
  le : h0.objs.size ≤ h.objs.size
theorem New.own {h0 h : Heap} (N : New z TI TO L h0 h) : Own z TI TO h.objs.size L h0.objs.size where
  z1 := N.z1
  o1 := N.o1
  i1 := N.i1
  z2 := Heap.lt_size N.hz
  t2 := Heap.lt_size N.st.1
  o2 := by
    rcases N.st.2.2 with ⟨_, _, os, _, hO⟩ | ⟨T, f, xs, hz, hT⟩
    · exact Heap.lt_size hO
    · have := N.hz; rw [IsZip, hz] at this; simp [rawInt] at this
  i2 := fun e he => ((N.st.2.1 e he).1).lt
  l2 := fun e he => by
    have w := (N.st.2.1 e he).2
    cases ht : e.t with
    | true => rw [ht] at w; obtain ⟨o, e1, _⟩ := w; exact Heap.lt_size e1
    | false => rw [ht] at w; obtain ⟨o, e1, _⟩ := w; exact Heap.lt_size e1
theorem New.push {h0 h : Heap} (N : New z TI TO L h0 h) (o : Obj) : New z TI TO L h0 (h.push o) := by
  have k : ∀ {c o'}, h.get? c = some o' → (h.push o).get? c = some o' := fun e => Heap.get?_push_of_some _ e
  refine ⟨N.d, N.ne, N.hn, k N.hz, ⟨k N.st.1, fun e he => (N.st.2.1 e he).keep (fun _ q => k q) fun _ q => k q, ?_⟩, fun c o e => k (N.k0 c o e), N.z1, N.o1, N.i1, by rw [Heap.size_push]; exact Nat.le_succ_of_le N.le⟩
  rcases N.st.2.2 with ⟨h0, hz, os, hl, hO⟩ | ⟨T, f, xs, hz, hT⟩
  · exact .inl ⟨h0, k hz, os, hl, k hO⟩
  · exact .inr ⟨T, f, xs, k hz, k hT⟩
theorem collect_zip {Q : List Value → Shared → Prop} {h0 : Heap} (hh : A.handled = none) (N : New z TI TO L h0 s.heap) (hnn : n ≤ sizeLine) (hle : ∀ e ∈ L, n ≤ e.xs.size) (hex : ∃ e ∈ L, e.xs.size = n)
    (hQ : ∀ h' acc, Got L n acc s.heap.objs.size h' → (∀ c o, h0.get? c = some o → h'.get? c = some o) → @LT.lt Nat instLTNat s.heap.objs.size h'.objs.size → Q acc.toList { s with heap := h' }) : wpAny (model prog w) A (collect (.ref z)) Q E s := by
  unfold collect
  refine wpAny_bind (wpAny_runValue (codeAny_builtin F.entry_proto_collect ?_))
  rw [Around.under_plainId F.plain_proto_collect _]
  show wpAny _ A.in1 (newList [] >>= fun l' => again (.builtin "list.__iadd__" ⟨[l', .ref z], []⟩)) _ _ s
  refine wpAny_bind (wpAny_newObj_type ?_)
  refine wpAny_pure ⟨plainId_quiet F.plain_list_iadd _, codeAny_builtin F.entry_list_iadd ?_⟩
  rw [Around.under_plainId F.plain_list_iadd _]
  have N1 := N.push { cls := .type "list", data := .seq ([] : List Value).toArray }
  have hS : (s.heap.push { cls := .type "list", data := .seq ([] : List Value).toArray }).get? s.heap.objs.size = some { cls := .type "list", data := .seq #[] } := Heap.get?_push_size _ rfl
  show wpAny _ A.in1 (Builtin.List.listExtendWith (.ref s.heap.objs.size) (.ref z) (.ref s.heap.objs.size)) _ _ _
  refine extend_zip (A := A) (R := fun r s' => match r with | .ok (.ret v) => wpAny (model prog w) A (match v with | .ref a => (do match (← load a).data with | .seq xs _ => pure xs.toList | _ => unsupported "internal:collect") | _ => unsupported "internal:collect") Q E s' | .ok _ => False | .error e => E e s') (s := { s with heap := s.heap.push { cls := .type "list", data := .seq ([] : List Value).toArray } }) hh N.d N.ne N.hn _ hnn hle hex h0 N.own 0 hS N1.hz N1.st N1.k0 fun h' acc' c' hS' g k => ?_
  show wpAny _ A (load s.heap.objs.size >>= _) _ _ _
  refine wpAny_bind (wpAny_load (s := { s with heap := h' }) hS' ?_)
  exact wpAny_pure (hQ h' acc' g k (Heap.lt_size hS'))
theorem code_tuple_new_zip {Q₁ : Value → Shared → Prop} {h0 : Heap} (hh : A.handled = none) (N : New z TI TO L h0 s.heap) (hnn : n ≤ sizeLine) (hle : ∀ e ∈ L, n ≤ e.xs.size) (hex : ∃ e ∈ L, e.xs.size = n)
    (h : ∀ (h' : Heap) (acc : Array Value), Got L n acc s.heap.objs.size h' → (∀ c o, h0.get? c = some o → h'.get? c = some o) → @LT.lt Nat instLTNat s.heap.objs.size h'.objs.size → Q₁ (.ref h'.objs.size) { s with heap := h'.push { cls := .type "tuple", data := .seq acc } }) :
    codeAny (model prog w) A (.call (.builtin "tuple.__new__") ⟨[.type "tuple", .ref z], []⟩) (wants Q₁ E) s := by
  refine codeAny_of_tree ?_
  show wpAny _ A.in1 (do checkBuiltinCall "tuple.__new__" ⟨[.type "tuple", .ref z], []⟩; again (.builtin "tuple.__new__" ⟨[.type "tuple", .ref z], []⟩)) _ _ s
  refine wpAny_bind (wpAny_of_eq (F.newCall_tuple_1 _) (wpAny_pure ⟨plainId_quiet F.plain_tuple_new _, codeAny_builtin F.entry_tuple_new ?_⟩))
  rw [Around.under_plainId F.plain_tuple_new _]
  have hsub := sub_tuple_self
  have hinit := init_tuple_lookup
  have hmh := madeHere_tuple
  have hTI : s.TypeIs (.ref z) "zip" := ⟨_, N.hz, rfl⟩
  have hh1 : A.in1.handled = none := hh
  wp_walk using wpAny_typeOf hTI, collect_zip (A := A.in1) hh1 N hnn hle hex
  intro h' acc hacc hk hlt
  show wpAny _ _ (Builtin.Tuple.tupleExact acc.toList.toArray >>= fun v => ret v) _ _ _
  unfold Builtin.Tuple.tupleExact
  refine wpAny_bind (wpAny_newObj_type ?_ (by show acc.toList.toArray.size ≤ sizeLine; simp only [Array.toArray_toList]; rw [hacc.sz]; exact hnn))
  refine wpAny_pure ?_
  have e : acc.toList.toArray = acc := by simp
  rw [e]
  exact h h' acc hacc hk hlt
theorem call_tuple_zip {Q : Value → Shared → Prop} {h0 : Heap} (hh : A.handled = none) (N : New z TI TO L h0 s.heap) (hnn : n ≤ sizeLine) (hle : ∀ e ∈ L, n ≤ e.xs.size) (hex : ∃ e ∈ L, e.xs.size = n)
    (hQ : ∀ (h' : Heap) (acc : Array Value), Got L n acc s.heap.objs.size h' → (∀ c o, h0.get? c = some o → h'.get? c = some o) → @LT.lt Nat instLTNat s.heap.objs.size h'.objs.size → Q (.ref h'.objs.size) { s with heap := h'.push { cls := .type "tuple", data := .seq acc } }) :
    wpAny (model prog w) A (call (.type "tuple") [.ref z]) Q E s := by
  refine callType_codes (Q₁ := fun obj s₁ => s₁.TypeIs obj "tuple" ∧ Q obj s₁) F.called_tuple (F.typeCall_tuple_1 _) F.entry_object_init
    (code_tuple_new_zip (A := A.in1) hh N hnn hle hex fun h' acc hacc hk hlt => ⟨⟨_, Heap.get?_push_size _ rfl, rfl⟩, hQ h' acc hacc hk hlt⟩) fun obj s₁ h₁ => ?_
  exact ⟨h₁.1, F.args_object_init_2 obj _, object_init_meets F.called_tuple.init.lookup F.called_tuple.made (by decide) prog w A.in1 _ s₁ ⟨h₁.1, rfl, h₁.2⟩⟩
/-- list(zip(..)) -/
theorem call_list_zip {Q : Value → Shared → Prop} {h0 : Heap} (hh : A.handled = none) (N : New z TI TO L h0 s.heap) (hnn : n ≤ sizeLine) (hle : ∀ e ∈ L, n ≤ e.xs.size) (hex : ∃ e ∈ L, e.xs.size = n)
    (hQ : ∀ (h' : Heap) (acc : Array Value) (c : Nat), Got L n acc s.heap.objs.size h' → (∀ c o, h0.get? c = some o → h'.get? c = some o) → h'.get? s.heap.objs.size = some { cls := .type "list", data := .seq acc c } → Q (.ref s.heap.objs.size) { s with heap := h' }) :
    wpAny (model prog w) A (call (.type "list") [.ref z]) Q E s := by
  refine callType_codes (Q₁ := fun obj s₁ => obj = .ref s.heap.objs.size ∧ s₁ = { s with heap := s.heap.push { cls := .type "list", data := .seq #[] } }) F.called_list (F.typeCall_list_1 _) F.entry_list_init
    (PySem.code_list_new _ ⟨rfl, rfl⟩) fun obj s₁ h₁ => ?_
  obtain ⟨rfl, rfl⟩ := h₁
  have hS : (s.heap.push { cls := .type "list", data := .seq #[] }).get? s.heap.objs.size = some { cls := .type "list", data := .seq #[] } := Heap.get?_push_size _ rfl
  refine ⟨⟨_, hS, rfl⟩, F.args_list_init_2 _ _, ?_⟩
  show wpAny _ A.in1.in1 (do let old ← Builtin.List.listItems (.ref s.heap.objs.size); Builtin.List.listUpdate (.ref s.heap.objs.size) (fun _ => #[]); letGo old.toList.reverse; Builtin.List.listExtendWith (.ref s.heap.objs.size) (.ref z) .none) _ _ _
  refine wpAny_bind ?_
  unfold Builtin.List.listItems
  refine wpAny_bind (wpAny_seqItems hS rfl (wpAny_pure ?_))
  show wpAny _ A.in1.in1 (updateSeq s.heap.objs.size (fun _ => #[]) >>= fun _ => letGo (#[] : Array Value).toList.reverse >>= fun _ => Builtin.List.listExtendWith (.ref s.heap.objs.size) (.ref z) .none) _ _ _
  refine wpAny_bind (wpAny_updateSeq hS rfl ?_)
  have hS2 := Heap.get?_update_self (Obj.mapSeq (fun _ => (#[] : Array Value))) hS rfl
  refine wpAny_bind (wpAny_letGo ?_)
  have N1 := N.push { cls := .type "list", data := .seq #[] }
  have kS : ∀ c o, c ≠ s.heap.objs.size → (s.heap.push { cls := .type "list", data := .seq #[] }).get? c = some o → ((s.heap.push { cls := .type "list", data := .seq #[] }).update s.heap.objs.size (Obj.mapSeq (fun _ => (#[] : Array Value)))).get? c = some o := fun c o ne e => (Heap.get?_update_other _ _ (Ne.symm ne)).trans e
  have O := N.own
  have old : ∀ c o, h0.get? c = some o → c ≠ s.heap.objs.size := fun c o e => Nat.ne_of_lt (Nat.lt_of_lt_of_le (Heap.lt_size e) N.le)
  refine extend_zip (A := A.in1) (s := { s with heap := _ }) hh N.d N.ne N.hn _ hnn hle hex h0 O _ hS2 (kS _ _ (Nat.ne_of_lt O.z2) N1.hz) (N1.st.keep hS kS ⟨Nat.ne_of_gt O.z2, Nat.ne_of_gt O.t2, Nat.ne_of_gt O.o2⟩ fun e he => ⟨Nat.ne_of_gt (O.i2 e he), Nat.ne_of_gt (O.l2 e he)⟩) (fun c o e => kS c o (old c o e) (N1.k0 c o e)) fun h' acc' c' hS' g k => ?_
  exact ⟨rfl, hQ h' acc' c' g k hS'⟩
end
end DZ
end
section
set_option Elab.async false
set_option linter.all false
set_option maxRecDepth 100000
set_option maxHeartbeats 1000000
/-! tuple(zip( *rows)) and list(zip( *rows)) -/
namespace DZ
open PySem
open PySem.Sem (wp)
/-- the sources of a zip made at the top of a heap of this size -/
def srcs (base : Nat) : Nat → List Sq → List Src
  | _, [] => []
  | k, e :: L => ⟨e.1, base + k, e.2.1, e.2.2⟩ :: srcs base (k + 1) L
theorem srcs_len {base : Nat} : ∀ {k : Nat} {L : List Sq}, (srcs base k L).length = L.length
  | _, [] => rfl
  | k, e :: L => by rw [srcs, List.length_cons, List.length_cons, srcs_len]
theorem srcs_get {base : Nat} : ∀ {k j : Nat} {L : List Sq} {f : Src}, (srcs base k L)[j]? = some f → ∃ e, L[j]? = some e ∧ f = ⟨e.1, base + (k + j), e.2.1, e.2.2⟩
  | _, _, [], _, h => by simp [srcs] at h
  | k, 0, e :: L, f, h => by simp [srcs] at h; exact ⟨e, rfl, h.symm⟩
  | k, j + 1, e :: L, f, h => by
    obtain ⟨e', a, b⟩ := srcs_get (k := k + 1) (j := j) (L := L) (f := f) (by simpa [srcs] using h)
    exact ⟨e', by simpa using a, by rw [b, show k + 1 + j = k + (j + 1) by omega]⟩
theorem srcs_of {base : Nat} : ∀ {k j : Nat} {L : List Sq} {e : Sq}, L[j]? = some e → (srcs base k L)[j]? = some ⟨e.1, base + (k + j), e.2.1, e.2.2⟩
  | _, _, [], _, h => by simp at h
  | k, 0, e :: L, f, h => by simp at h; subst h; simp [srcs]
  | k, j + 1, e :: L, f, h => by
    have := srcs_of (base := base) (k := k + 1) (j := j) (L := L) (e := f) (by simpa using h)
    rw [srcs, List.getElem?_cons_succ, this, show k + 1 + j = k + (j + 1) by omega]
theorem srcs_refs {base : Nat} : ∀ {k : Nat} {L : List Sq}, (srcs base k L).map Src.ref = (List.range L.length).map fun j => Value.ref (base + (k + j))
  | _, [] => rfl
  | k, e :: L => by
    rw [srcs, List.map_cons, srcs_refs, List.length_cons, List.range_succ_eq_map, List.map_cons, List.map_map]
    congr 1
    apply List.map_congr_left
    intro j _
    show Value.ref _ = Value.ref _
    rw [show k + 1 + j = k + (j + 1) by omega]
theorem srcs_mem {base k : Nat} {L : List Sq} {f : Src} (h : f ∈ srcs base k L) : ∃ j e, L[j]? = some e ∧ f = ⟨e.1, base + (k + j), e.2.1, e.2.2⟩ := by
  obtain ⟨j, hj⟩ := List.getElem?_of_mem h
  obtain ⟨e, a, b⟩ := srcs_get hj
  exact ⟨j, e, a, b⟩
theorem ane {a b : Nat} (h : a < b ∨ b < a) : ¬ (a : Addr) = (b : Addr) := fun e => by
  have e' : (a : Nat) = b := e
  omega
theorem srcs_nd {base : Nat} : ∀ {k : Nat} {L : List Sq}, ((srcs base k L).map (·.it)).Nodup
  | _, [] => List.nodup_nil
  | k, e :: L => by
    rw [srcs, List.map_cons, List.nodup_cons]
    refine ⟨fun h => ?_, srcs_nd⟩
    obtain ⟨f, hf, q⟩ := List.mem_map.mp h
    obtain ⟨j, e', _, e2⟩ := srcs_mem hf
    subst e2
    exact ane (a := base + (k + 1 + j)) (b := base + k) (.inr (by omega)) q
theorem new_zip {L : List Sq} {h0 h : Heap} {z : Addr} (hne : L ≠ []) (hl : L.length ≤ sizeLine) (on : ∀ f ∈ L, SS f.1 h0 f.2.1 f.2.2) (hz' : z = h0.objs.size + L.length + 2) (hz : IsZip h z (h0.objs.size + L.length) (h0.objs.size + L.length + 1) .none)
    (hT : IsTupL h (h0.objs.size + L.length) (itsOf h0.objs.size L.length)) (hO : IsTupL h (h0.objs.size + L.length + 1) (List.replicate L.length .none)) (hs : ∀ (k : Nat) (f : Sq), L[k]? = some f → SI f.1 h (h0.objs.size + k) f.2.1 0) (hk : ∀ c o, h0.get? c = some o → h.get? c = some o) (sz : h.objs.size = h0.objs.size + L.length + 3) :
    New z (h0.objs.size + L.length) (h0.objs.size + L.length + 1) (srcs h0.objs.size 0 L) h0 h := by
  have lt : ∀ f ∈ L, f.2.1 < h0.objs.size := fun f hf => by
    have w := on f hf
    obtain ⟨t, l, xs⟩ := f
    cases t <;> obtain ⟨o, e1, _⟩ := w <;> exact Heap.lt_size e1
  have at_ : ∀ f ∈ srcs h0.objs.size 0 L, ∃ j e, L[j]? = some e ∧ j < L.length ∧ e ∈ L ∧ f.it = h0.objs.size + j ∧ f.l = e.2.1 ∧ f.t = e.1 ∧ f.xs = e.2.2 := fun f hf => by
    obtain ⟨j, e, a, b⟩ := srcs_mem hf
    refine ⟨j, e, a, (List.getElem?_eq_some_iff.mp a).1, List.mem_of_getElem? a, ?_, ?_, ?_, ?_⟩ <;> rw [b]
    show h0.objs.size + (0 + j) = _
    rw [Nat.zero_add]
  refine ⟨⟨srcs_nd, fun e he f hf => ?_, fun e he => ?_, fun e he => ?_, by rw [hz']; exact ane (.inl (by omega)), by rw [hz']; exact ane (.inl (by omega)), ane (.inl (by omega))⟩, fun q => ?_, by rw [srcs_len]; exact hl, hz, ⟨?_, fun f hf => ?_, .inl ⟨rfl, hz, _, ?_, hO⟩⟩, hk, by rw [hz']; exact Nat.le_trans (Nat.le_add_right _ _) (Nat.le_add_right _ _), Nat.le_trans (Nat.le_add_right _ _) (Nat.le_add_right _ _), fun e he => ?_, by omega⟩
  · obtain ⟨j, e', _, _, m, _, q, _⟩ := at_ e he
    obtain ⟨j2, f', _, _, _, q2, _⟩ := at_ f hf
    have : @LT.lt Nat instLTNat e'.2.1 h0.objs.size := lt e' m
    rw [q, q2]; exact ane (.inl (by omega))
  · obtain ⟨j, e', _, l, m, q, _⟩ := at_ e he
    rw [q, hz']; exact ⟨ane (.inl (by omega)), ane (.inl (by omega)), ane (.inl (by omega))⟩
  · obtain ⟨j, e', _, _, m, _, q, _⟩ := at_ e he
    have : @LT.lt Nat instLTNat e'.2.1 h0.objs.size := lt e' m
    rw [q, hz']; exact ⟨ane (.inl (by omega)), ane (.inl (by omega))⟩
  · have := congrArg List.length q
    rw [srcs_len] at this
    exact hne (List.length_eq_zero_iff.mp this)
  · rw [srcs_refs]
    simp only [Nat.zero_add]
    exact hT
  · obtain ⟨j, e', a, _, m, q1, q2, q3, q4⟩ := at_ f hf
    refine ⟨?_, ?_⟩
    · rw [q1, q2, q3]; exact hs j e' a
    · rw [q2, q3, q4]; exact (on e' m).keep fun o q => hk _ _ q
  · rw [srcs_len, List.length_replicate]
  · obtain ⟨j, e', _, l, m, q, _⟩ := at_ e he
    rw [q]; exact Nat.le_add_right _ _
end DZ
namespace DL
open PySem PySem.Spec PyProof.Rows L2 RZ DZ
theorem callWith_starT {M : Model} {A : Around} {E : Value → Shared → Prop} {s : Shared} {env : PySem.Env} {pos p : Pos} {T : String} {e : Expr} {Q : Value → Shared → Prop}
    (h : wpAny M A (eval e env) (fun v s₁ => PySem.W.StarOf M A E v (fun vs s₂ => wpAny M A (call (.type T) vs) Q E s₂) s₁) E s) (he : starEach [.Starred e p] env = [(true, eval e env)] := by rfl) :
    wpAny M A (callWith pos (.type T) [] (backTo pos (starEach [.Starred e p] env)) []) Q E s := by
  rw [he]
  refine PySem.W.ks_call (P := fun _ => True) rfl (fun _ _ => ⟨.machine, .inr (.inl rfl), PySem.W.Looks.now⟩) (PySem.W.ks_lone (wpAny_mono h (fun v s1 h1 => ?_) fun _ _ q => q))
  unfold PySem.W.StarOf at h1 ⊢
  exact wpAny_mono h1 (fun b s2 ⟨hb, h2⟩ => ⟨hb, wpAny_mono h2 (fun vs s3 h3 => ⟨trivial, h3⟩) fun _ _ q => q⟩) fun _ _ q => q
/-- what each value of a list of sequences holds -/
inductive Rows (K : PySem.W.Frag) (H : Hp) : List V → List (List V) → Prop
  | nil : Rows K H [] []
  | cons {l : Addr} {t : Bool} {r : List V} {vs : List V} {rs : List (List V)} (h : SqX t K H l r) (q : Rows K H vs rs) : Rows K H (.ref l :: vs) (r :: rs)
theorem Rows.len {K : PySem.W.Frag} {H : Hp} {vs : List V} {rs : List (List V)} (h : Rows K H vs rs) : vs.length = rs.length := by
  induction h with
  | nil => rfl
  | cons _ _ ih => rw [List.length_cons, List.length_cons, ih]
/-- .. as they stand in the heap -/
structure SqAt (h : Heap) (L : List Sq) (us : List Value) (rs : List (List V)) : Prop where
  refs : us = L.map Sq.ref
  on : ∀ f ∈ L, SS f.1 h f.2.1 f.2.2
  len : L.length = rs.length
  vals : ∀ (k : Nat) (f : Sq) (r : List V), L[k]? = some f → rs[k]? = some r → Vals r f.2.2.toList
theorem Rows.at {X : Cx} {pins : List (Addr × Obj)} {σ : L2.St} {H : Hp} {s : Shared} (I : L2.Inv X pins σ H s) {vs : List V} {rs : List (List V)} (h : Rows X.K H vs rs) : ∀ {us : List Value}, Vals vs us → ∃ L, SqAt s.heap L us rs := by
  induction h with
  | nil => intro us r; cases r; exact ⟨[], rfl, fun f hf => by simp at hf, rfl, fun k f r e => by simp at e⟩
  | @cons l t r vs rs hq q ih =>
    intro us rv
    cases rv with
    | cons ra rr =>
      cases ra
      obtain ⟨L, a1, a2, a3, a4⟩ := ih rr
      obtain ⟨its, r1, v1, _⟩ := hq.at I
      refine ⟨(t, l, its.toArray) :: L, by rw [a1]; rfl, fun f hf => ?_, by rw [List.length_cons, List.length_cons, a3], fun k f r' e1 e2 => ?_⟩
      · rcases List.mem_cons.mp hf with rfl | hf
        · exact v1
        · exact a2 f hf
      · cases k with
        | zero => simp at e1 e2; subst e1; subst e2; simpa using r1
        | succ k => exact a4 k f r' (by simpa using e1) (by simpa using e2)
end DL
end
section
set_option Elab.async false
set_option linter.all false
set_option maxRecDepth 100000
set_option maxHeartbeats 1000000
/-! tuple(zip( *rows)), list(zip( *rows)) as rules -/
namespace DL
open PySem PySem.Spec PyProof.Rows L2 RZ DZ
def Grown (H H' : Hp) : Prop := ∀ a o, H a = some o → H' a = some o
def colV (rs : List (List V)) (j : Nat) : List V := rs.map fun r => r.getD j .non
/-- all columns stand at these places -/
def Cols (H' : Hp) (rs : List (List V)) (n : Nat) (bs : List Addr) : Prop := bs.length = n ∧ ∀ (j : Nat) b, bs[j]? = some b → H' b = some (.tup (colV rs j))
section
variable {X : Cx} {pins : List (Addr × Obj)} {σ : L2.St} {H : Hp} {s : Shared}
/-- objects that are new become known -/
theorem Inv.grow {t' : Nat} {h' : Heap} {H' : Hp} (I : L2.Inv X pins σ H s) (k : ∀ b u, s.heap.get? b = some u → h'.get? b = some u) (g : Grown H H') (nw : ∀ b, b < s.heap.objs.size → H' b = H b) (ok : ∀ b o, H' b = some o → H b = some o ∨ ObjOk X.prog X.w H' h' b o) : L2.Inv X pins σ H' { s with heap := h', toks := t' } := by
  refine I.un ⟨fun b o q _ _ _ => k b o q, fun b o q _ _ _ => ⟨o.slots, k b o q⟩, fun b o q n _ => by rw [nw b (Heap.lt_size q)]; exact n, fun b o q _ => ⟨o, k b o q⟩, fun b xs q => g b _ q, fun b u xs q => g b _ q, fun b ps q => ⟨#[], by rw [g b _ q]; simp⟩⟩ fun b o q => ?_
  rcases ok b o q with z | z
  · exact (I.hok b o z).stay (fun c v _ q => k c v q) (fun c q => g c _ q) fun c xs q => g c _ q
  · exact z
theorem vals_get {vs : List V} {us : List Value} (h : Vals vs us) : ∀ {j : Nat} {u : Value}, us[j]? = some u → ∃ v, vs[j]? = some v ∧ RelV v u := by
  induction h with
  | nil => intro j u e; simp at e
  | cons r rr ih =>
    intro j u e
    cases j with
    | zero => simp at e; subst e; exact ⟨_, rfl, r⟩
    | succ j => exact ih (by simpa using e)
theorem vals_of : ∀ {vs : List V} {us : List Value}, vs.length = us.length → (∀ (k : Nat) v u, vs[k]? = some v → us[k]? = some u → RelV v u) → Vals vs us
  | [], [], _, _ => .nil
  | v :: vs, u :: us, e, h => .cons (h 0 v u rfl rfl) (vals_of (by simpa using e) fun k v' u' a b => h (k + 1) v' u' (by simpa using a) (by simpa using b))
theorem col_vals {rs : List (List V)} {L : List Sq} {us : List Value} {h : Heap} {base j : Nat} {xs : Array Value} (S : SqAt h L us rs) (hc : Col (srcs base 0 L) j xs) : Vals (colV rs j) xs.toList := by
  refine vals_of ?_ fun k v u a b => ?_
  · have := hc.1
    rw [srcs_len] at this
    show (colV rs j).length = _
    rw [colV, List.length_map, ← S.len, ← this]; simp
  · rw [colV, List.getElem?_map] at a
    obtain ⟨r, hr, e⟩ := Option.map_eq_some_iff.mp a
    subst e
    have hk : k < L.length := by rw [S.len]; exact (List.getElem?_eq_some_iff.mp hr).1
    obtain ⟨f, hf⟩ : ∃ f, L[k]? = some f := ⟨_, List.getElem?_eq_getElem hk⟩
    have w := hc.2 k _ (srcs_of (base := base) (k := 0) hf)
    dsimp only at w
    have vv := S.vals k f r hf hr
    rw [Array.getElem?_toList, w.1, ← Array.getElem?_toList] at b
    obtain ⟨v, hv, rl⟩ := vals_get vv b
    rw [List.getD_eq_getElem?_getD, hv]
    exact rl
/-- where the gathered tuples stand -/
theorem got_cols {rs : List (List V)} {L : List Sq} {us : List Value} {h h' : Heap} {base n S : Nat} {acc : Array Value} (Z : SqAt h L us rs) (g : Got (srcs base 0 L) n acc S h') : ∃ bs : List Addr, bs.length = n ∧ acc.toList = bs.map Value.ref ∧ ∀ (j : Nat) b, bs[j]? = some b → @LT.lt Nat instLTNat S b ∧ ∃ its : List Value, Vals (colV rs j) its ∧ IsTup h' b its.toArray := by
  have key : ∀ m, m ≤ n → ∃ bs : List Addr, bs.length = m ∧ acc.toList.take m = bs.map Value.ref ∧ ∀ (j : Nat) b, bs[j]? = some b → @LT.lt Nat instLTNat S b ∧ ∃ its : List Value, Vals (colV rs j) its ∧ IsTup h' b its.toArray := by
    intro m
    induction m with
    | zero => exact fun _ => ⟨[], rfl, by simp, fun j b e => by simp at e⟩
    | succ m ih =>
      intro hm
      obtain ⟨bs, e1, e2, e3⟩ := ih (by omega)
      obtain ⟨a, xs, q1, q2, q3, q4⟩ := g.at_ m (by omega)
      refine ⟨bs ++ [a], by rw [List.length_append, e1]; rfl, ?_, fun j b e => ?_⟩
      · rw [List.take_succ, e2, Array.getElem?_toList, q1, List.map_append]; rfl
      · by_cases hj : j < bs.length
        · rw [List.getElem?_append_left hj] at e
          exact e3 j b e
        · rw [List.getElem?_append_right (by omega)] at e
          have : j - bs.length = 0 := by
            have := (List.getElem?_eq_some_iff.mp e).1
            simp at this; omega
          rw [this] at e
          simp only [List.getElem?_cons_zero, Option.some.injEq] at e
          subst e
          rw [show j = m by omega]
          exact ⟨q2, xs.toList, col_vals Z q3, ⟨_, q4, rfl, _, rfl⟩⟩
  obtain ⟨bs, e1, e2, e3⟩ := key n (Nat.le_refl _)
  exact ⟨bs, e1, by rw [← e2, List.take_of_length_le]; rw [Array.length_toList, g.sz]; exact Nat.le_refl _, e3⟩
end
def kZip (K : PySem.W.Frag) (mk : List V → HO) : V → Hp → VK → Prop := fun y H Q => ∃ (a : Addr) (vs : List V) (rs : List (List V)) (n : Nat), y = .ref a ∧ (SqT K H a vs ∨ SqL K H a vs) ∧ vs ≠ [] ∧ Rows K H vs rs ∧ n ≤ sizeLine ∧ (∀ r ∈ rs, n ≤ r.length) ∧ (∃ r ∈ rs, r.length = n) ∧
  ∀ H' bs q, Grown H H' → Cols H' rs n bs → (∀ b ∈ bs, H b = none) → H q = none → H' q = some (mk (bs.map V.ref)) → Q (.ref q) H'
section
variable {X : Cx} {pins : List (Addr × Obj)} {σ : L2.St} {H : Hp} {s : Shared}
open Classical in
/-- the columns and what holds them become known -/
noncomputable def growH (H : Hp) (rs : List (List V)) (bs : List Addr) (q : Addr) (o : HO) : Hp := fun a => match H a with
  | some u => some u
  | none => if h : ∃ j, bs[j]? = some a then some (.tup (colV rs (Classical.choose h))) else if a = q then some o else none
theorem grow_cols {rs : List (List V)} {bs : List Addr} {q : Addr} {o : HO} {n : Nat} {h' : Heap} {t' : Nat} (I : L2.Inv X pins σ H s) (k : ∀ b u, s.heap.get? b = some u → h'.get? b = some u) (hl : bs.length = n) (hrs : rs.length ≤ sizeLine)
    (hb : ∀ (j : Nat) b, bs[j]? = some b → @LE.le Nat instLENat s.heap.objs.size b ∧ ∃ its : List Value, Vals (colV rs j) its ∧ IsTup h' b its.toArray) (hq : @LE.le Nat instLENat s.heap.objs.size q) (hqb : ∀ (j : Nat) b, bs[j]? = some b → b ≠ q) (ok : ∀ H', ObjOk X.prog X.w H' h' q o) :
    L2.Inv X pins σ (growH H rs bs q o) { s with heap := h', toks := t' } ∧ Grown H (growH H rs bs q o) ∧ Cols (growH H rs bs q o) rs n bs ∧ growH H rs bs q o q = some o := by
  have fr : ∀ (j : Nat) b, bs[j]? = some b → H b = none := fun j b e => I.hok.fresh (hb j b e).1
  have one : ∀ (j j' : Nat) b, bs[j]? = some b → bs[j']? = some b → colV rs j = colV rs j' := fun j j' b e e' => by
    obtain ⟨_, its, r, ⟨o1, e1, _, n1, d1⟩⟩ := hb j b e
    obtain ⟨_, its', r', ⟨o2, e2, _, n2, d2⟩⟩ := hb j' b e'
    rw [e1] at e2; cases e2
    rw [d1] at d2
    injection d2 with d3 _
    have : its = its' := by simpa using congrArg Array.toList d3
    subst this
    exact r.inj r'
  have atb : ∀ (j : Nat) b, bs[j]? = some b → growH H rs bs q o b = some (.tup (colV rs j)) := fun j b e => by
    unfold growH
    rw [fr j b e]
    have hx : ∃ j, bs[j]? = some b := ⟨j, e⟩
    dsimp only
    rw [dif_pos hx]
    rw [one _ j b (Classical.choose_spec hx) e]
  have nb : ¬ ∃ j : Nat, bs[j]? = some q := fun ⟨j, e⟩ => hqb j q e rfl
  have atq : growH H rs bs q o q = some o := by
    unfold growH
    rw [I.hok.fresh hq]
    dsimp only
    rw [dif_neg nb, if_pos rfl]
  have gr : Grown H (growH H rs bs q o) := fun a u e => by unfold growH; rw [e]
  refine ⟨Inv.grow I k gr (fun b hb' => ?_) (fun b u e => ?_), gr, ⟨hl, fun j b e => atb j b e⟩, atq⟩
  · unfold growH
    cases e : H b with
    | some u => rfl
    | none =>
      dsimp only
      rw [dif_neg, if_neg]
      · intro e'; subst e'; exact absurd hb' (Nat.not_lt_of_le hq)
      · rintro ⟨j, e'⟩; exact absurd hb' (Nat.not_lt_of_le (hb j b e').1)
  · cases e' : H b with
    | some v =>
      have := gr b v e'
      rw [e] at this; cases this
      exact .inl rfl
    | none =>
      by_cases hx : ∃ j : Nat, bs[j]? = some b
      · obtain ⟨j, ej⟩ := hx
        rw [atb j b ej] at e; cases e
        obtain ⟨_, its, r, p⟩ := hb j b ej
        exact .inr ⟨by rw [colV, List.length_map]; exact hrs, its, r, p⟩
      · have e2 := e
        unfold growH at e2
        rw [e'] at e2
        dsimp only at e2
        rw [dif_neg hx] at e2
        by_cases hbq : b = q
        · subst hbq
          rw [if_pos rfl] at e2; cases e2
          exact .inr (ok _)
        · rw [if_neg hbq] at e2; cases e2
theorem zip_args {vs : List V} {us : List Value} {rs : List (List V)} (hne : vs ≠ []) (I : L2.Inv X pins σ H s) (R : Rows X.K H vs rs) (rv : Vals vs us) : ∃ e L, us = (e :: L).map Sq.ref ∧ SqAt s.heap (e :: L) us rs := by
  obtain ⟨L, Z⟩ := R.at I rv
  cases L with
  | nil =>
    have := R.len
    rw [← Z.len] at this
    exact (hne (List.length_eq_zero_iff.mp this)).elim
  | cons e L => exact ⟨e, L, Z.refs, Z⟩
theorem zip_sizes {L : List Sq} {us : List Value} {rs : List (List V)} {h : Heap} {base n : Nat} (Z : SqAt h L us rs) (h1 : ∀ r ∈ rs, n ≤ r.length) (h2 : ∃ r ∈ rs, r.length = n) : (∀ f ∈ srcs base 0 L, n ≤ f.xs.size) ∧ ∃ f ∈ srcs base 0 L, f.xs.size = n := by
  have at_ : ∀ (k : Nat) (f : Sq) (r : List V), L[k]? = some f → rs[k]? = some r → f.2.2.size = r.length := fun k f r a b => by
    have := (Z.vals k f r a b).length
    rw [Array.length_toList] at this
    exact this.symm
  refine ⟨fun f hf => ?_, ?_⟩
  · obtain ⟨j, e, a, b⟩ := srcs_mem hf
    have hj : j < rs.length := by rw [← Z.len]; exact (List.getElem?_eq_some_iff.mp a).1
    subst b
    show n ≤ e.2.2.size
    rw [at_ j e _ a (List.getElem?_eq_getElem hj)]
    exact h1 _ (List.getElem_mem hj)
  · obtain ⟨r, hr, e⟩ := h2
    obtain ⟨j, hj⟩ := List.getElem?_of_mem hr
    have hl : j < L.length := by rw [Z.len]; exact (List.getElem?_eq_some_iff.mp hj).1
    have hf : L[j]? = some L[j] := List.getElem?_eq_getElem hl
    refine ⟨_, List.mem_of_getElem? (srcs_of (base := base) (k := 0) hf), ?_⟩
    show L[j].2.2.size = n
    rw [at_ j _ r hf hj, e]
end
section
variable {X : Cx} {e : Expr} {te : TE} {p p2 pos pos2 sp : Pos}
theorem pe_tupZip (hc : X.calm = true) (hg : Gl X "tuple") (hm : X.mg "tuple" = none) (hg2 : Gl X "zip") (hm2 : X.mg "zip" = none) (he : PE X e te)
    (hst : starEach [.Starred e sp] X.env = [(true, eval e X.env)] := by rfl)
    (hs2 : starEach [.Call (.Name "zip" p2) [.Starred e sp] [] pos2] X.env = (false, eval (.Call (.Name "zip" p2) [.Starred e sp] [] pos2) X.env) :: starEach [] X.env := by rfl) :
    PE X (.Call (.Name "tuple" p) [.Call (.Name "zip" p2) [.Starred e sp] [] pos2] [] pos) (fun σ H Q => te σ H fun y H1 => kZip X.K HO.tup y H1 Q) := by
  refine ⟨fun pins s σ H Q I h => ?_⟩
  refine Call_ (ld_blt I hg hm boot_tuple (PyProof.Rows.callWith_type1 (args_cons (Call_ (ld_blt I hg2 hm2 PyProof.Rows.boot_zip (callWith_starT (thn (he.run pins s σ H _ I h) fun u s1 ⟨v, H1, I1, r1, q1⟩ => ?_) hst))) hs2) hs2 rfl))
  obtain ⟨a, vs, rs, n, ev, hq, hne, R, hn, h1, h2, q⟩ := q1
  subst ev
  obtain rfl : u = Value.ref a := r1
  refine StX.star_any I1 hq fun us s2 I2 rv => ?_
  obtain ⟨e, L, eus, Z⟩ := zip_args hne I2 R rv
  have hl : (e :: L).length ≤ sizeLine := by
    have z1 := R.len
    have z2 : vs.length ≤ sizeLine := by
      rcases hq with hq | hq
      · obtain ⟨_, _, _, z⟩ := I1.tuple hq; exact z
      · obtain ⟨_, _, _, z⟩ := I1.list hq; exact z
    rw [Z.len, ← z1]; exact z2
  rw [eus]
  refine zip_call Z.on hl fun h' z ez hz hT hO hs hk sz => ?_
  have N : New z _ _ (srcs s2.heap.objs.size 0 (e :: L)) s2.heap h' := new_zip (by simp) hl Z.on ez hz hT hO hs hk sz
  obtain ⟨z1, z2⟩ := zip_sizes (base := s2.heap.objs.size) Z h1 h2
  refine args_nil (call_tuple_zip (s := { s2 with heap := h' }) (I.ok.hd hc) N hn z1 z2 fun h3 acc g k3 lt3 => ?_)
  obtain ⟨bs, b1, b2, b3⟩ := got_cols Z g
  have up : ∀ c o, h3.get? c = some o → (h3.push { cls := .type "tuple", data := .seq acc }).get? c = some o := fun c o e => Heap.get?_push_of_some _ e
  have hsz : @LE.le Nat instLENat s2.heap.objs.size h'.objs.size := by rw [sz]; exact Nat.le_trans (Nat.le_add_right _ _) (Nat.le_add_right _ _)
  have gS : @LE.le Nat instLENat s2.heap.objs.size h3.objs.size := Nat.le_trans hsz (Nat.le_of_lt lt3)
  have vv : Vals (bs.map V.ref) acc.toList := by
    rw [b2]
    refine vals_of (by simp) fun k v u a b => ?_
    rw [List.getElem?_map] at a b
    obtain ⟨c, hc, e⟩ := Option.map_eq_some_iff.mp a
    obtain ⟨c', hc', e'⟩ := Option.map_eq_some_iff.mp b
    rw [hc] at hc'; cases hc'; subst e; subst e'; rfl
  have p3 : ∀ (j : Nat) b, bs[j]? = some b → @LE.le Nat instLENat s2.heap.objs.size b ∧ ∃ its : List Value, Vals (colV rs j) its ∧ IsTup (h3.push { cls := .type "tuple", data := .seq acc }) b its.toArray := fun j b e => by
    obtain ⟨l, its, r, ⟨o, e1, e2⟩⟩ := b3 j b e
    exact ⟨Nat.le_trans hsz (Nat.le_of_lt l), its, r, ⟨o, up _ _ e1, e2⟩⟩
  have p4 : ∀ (j : Nat) b, bs[j]? = some b → b ≠ h3.objs.size := fun j b e => by
    obtain ⟨l, its, r, ⟨o, e1, _⟩⟩ := b3 j b e
    exact Nat.ne_of_lt (Heap.lt_size e1)
  obtain ⟨J, gr, cl, aq⟩ := grow_cols (t' := s2.toks) (h' := h3.push { cls := .type "tuple", data := .seq acc }) (rs := rs) (bs := bs) (q := h3.objs.size) (o := .tup (bs.map V.ref)) (n := n) I2 (fun b u e => up _ _ (k3 _ _ e)) b1 (by rw [← Z.len]; exact hl) p3 gS p4 (fun H' => ⟨by rw [List.length_map, b1]; exact hn, acc.toList, vv, by rw [Array.toArray_toList]; exact IsTup.new _ _⟩)
  exact ⟨V.ref h3.objs.size, _, J, rfl, q _ _ _ gr cl (fun b hb => by obtain ⟨j, hj⟩ := List.getElem?_of_mem hb; exact I2.hok.fresh (p3 j b hj).1) (I2.hok.fresh gS) aq⟩
theorem pe_lstZip (hc : X.calm = true) (hg : Gl X "list") (hm : X.mg "list" = none) (hg2 : Gl X "zip") (hm2 : X.mg "zip" = none) (he : PE X e te)
    (hst : starEach [.Starred e sp] X.env = [(true, eval e X.env)] := by rfl)
    (hs2 : starEach [.Call (.Name "zip" p2) [.Starred e sp] [] pos2] X.env = (false, eval (.Call (.Name "zip" p2) [.Starred e sp] [] pos2) X.env) :: starEach [] X.env := by rfl) :
    PE X (.Call (.Name "list" p) [.Call (.Name "zip" p2) [.Starred e sp] [] pos2] [] pos) (fun σ H Q => te σ H fun y H1 => kZip X.K HO.lst y H1 Q) := by
  refine ⟨fun pins s σ H Q I h => ?_⟩
  refine Call_ (ld_blt I hg hm boot_list (PyProof.Rows.callWith_type1 (args_cons (Call_ (ld_blt I hg2 hm2 PyProof.Rows.boot_zip (callWith_starT (thn (he.run pins s σ H _ I h) fun u s1 ⟨v, H1, I1, r1, q1⟩ => ?_) hst))) hs2) hs2 rfl))
  obtain ⟨a, vs, rs, n, ev, hq, hne, R, hn, h1, h2, q⟩ := q1
  subst ev
  obtain rfl : u = Value.ref a := r1
  refine StX.star_any I1 hq fun us s2 I2 rv => ?_
  obtain ⟨e, L, eus, Z⟩ := zip_args hne I2 R rv
  have hl : (e :: L).length ≤ sizeLine := by
    have z1 := R.len
    have z2 : vs.length ≤ sizeLine := by
      rcases hq with hq | hq
      · obtain ⟨_, _, _, z⟩ := I1.tuple hq; exact z
      · obtain ⟨_, _, _, z⟩ := I1.list hq; exact z
    rw [Z.len, ← z1]; exact z2
  rw [eus]
  refine zip_call Z.on hl fun h' z ez hz hT hO hs hk sz => ?_
  have N : New z _ _ (srcs s2.heap.objs.size 0 (e :: L)) s2.heap h' := new_zip (by simp) hl Z.on ez hz hT hO hs hk sz
  obtain ⟨z1, z2⟩ := zip_sizes (base := s2.heap.objs.size) Z h1 h2
  refine args_nil (call_list_zip (s := { s2 with heap := h' }) (I.ok.hd hc) N hn z1 z2 fun h3 acc c g k3 hS3 => ?_)
  obtain ⟨bs, b1, b2, b3⟩ := got_cols Z g
  have gS : @LE.le Nat instLENat s2.heap.objs.size h'.objs.size := by rw [sz]; exact Nat.le_trans (Nat.le_add_right _ _) (Nat.le_add_right _ _)
  have vv : Vals (bs.map V.ref) acc.toList := by
    rw [b2]
    refine vals_of (by simp) fun k v u a b => ?_
    rw [List.getElem?_map] at a b
    obtain ⟨c, hc, e⟩ := Option.map_eq_some_iff.mp a
    obtain ⟨c', hc', e'⟩ := Option.map_eq_some_iff.mp b
    rw [hc] at hc'; cases hc'; subst e; subst e'; rfl
  have p3 : ∀ (j : Nat) b, bs[j]? = some b → @LE.le Nat instLENat s2.heap.objs.size b ∧ ∃ its : List Value, Vals (colV rs j) its ∧ IsTup h3 b its.toArray := fun j b e => by
    obtain ⟨l, its, r, ⟨o, e1, e2⟩⟩ := b3 j b e
    exact ⟨Nat.le_trans gS (Nat.le_of_lt l), its, r, ⟨o, e1, e2⟩⟩
  have p4 : ∀ (j : Nat) b, bs[j]? = some b → b ≠ h'.objs.size := fun j b e => by
    obtain ⟨l, its, r, ⟨o, e1, _⟩⟩ := b3 j b e
    exact Nat.ne_of_gt l
  obtain ⟨J, gr, cl, aq⟩ := grow_cols (t' := s2.toks) (h' := h3) (rs := rs) (bs := bs) (q := h'.objs.size) (o := .lst (bs.map V.ref)) (n := n) I2 (fun b u e => k3 _ _ e) b1 (by rw [← Z.len]; exact hl) p3 gS p4 (fun H' => ⟨by rw [List.length_map, b1]; exact hn, acc.toList, c, vv, by rw [Array.toArray_toList]; exact hS3⟩)
  exact ⟨V.ref h'.objs.size, _, J, rfl, q _ _ _ gr cl (fun b hb => by obtain ⟨j, hj⟩ := List.getElem?_of_mem hb; exact I2.hok.fresh (p3 j b hj).1) (I2.hok.fresh gS) aq⟩
end
end DL
end
section
set_option Elab.async false
set_option linter.all false
set_option maxRecDepth 100000
set_option maxHeartbeats 1000000
/-! tuple(zip( *rows)) over data -/
namespace DL
open PySem PySem.Spec PyProof.Rows L2 RZ DZ
def rowsOf (M : Sto) : List D → Option (List (List D))
  | [] => some []
  | d :: ds => match asSeq M d with
    | some r => (rowsOf M ds).map (r :: ·)
    | none => none
def minLen : List (List D) → Nat
  | [] => 0
  | [r] => r.length
  | r :: rs => min r.length (minLen rs)
def colD (rs : List (List D)) (j : Nat) : List D := rs.map fun r => r.getD j .non
def zipS (rs : List (List D)) : List (List D) := (List.range (minLen rs)).map (colD rs)
theorem minLen_le : ∀ {rs : List (List D)} {r : List D}, r ∈ rs → minLen rs ≤ r.length
  | [q], r, h => by simp at h; subst h; exact Nat.le_refl _
  | q :: q2 :: rs, r, h => by
    rcases List.mem_cons.mp h with rfl | h
    · exact Nat.min_le_left _ _
    · exact Nat.le_trans (Nat.min_le_right _ _) (minLen_le h)
theorem minLen_ex : ∀ {rs : List (List D)}, rs ≠ [] → ∃ r ∈ rs, r.length = minLen rs
  | [], h => (h rfl).elim
  | [q], _ => ⟨q, by simp, rfl⟩
  | q :: q2 :: rs, _ => by
    obtain ⟨r, hr, e⟩ := minLen_ex (rs := q2 :: rs) (by simp)
    show ∃ r ∈ q :: q2 :: rs, r.length = min q.length (minLen (q2 :: rs))
    rcases Nat.le_total q.length (minLen (q2 :: rs)) with l | l
    · exact ⟨q, by simp, by omega⟩
    · exact ⟨r, List.mem_cons_of_mem _ hr, by omega⟩
def kZipS (mk : List D → D) : D → C D := fun d => withSeq d fun ds M => match rowsOf M ds with
  | some rs => if rs ≠ [] ∧ minLen rs ≤ sizeLine then .ok (mk ((zipS rs).map .tup)) M else .bad
  | none => .bad
def dZipS (mk : List D → D) (f : Env → C D) : Env → C D := fun ρ => C.bind (f ρ) fun d => kZipS mk d
section
variable {K : PySem.W.Frag} {G : Hp} {ps : List Addr} {M : Sto} {H : Hp}
inductive RowsR (K : PySem.W.Frag) (G : Hp) (ps : List Addr) : List (List D) → List (List V) → Prop
  | nil : RowsR K G ps [] []
  | cons {r : List D} {v : List V} {rs : List (List D)} {vs : List (List V)} (h : Reps K G ps r v) (q : RowsR K G ps rs vs) : RowsR K G ps (r :: rs) (v :: vs)
theorem rows_rep (s : Sto0 K G ps M H) : ∀ {ds : List D} {vs : List V} {rs : List (List D)}, Reps K G ps ds vs → rowsOf M ds = some rs → ∃ rv, Rows K H vs rv ∧ RowsR K G ps rs rv
  | [], vs, rs, r, e => by unfold Reps at r; subst r; cases e; exact ⟨[], .nil, .nil⟩
  | d :: ds, vs, rs, r, e => by
    obtain ⟨v, vr, e1, r1, r2⟩ := r.uncons
    subst e1
    unfold rowsOf at e
    cases q : asSeq M d with
    | none => rw [q] at e; cases e
    | some row =>
      rw [q] at e
      obtain ⟨rs', q2, e2⟩ := Option.map_eq_some_iff.mp e
      subst e2
      obtain ⟨rv, a, b⟩ := rows_rep s r2 q2
      obtain ⟨l, xs, ev, hs, rr⟩ := asSeq_rep s r1 q
      subst ev
      rcases hs with hs | hs
      · exact ⟨xs :: rv, .cons (t := false) hs a, .cons rr b⟩
      · exact ⟨xs :: rv, .cons (t := true) hs a, .cons rr b⟩
theorem RowsR.mono {G' : Hp} {ps' : List Addr} (x : Ext G ps G' ps') {rs : List (List D)} {rv : List (List V)} (h : RowsR K G ps rs rv) : RowsR K G' ps' rs rv := by
  induction h with
  | nil => exact .nil
  | cons h _ ih => exact .cons (h.mono x) ih
theorem RowsR.mem {rs : List (List D)} {rv : List (List V)} (h : RowsR K G ps rs rv) : (∀ v ∈ rv, ∃ r ∈ rs, r.length = v.length) ∧ ∀ r ∈ rs, ∃ v ∈ rv, r.length = v.length := by
  induction h with
  | nil => exact ⟨fun v h => by simp at h, fun v h => by simp at h⟩
  | cons h _ ih =>
    refine ⟨fun v hv => ?_, fun r hr => ?_⟩
    · rcases List.mem_cons.mp hv with rfl | hv
      · exact ⟨_, List.mem_cons_self, h.len⟩
      · obtain ⟨r, a, b⟩ := ih.1 v hv; exact ⟨r, List.mem_cons_of_mem _ a, b⟩
    · rcases List.mem_cons.mp hr with rfl | hr
      · exact ⟨_, List.mem_cons_self, h.len⟩
      · obtain ⟨v, a, b⟩ := ih.2 r hr; exact ⟨v, List.mem_cons_of_mem _ a, b⟩
theorem RowsR.col {rs : List (List D)} {rv : List (List V)} {j : Nat} (h : RowsR K G ps rs rv) (hj : ∀ r ∈ rs, j < r.length) : Reps K G ps (colD rs j) (colV rv j) := by
  induction h with
  | nil => exact Reps.nil
  | @cons r v rs vs h _ ih =>
    have hl := hj r List.mem_cons_self
    obtain ⟨x, e, rx⟩ := Reps.get h (List.getElem?_eq_getElem hl)
    have w := ih fun r' hr' => hj r' (List.mem_cons_of_mem _ hr')
    show Reps K G ps (r.getD j .non :: colD rs j) (v.getD j .non :: colV vs j)
    refine Reps.cons ?_ w
    rw [List.getD_eq_getElem?_getD, List.getD_eq_getElem?_getD, e, List.getElem?_eq_getElem hl]
    exact rx
open Classical in
/-- the fixed heap with what is new -/
noncomputable def fixNew (G H H' : Hp) : Hp := fun a => match G a with
  | some o => some o
  | none => if H a = none then H' a else none
theorem stp_grow (s : Sto0 K G ps M H) {H' : Hp} (g : Grown H H') : Stp G ps H (fixNew G H H') ps H' ∧ Sto0 K (fixNew G H H') ps M H' := by
  have x : Ext G ps (fixNew G H H') ps := ⟨fun a o e => by unfold fixNew; rw [e], [], by simp⟩
  have cases_ : ∀ a o, fixNew G H H' a = some o → G a = some o ∨ (H a = none ∧ H' a = some o) := fun a o e => by
    unfold fixNew at e
    cases q : G a with
    | some u => rw [q] at e; cases e; exact .inl rfl
    | none =>
      rw [q] at e
      dsimp only at e
      by_cases h : H a = none
      · rw [if_pos h] at e; exact .inr ⟨h, e⟩
      · rw [if_neg h] at e; cases e
  refine ⟨⟨x, fun a o e _ => g a o e, fun a h => .inl h, fun a o e => (cases_ a o e).elim .inl fun z => .inr (.inl z.1)⟩, ⟨fun a o e => (cases_ a o e).elim (fun z => g a o (s.sub a o z)) fun z => z.2, fun n mo hm => ?_, s.nd, s.len, fun n a e z => ?_⟩⟩
  · exact (s.mem n mo hm).mono x (fun b e2 g2 => by
      unfold fixNew
      rw [g2]
      dsimp only
      rw [if_neg (s.old n b e2)]) (fun b u e2 q2 => g b u q2)
  · have h := s.old n a e
    cases q : H a with
    | none => exact h q
    | some u => rw [g a u q] at z; cases z
end
section
variable {X : Cx} {W : WX} {e : Expr} {f : Env → C D} {p p2 pos pos2 sp : Pos}
theorem zip_of {mk : List D → D} {mo : List V → HO} (hmk : ∀ {K : PySem.W.Frag} {G : Hp} {ps : List Addr} {ds : List D} {xs : List V} {a : Addr}, G a = some (mo xs) → Reps K G ps ds xs → Rep K G ps (mk ds) (.ref a)) {σ : L2.St} {v : V} {H : Hp} {Q : VK}
    (h : At1 X.K W (PD X.K Q) (fun _ => kZipS mk) σ v H) : kZip X.K mo v H Q := by
  obtain ⟨ρ, G, ps, M, x, s, _, r, p⟩ := h
  obtain ⟨ds, q, p⟩ := withSeq_out p
  obtain ⟨a, ys, ev, hs, rr⟩ := asSeq_rep s r q
  subst ev
  split at p
  · rename_i rs hrs
    split at p
    · rename_i hc
      obtain ⟨rv, R1, R2⟩ := rows_rep s rr hrs
      have m1 := R2.mem
      refine ⟨a, ys, rv, minLen rs, rfl, hs.elim .inr .inl, fun e => ?_, R1, hc.2, fun v hv => ?_, ?_, fun H' bs q g cl nb hq aq => ?_⟩
      · subst e
        cases R1
        cases R2
        exact hc.1 rfl
      · obtain ⟨r, hr, e⟩ := m1.1 v hv
        rw [← e]; exact minLen_le hr
      · obtain ⟨r, hr, e⟩ := minLen_ex hc.1
        obtain ⟨v, hv, e2⟩ := m1.2 r hr
        exact ⟨v, hv, by rw [← e2, e]⟩
      · obtain ⟨z1, z2⟩ := stp_grow s g
        refine p _ ps _ z1 z2 _ (hmk (xs := bs.map V.ref) ?_ ?_)
        · unfold fixNew
          cases hG : G q with
          | some u => have := s.sub _ _ hG; rw [hq] at this; cases this
          | none => dsimp only; rw [if_pos hq]; exact aq
        · have R3 := R2.mono z1.ext
          have key : ∀ m, m ≤ minLen rs → Reps X.K (fixNew G H H') ps (((List.range m).map (colD rs)).map D.tup) ((bs.take m).map V.ref) := by
            intro m
            induction m with
            | zero => intro _; simp; exact Reps.nil
            | succ m ih =>
              intro hm
              rw [List.range_succ, List.map_append, List.map_append, List.take_succ, List.map_append]
              have hl : m < bs.length := by rw [cl.1]; omega
              rw [List.getElem?_eq_getElem hl]
              refine Reps.append (ih (by omega)) (Reps.cons ?_ Reps.nil)
              unfold Rep
              have hb := cl.2 m _ (List.getElem?_eq_getElem hl)
              refine ⟨bs[m], colV rv m, rfl, ?_, R3.col fun r hr => by have := minLen_le hr; omega⟩
              have hn := nb bs[m] (List.getElem_mem hl)
              unfold fixNew
              cases hG : G bs[m] with
              | some u => have := s.sub _ _ hG; rw [hn] at this; cases this
              | none => dsimp only; rw [if_pos hn]; exact hb
          have := key (minLen rs) (Nat.le_refl _)
          rw [← cl.1, List.take_length] at this
          unfold zipS
          rw [← cl.1]; exact this
    · exact p.elim
  · exact p.elim
theorem de_tupZip (hc : X.calm = true) (he : DE X W e f) (hg : Gl X "tuple") (hm : X.mg "tuple" = none) (hg2 : Gl X "zip") (hm2 : X.mg "zip" = none)
    (hst : starEach [.Starred e sp] X.env = [(true, eval e X.env)] := by rfl)
    (hs2 : starEach [.Call (.Name "zip" p2) [.Starred e sp] [] pos2] X.env = (false, eval (.Call (.Name "zip" p2) [.Starred e sp] [] pos2) X.env) :: starEach [] X.env := by rfl) :
    DE X W (.Call (.Name "tuple" p) [.Call (.Name "zip" p2) [.Starred e sp] [] pos2] [] pos) (dZipS .tup f) :=
  pe_imp (pe_tupZip hc hg hm hg2 hm2 he hst hs2) fun σ H Q h => td_mono (seq1 (k := fun _ => kZipS .tup) h) fun v H1 h2 => zip_of (mo := HO.tup) (fun a r => by unfold Rep; exact ⟨_, _, rfl, a, r⟩) h2
theorem de_lstZip (hc : X.calm = true) (he : DE X W e f) (hg : Gl X "list") (hm : X.mg "list" = none) (hg2 : Gl X "zip") (hm2 : X.mg "zip" = none)
    (hst : starEach [.Starred e sp] X.env = [(true, eval e X.env)] := by rfl)
    (hs2 : starEach [.Call (.Name "zip" p2) [.Starred e sp] [] pos2] X.env = (false, eval (.Call (.Name "zip" p2) [.Starred e sp] [] pos2) X.env) :: starEach [] X.env := by rfl) :
    DE X W (.Call (.Name "list" p) [.Call (.Name "zip" p2) [.Starred e sp] [] pos2] [] pos) (dZipS .lst f) :=
  pe_imp (pe_lstZip hc hg hm hg2 hm2 he hst hs2) fun σ H Q h => td_mono (seq1 (k := fun _ => kZipS .lst) h) fun v H1 h2 => zip_of (mo := HO.lst) (fun a r => by unfold Rep; exact ⟨_, _, rfl, a, r⟩) h2
end
end DL
end
section
set_option Elab.async false
set_option linter.all false
set_option maxRecDepth 100000
set_option maxHeartbeats 1000000
/-! xs[::-1], a = b = e -/
namespace DL
open PySem PySem.Spec PyProof.Rows L2 RZ DZ
def kRevL : D → C D := fun d => if isLst d = true then withSeq d fun ds => C.pure (.lst ds.reverse) else C.bad
def dRevL (f : Env → C D) : Env → C D := fun ρ => C.bind (f ρ) kRevL
theorem Reps.reverse {K : PySem.W.Frag} {G : Hp} {ps : List Addr} : ∀ {ds : List D} {xs : List V}, Reps K G ps ds xs → Reps K G ps ds.reverse xs.reverse
  | [], xs, h => by unfold Reps at h; subst h; exact Reps.nil
  | d :: ds, xs, h => by
    obtain ⟨v, r, e, a, b⟩ := h.uncons
    subst e
    rw [List.reverse_cons, List.reverse_cons]
    exact b.reverse.append (Reps.cons a Reps.nil)
section
variable {X : Cx} {W : WX} {e : Expr} {f : Env → C D} {p1 p2 p3 pos : Pos}
theorem de_revL {k : Nat} (he : DE X W e f) : DE X W (.Subscript e (.Slice none none (some (.UnaryOp .USub (.Constant (.int 1) k p1) p2)) p3) pos) (dRevL f) :=
  pe_imp (pe_revL he) fun σ H Q h => td_mono (seq1 (k := fun _ => kRevL) h) fun v H1 h2 => by
    obtain ⟨ρ, G, ps, M, x, s, _, r, p⟩ := h2
    replace p : Post X.K W σ (PD X.K Q) G ps H1 (kRevL x M) := p
    unfold kRevL at p
    by_cases hl : isLst x = true
    · rw [if_pos hl] at p
      obtain ⟨ds, q, p⟩ := withSeq_out p
      obtain ⟨a, xs, ev, hs, rr⟩ := asSeq_lst s r q hl
      subst ev
      refine ⟨a, xs, rfl, hs, fun l hn => ?_⟩
      have z := s.stp (o := .lst xs.reverse) hn
      exact p _ ps _ z (s.new hn) _ (by unfold Rep; exact ⟨l, _, rfl, upd_same, (rr.mono z.ext).reverse⟩)
    · rw [if_neg hl] at p; exact p.elim
end
section
variable {X : Cx} {W : WX} {e : Expr} {f : Env → C D} {pos : Pos}
def sAsg2 (f : Env → C D) (q1 q2 : Pat) : SF := lift f fun ρ d M => match q1.put M d ρ with
  | some ρ1 => (match q2.put M d ρ1 with
    | some ρ2 => .ok (.nx ρ2) M
    | none => .bad)
  | none => .bad
theorem ds_asg2 {t1 t2 : Expr} {q1 q2 : Pat} (he : DE X W e f) (h1 : DG X t1 q1) (h2 : DG X t2 q2) (ha : (assignEach [t1, t2] X.env).map (·.2) = [assign t1 X.env, assign t2 X.env] := by rfl) (hw : swappedStores [t1, t2] e X.env = pure none := by rfl) :
    DS X W (.Assign [t1, t2] e pos) (sAsg2 f q1 q2) := ps_imp (ps_asg2 he h1 h2 ha hw) fun Dn σ H h =>
  lift_post h fun ρ d G ps M H' s sl p v r => by
    cases z : q1.put M d ρ with
    | none => rw [z] at p; exact p.elim
    | some ρ1 =>
      rw [z] at p
      dsimp only at p
      cases z2 : q2.put M d ρ1 with
      | none => rw [z2] at p; exact p.elim
      | some ρ2 =>
        rw [z2] at p
        exact ⟨ρ, G, ps, M, d, ρ1, s, sl, r, z, fun σ' sl' _ => ⟨ρ1, G, ps, M, d, ρ2, s, sl', r, z2, fun σ2 sl2 _ => pst_ok p s σ2 sl2⟩⟩
end
section
variable {X : Cx} {W : WX} {e : Expr} {f g : Env → C D}
theorem de_eq (h : f = g) (d : DE X W e f) : DE X W e g := h ▸ d
theorem dpow_lit {a b c : Int} (h : (0 ≤ b ∧ b ≤ 1000000 ∧ a.natAbs < 2 ^ 64) ∧ a ^ b.toNat = c) : dB dPow (dC (.int a)) (dC (.int b)) = dC (.int c) := by
  funext ρ M
  show (if decide (0 ≤ b ∧ b ≤ 1000000 ∧ a.natAbs < 2 ^ 64) = true then C.pure (D.int (a ^ b.toNat)) else C.bad) M = _
  rw [if_pos (decide_eq_true h.1), h.2]; rfl
end
end DL
end
section
set_option Elab.async false
set_option linter.all false
set_option maxRecDepth 100000
set_option maxHeartbeats 1000000
/-! data that can be shown and compared; bounds; comprehensions that reckon -/
namespace DL
open PySem PySem.Spec PyProof.Rows L2
/-! ### steps -/
section
variable {α : Type} {x y : Res α} {Q : α → Sto → Prop} {E : EC}
theorem wp_of_eq (h : x = y) (q : wp y Q E) : wp x Q E := by rw [h]; exact q
theorem st_ift {c : Prop} [Decidable c] (h : c) (q : wp x Q E) : wp (if c then x else y) Q E := by rw [if_pos h]; exact q
theorem st_iff {c : Prop} [Decidable c] (h : ¬ c) (q : wp y Q E) : wp (if c then x else y) Q E := by rw [if_neg h]; exact q
theorem wp_eqok {a : α} {M : Sto} (h : x = .ok a M) (q : Q a M) : wp x Q E := by rw [h]; exact q
end
section
variable {Q : D → Sto → Prop} {QO : Out → Sto → Prop} {QB : Bool → Sto → Prop} {E : EC} {ρ : Env} {M : Sto} {d : D} {i n np : Nat} {b : SF} {ds : List D} {s : Str} {x : D}
theorem st_var (h : ρ[i]? = some (some d)) (q : Q d M) : wp (dVar i ρ M) Q E := by
  have : dVar i ρ M = .ok d M := by unfold dVar; rw [h]; rfl
  rw [this]; exact q
theorem st_def (h : ds.length = np) (q : wp (b (ds.map some ++ List.replicate (n - np) none) M) (fun o M' => wp (outC o M') Q E) (fun _ _ _ _ => False)) : wp (dDef n np b ds M) Q E := by
  rw [wp_def, if_pos h]; exact q
theorem st_asg {f : Env → C D} {q : Pat} (h : wp (f ρ M) (fun d M' => ∃ ρ', q.put M' d ρ = some ρ' ∧ QO (.nx ρ') M') (fun c fn ds M' => QO (.ex c fn ds ρ) M')) : wp (sAsg f q ρ M) QO E := by
  rw [wp_sAsg]
  refine wp_mono h (fun d M' hd => ?_) fun _ _ _ _ z => z
  obtain ⟨ρ', e, r⟩ := hd
  rw [e]; exact r
end
section
variable {QO : Out → Sto → Prop} {E : EC} {ρ : Env} {M : Sto} {f g h : Env → C D} {a b c : Nat}
theorem wp_par2 : wp (sPar a b (aCons f (aCons g aNil)) ρ M) QO E = wp (f ρ M) (fun x M1 => wp (g ρ M1) (fun y M2 => QO (.nx ((ρ.set a (some x)).set b (some y))) M2) (fun c fn ds M' => QO (.ex c fn ds ρ) M')) (fun c fn ds M' => QO (.ex c fn ds ρ) M') := by
  rw [wp_sPar, wp_aCons]; congr 1; funext x M1; rw [wp_aCons]; congr 1; funext y M2; rw [wp_aNil]
  exact propext ⟨fun ⟨_, _, e, q⟩ => by cases e; exact q, fun q => ⟨_, _, rfl, q⟩⟩
theorem wp_par3 : wp (sPar3 a b c (aCons f (aCons g (aCons h aNil))) ρ M) QO E = wp (f ρ M) (fun x M1 => wp (g ρ M1) (fun y M2 => wp (h ρ M2) (fun z M3 => QO (.nx (((ρ.set a (some x)).set b (some y)).set c (some z))) M3) (fun c fn ds M' => QO (.ex c fn ds ρ) M')) (fun c fn ds M' => QO (.ex c fn ds ρ) M')) (fun c fn ds M' => QO (.ex c fn ds ρ) M') := by
  rw [wp_sPar3, wp_aCons]; congr 1; funext x M1; rw [wp_aCons]; congr 1; funext y M2; rw [wp_aCons]; congr 1; funext z M3; rw [wp_aNil]
  exact propext ⟨fun ⟨_, _, _, e, q⟩ => by cases e; exact q, fun q => ⟨_, _, _, rfl, q⟩⟩
end
/-! ### bounds of ints -/
def Bd (k : Nat) (i : Int) : Prop := i.natAbs < 2 ^ k
theorem Bd.le {k m : Nat} {i : Int} (h : Bd k i) (l : k ≤ m) : Bd m i := Nat.lt_of_lt_of_le h (Nat.pow_le_pow_right (by omega) l)
theorem Bd.lit {i : Int} (h : i.natAbs < 2 ^ 250) : Bd 250 i := h
theorem Bd.lit8 {i : Int} (h : i.natAbs < 2 ^ 8) : Bd 8 i := h
theorem Bd.mul {k m : Nat} {i j : Int} (a : Bd k i) (b : Bd m j) : Bd (k + m) (i * j) := by
  unfold Bd at *
  rw [Int.natAbs_mul, Nat.pow_add]
  exact Nat.mul_lt_mul_of_lt_of_le a (Nat.le_of_lt b) (Nat.lt_of_le_of_lt (Nat.zero_le _) b)
theorem Bd.add {k m : Nat} {i j : Int} (a : Bd k i) (b : Bd m j) : Bd (k + m + 1) (i + j) := by
  have a' := a.le (show k ≤ k + m by omega)
  have b' := b.le (show m ≤ k + m by omega)
  unfold Bd at *
  rw [Nat.pow_succ]
  have := Int.natAbs_add_le i j
  omega
theorem Bd.neg {k : Nat} {i : Int} (a : Bd k i) : Bd k (-i) := by unfold Bd at *; rw [Int.natAbs_neg]; exact a
theorem Bd.sub {k m : Nat} {i j : Int} (a : Bd k i) (b : Bd m j) : Bd (k + m + 1) (i - j) := by rw [Int.sub_eq_add_neg]; exact a.add b.neg
theorem Bd.div {k : Nat} {i j : Int} (a : Bd k i) : Bd k (i / j) := Nat.lt_of_le_of_lt (Int.natAbs_ediv_le_natAbs i j) a
theorem Bd.mod {k : Nat} {i j : Int} (h : 0 < j) (a : Bd k j) : Bd k (i % j) := by
  have h1 := Int.emod_nonneg i (show j ≠ 0 by omega)
  have h2 := Int.emod_lt_of_pos i h
  unfold Bd at *; omega
theorem Bd.nat {k : Nat} {n : Nat} (h : n < 2 ^ k) : Bd k (n : Int) := by unfold Bd; simpa using h
theorem Bd.of_le {k : Nat} {i j : Int} (h : Bd k j) (l : i.natAbs ≤ j.natAbs) : Bd k i := Nat.lt_of_le_of_lt l h
theorem Bd.log {k : Nat} {i : Int} (h : Bd k i) : i.natAbs.log2 ≤ k := by
  by_cases z : i.natAbs = 0
  · rw [z]; simp
  · have := (Nat.log2_lt z).mpr h; omega
theorem mulOk_bd {k m : Nat} {i j : Int} (a : Bd k i) (b : Bd m j) (h : k + m < 1000000) : mulOk i j = true := by
  unfold mulOk
  have := a.log
  have := b.log
  simp only [Bool.or_eq_true, decide_eq_true_eq]
  exact .inr (by omega)
theorem small2_bd {k : Nat} {i : Int} (a : Bd k i) (h : k < 9000) : small2 9000 i = true := by
  unfold small2
  have := a.log
  rw [decide_eq_true_eq]; omega
local macro_rules | `(tactic| walk_at "bd") => `(tactic| first
  | assumption
  | exact Bd.lit (by decide)
  | (with_reducible apply Bd.mul <;> walk_at "bd")
  | (with_reducible apply Bd.add <;> walk_at "bd")
  | (with_reducible apply Bd.sub <;> walk_at "bd")
  | (with_reducible apply Bd.neg <;> walk_at "bd")
  | (with_reducible apply Bd.div <;> walk_at "bd"))
example (a b : Int) (h : Bd 100 a) (h2 : Bd 30 b) : mulOk (a * 3 + b - 1) (b / 5) = true := mulOk_bd (by walk_at "bd") (by walk_at "bd") (by decide)
/-! ### data that can be shown and compared -/
mutual
def okD : D → Bool
  | .non => true
  | .bl _ => true
  | .int i => decide (i.natAbs.log2 < 1920)
  | .str x => PyData.strOk x && x.cps.toList.all fun c => decide (c < 16 ^ 8)
  | .lst ds => okDs ds
  | .tup ds => okDs ds
  | _ => false
def okDs : List D → Bool
  | [] => true
  | d :: ds => okD d && okDs ds
end
mutual
def depD : D → Nat
  | .lst ds => depDs ds + 1
  | .tup ds => depDs ds + 1
  | _ => 0
def depDs : List D → Nat
  | [] => 0
  | d :: ds => max (depD d) (depDs ds)
end
mutual
def lenD : D → Nat
  | .non => 4
  | .bl _ => 5
  | .int _ => 1922
  | .str x => 10 * x.length + 2
  | .lst ds => lenDs ds + 3
  | .tup ds => lenDs ds + 3
  | _ => 0
def lenDs : List D → Nat
  | [] => 0
  | d :: ds => lenD d + lenDs ds + 2
end
mutual
theorem okD_py : ∀ d : D, okD d = true → ∃ q, py0 d = some q ∧ okS q = true ∧ q.depth = depD d ∧ lenB q = lenD d ∧ q.canLay0 = true
  | .non, _ => ⟨.none, rfl, rfl, rfl, rfl, rfl⟩
  | .bl b, _ => ⟨.bool b, rfl, rfl, rfl, rfl, rfl⟩
  | .int i, h => ⟨.int i, rfl, h, rfl, rfl, rfl⟩
  | .str x, h => by
    simp only [okD, Bool.and_eq_true] at h
    exact ⟨.str x, rfl, h.2, rfl, rfl, h.1⟩
  | .lst ds, h => by
    obtain ⟨qs, a, b, c, d, e⟩ := okDs_py ds h
    exact ⟨.list qs, by simp only [py0, a, Option.map_some], by simpa only [okS] using b, by simp only [PyData.depth, depD, c], by simp only [lenB, lenD, d], e⟩
  | .tup ds, h => by
    obtain ⟨qs, a, b, c, d, e⟩ := okDs_py ds h
    exact ⟨.tuple qs, by simp only [py0, a, Option.map_some], by simpa only [okS] using b, by simp only [PyData.depth, depD, c], by simp only [lenB, lenD, d], e⟩
  | .fz _, h => by simp [okD] at h
  | .ft _, h => by simp [okD] at h
  | .ty _, h => by simp [okD] at h
  | .obj _, h => by simp [okD] at h
  | .dic _ _, h => by simp [okD] at h
  | .ins _ _ _, h => by simp [okD] at h
  | .ptr _, h => by simp [okD] at h
theorem okDs_py : ∀ ds : List D, okDs ds = true → ∃ qs, py0s ds = some qs ∧ okSs qs = true ∧ PyData.depthAll qs = depDs ds ∧ lenBs qs = lenDs ds ∧ PyData.canLayAll0 qs = true
  | [], _ => ⟨[], rfl, rfl, rfl, rfl, rfl⟩
  | d :: ds, h => by
    simp only [okDs, Bool.and_eq_true] at h
    obtain ⟨q, a1, a2, a3, a4, a5⟩ := okD_py d h.1
    obtain ⟨qs, b1, b2, b3, b4, b5⟩ := okDs_py ds h.2
    exact ⟨q :: qs, by simp only [py0s, a1, b1], by simp only [okSs, a2, b2, Bool.and_self], by simp only [PyData.depthAll, depDs, a3, b3], by simp only [lenBs, lenDs, a4, b4], by simp only [PyData.canLayAll0, a5, b5, Bool.and_self]⟩
end
/-- data of this depth and length at most -/
structure Nc (a b : Nat) (d : D) : Prop where
  ok : okD d = true
  dep : depD d ≤ a
  len : lenD d ≤ b
theorem Nc.mono {a b a' b' : Nat} {d : D} (h : Nc a b d) (h1 : a ≤ a') (h2 : b ≤ b') : Nc a' b' d := ⟨h.ok, Nat.le_trans h.dep h1, Nat.le_trans h.len h2⟩
theorem Nc.int {k : Nat} {i : Int} (h : Bd k i) (hk : k < 1920) : Nc 0 1922 (.int i) := ⟨by simp only [okD, decide_eq_true_eq]; have := h.log; omega, Nat.le_refl _, Nat.le_refl _⟩
theorem Nc.bl {b : Bool} : Nc 0 1922 (.bl b) := ⟨rfl, Nat.le_refl _, by simp [lenD]⟩
theorem Nc.non : Nc 0 1922 .non := ⟨rfl, Nat.le_refl _, by simp [lenD]⟩
theorem ncs {a b : Nat} : ∀ {ds : List D}, (∀ d ∈ ds, Nc a b d) → okDs ds = true ∧ depDs ds ≤ a ∧ lenDs ds ≤ ds.length * (b + 2)
  | [], _ => ⟨rfl, Nat.zero_le _, Nat.zero_le _⟩
  | d :: ds, h => by
    have h1 := h d List.mem_cons_self
    obtain ⟨a1, a2, a3⟩ := ncs fun e he => h e (List.mem_cons_of_mem _ he)
    refine ⟨by simp only [okDs, h1.ok, a1, Bool.and_self], ?_, ?_⟩
    · have := h1.dep
      simp only [depDs]; omega
    · have := h1.len
      simp only [lenDs, List.length_cons, Nat.succ_mul]; omega
theorem Nc.tup {a b n : Nat} {ds : List D} (h : ∀ d ∈ ds, Nc a b d) (hn : ds.length ≤ n) : Nc (a + 1) (n * (b + 2) + 3) (.tup ds) := by
  obtain ⟨a1, a2, a3⟩ := ncs h
  have := Nat.mul_le_mul_right (b + 2) hn
  exact ⟨a1, by simp only [depD]; omega, by simp only [lenD]; omega⟩
theorem Nc.lst {a b n : Nat} {ds : List D} (h : ∀ d ∈ ds, Nc a b d) (hn : ds.length ≤ n) : Nc (a + 1) (n * (b + 2) + 3) (.lst ds) := by
  obtain ⟨a1, a2, a3⟩ := ncs h
  have := Nat.mul_le_mul_right (b + 2) hn
  exact ⟨a1, by simp only [depD]; omega, by simp only [lenD]; omega⟩
theorem pyM_ok {d : D} {M : Sto} (h : okD d = true) : pyM M d = py0 d := by cases d <;> first | rfl | simp [okD] at h
section
variable {Q : D → Sto → Prop} {QL : List D → Sto → Prop} {E : EC} {M : Sto} {x y d : D}
/-- repr of such data is one text -/
theorem Nc.repr {a b : Nat} (h : Nc a b d) (ha : a ≤ 60) (hb : b ≤ sizeLine) : ∃ s, ∀ M, dRepr [d] M = .ok (.str s) M := by
  obtain ⟨q, e1, e2, e3, e4, _⟩ := okD_py d h.ok
  refine ⟨q.shown, fun M => repr_eq (by rw [pyM_ok h.ok]; exact e1) (reprOk_of e2 (by rw [e3]; exact Nat.le_trans h.dep ha) (by rw [e4]; exact Nat.le_trans h.len hb)) fun z => ?_⟩
  subst z
  have := h.ok
  simp [okD] at this
/-- == of one and the same -/
theorem Nc.same {a b : Nat} {neg : Bool} (h : Nc a b d) (ha : a ≤ 60) : wp (dEqv neg d d M) Q E = Q (.bl (!neg)) M := by
  by_cases hs : notStr d = true
  · obtain ⟨q, e1, e2, e3, e4, e5⟩ := okD_py d h.ok
    have e0 : pyM M d = some q := by rw [pyM_ok h.ok]; exact e1
    have sh : SeqAt.shaped q = true := by
      unfold SeqAt.shaped
      rw [e5, e3]
      simp only [Bool.true_and, decide_eq_true_eq]
      have := h.dep; omega
    have er : PyData.eqv q q = true := SeqAt.eqv_refl q e5
    rw [wp_eqv hs]
    refine propext ⟨fun ⟨a, b, p1, p2, _, _, r⟩ => ?_, fun r => ⟨q, q, e0, e0, sh, sh, ?_⟩⟩
    · rw [e0] at p1 p2; cases p1; cases p2
      rw [er] at r
      cases neg <;> exact r
    · rw [er]
      cases neg <;> exact r
  · cases d with
    | str s =>
      rw [wp_eqs]
      simp only [decide_true, Bool.not_true]
      cases neg <;> rfl
    | _ => exact (hs rfl).elim
/-! ### comprehensions that reckon -/
theorem lc_go {q : Pat} {e : Env → C D} {ρ : Env} {g : D → D} : ∀ {ds acc : List D}, (∀ d ∈ ds, ∃ ρ1, q.put M d ρ = some ρ1 ∧ e ρ1 M = .ok (g d) M) → acc.length + ds.length ≤ sizeLine → lcS q tYesD e ρ ds acc M = .ok (acc ++ ds.map g) M
  | [], acc, _, _ => by rw [List.map_nil, List.append_nil]; rfl
  | d :: ds, acc, h, hl => by
    obtain ⟨ρ1, e1, e2⟩ := h d List.mem_cons_self
    show (match q.put M d ρ with
      | some ρ1 => C.bind (C.ne (tYesD ρ1)) (fun b => if b = true then C.bind (C.ne (e ρ1)) (fun y => if acc.length < sizeLine then lcS q tYesD e ρ ds (acc ++ [y]) else C.bad) else lcS q tYesD e ρ ds acc) M
      | none => .bad) = _
    rw [e1]
    show (C.bind (C.ne (e ρ1)) (fun y => if acc.length < sizeLine then lcS q tYesD e ρ ds (acc ++ [y]) else C.bad)) M = _
    unfold C.bind C.ne
    rw [e2]
    show (if acc.length < sizeLine then lcS q tYesD e ρ ds (acc ++ [g d]) else C.bad) M = _
    rw [List.length_cons] at hl
    rw [if_pos (by omega)]
    have := lc_go (q := q) (e := e) (ρ := ρ) (g := g) (ds := ds) (acc := acc ++ [g d]) (fun d' hd => h d' (List.mem_cons_of_mem _ hd)) (by rw [List.length_append, List.length_singleton]; omega)
    rw [this, List.map_cons, List.append_assoc]; rfl
theorem wp_lcMap {it : Env → C (List D)} {q : Pat} {e : Env → C D} {vs : List Nat} {ρ : Env} {ds : List D} (g : D → D) (hi : it ρ M = .ok ds M) (h : ∀ d ∈ ds, ∃ ρ1, q.put M d (wipeE ρ vs) = some ρ1 ∧ e ρ1 M = .ok (g d) M) (hl : ds.length ≤ sizeLine) :
    wp (dLc it q tYesD e vs ρ M) Q E = Q (.lst (ds.map g)) M := by
  rw [wp_dLc, hi, wp_ok, lc_go (g := g) h (by simpa using hl), wp_ok, List.nil_append]
theorem lcMap {it : Env → C (List D)} {q : Pat} {e : Env → C D} {vs : List Nat} {ρ : Env} {ds : List D} (g : D → D) (hi : it ρ M = .ok ds M) (h : ∀ d ∈ ds, ∃ ρ1, q.put M d (wipeE ρ vs) = some ρ1 ∧ e ρ1 M = .ok (g d) M) (hl : ds.length ≤ sizeLine) :
    dLc it q tYesD e vs ρ M = .ok (.lst (ds.map g)) M := wp_eq (by rw [wp_lcMap g hi h hl]; exact ⟨rfl, rfl⟩)
end
/-! ### slices -/
section
variable {Q : D → Sto → Prop} {QI : Option Int → Sto → Prop} {E : EC} {ρ : Env} {M : Sto} {f : Env → C D} {l u : Env → C (Option Int)} {ds : List D} {lo hi : Option Int} {i : Int}
theorem wp_dSlice : wp (dSlice f l u ρ M) Q E = wp (f ρ M) (fun x M1 => wp (l ρ M1) (fun lo M2 => wp (u ρ M2) (fun hi M3 => wp (dSl x lo hi M3) Q E) E) E) E := by
  unfold dSlice; rw [wp_bind]; congr 1; funext x M1; rw [wp_bind]; congr 1; funext lo M2; rw [wp_bind]
theorem wp_pNo : wp (pNo ρ M) QI E = QI none M := rfl
theorem wp_pSo : wp (pSo f ρ M) QI E = wp (f ρ M) (fun x M1 => wp (asIo x M1) QI E) E := by unfold pSo; rw [wp_bind]
theorem wp_asIo : wp (asIo (.int i) M) QI E = QI (some i) M := rfl
theorem wp_dSlL : wp (dSl (.lst ds) lo hi M) Q E = Q (.lst (cut ds lo hi)) M := rfl
theorem wp_dSlT : wp (dSl (.tup ds) lo hi M) Q E = Q (.tup (cut ds lo hi)) M := rfl
theorem wp_revL : wp (dRevL f ρ M) Q E = wp (f ρ M) (fun x M1 => wp (kRevL x M1) Q E) E := by unfold dRevL; rw [wp_bind]
theorem wp_kRevL : wp (kRevL (.lst ds) M) Q E = Q (.lst ds.reverse) M := rfl
theorem cut_from {k : Nat} (h : k ≤ ds.length) : cut ds (some (k : Int)) none = ds.drop k := by
  unfold cut
  rw [HT.sIx_nat, HT.sIx_none, Nat.min_eq_left h, List.take_of_length_le]
  rw [List.length_drop]; exact Nat.le_refl _
theorem cut_to {k : Nat} : cut ds none (some (k : Int)) = ds.take k := by
  unfold cut
  rw [HT.sIx_nat, HT.sIx_none, List.drop_zero, Nat.sub_zero]
  rcases Nat.le_total k ds.length with h | h
  · rw [Nat.min_eq_left h]
  · rw [Nat.min_eq_right h, List.take_of_length_le h, List.take_of_length_le (Nat.le_refl _)]
theorem wp_kZipS {mk : List D → D} {d : D} : wp (kZipS mk d M) Q E = ∃ ds rs, asSeq M d = some ds ∧ rowsOf M ds = some rs ∧ rs ≠ [] ∧ minLen rs ≤ sizeLine ∧ Q (mk ((zipS rs).map .tup)) M := by
  unfold kZipS
  rw [wp_withSeq]
  refine propext ⟨fun ⟨ds, e, q⟩ => ?_, fun ⟨ds, rs, e, e2, h1, h2, q⟩ => ⟨ds, e, ?_⟩⟩
  · cases e2 : rowsOf M ds with
    | none => rw [e2] at q; exact q.elim
    | some rs =>
      rw [e2] at q
      by_cases h : rs ≠ [] ∧ minLen rs ≤ sizeLine
      · dsimp only at q; rw [if_pos h] at q; exact ⟨ds, rs, e, e2, h.1, h.2, q⟩
      · dsimp only at q; rw [if_neg h] at q; exact q.elim
  · rw [e2]; dsimp only; rw [if_pos ⟨h1, h2⟩]; exact q
theorem wp_dZipS {mk : List D → D} : wp (dZipS mk f ρ M) Q E = wp (f ρ M) (fun x M1 => wp (kZipS mk x M1) Q E) E := by unfold dZipS; rw [wp_bind]
theorem rowsOf_lsts {rs : List (List D)} : rowsOf M (rs.map .lst) = some rs := by
  induction rs with
  | nil => rfl
  | cons r rs ih => show (rowsOf M (rs.map .lst)).map (r :: ·) = _; rw [ih]; rfl
end
/-! ### the first items -/
section
variable {M : Sto} {x y : D} {r : List D}
theorem ix_t0 : dIx (.tup (x :: r)) (.int 0) M = .ok x M := by
  show C.of (L2.atI (x :: r) ((0 : Nat) : Int)) M = _
  rw [L2.atI_nat (v := x) rfl]; rfl
theorem ix_t1 : dIx (.tup (x :: y :: r)) (.int 1) M = .ok y M := by
  show C.of (L2.atI (x :: y :: r) ((1 : Nat) : Int)) M = _
  rw [L2.atI_nat (v := y) rfl]; rfl
theorem ix_l0 : dIx (.lst (x :: r)) (.int 0) M = .ok x M := by
  show C.of (L2.atI (x :: r) ((0 : Nat) : Int)) M = _
  rw [L2.atI_nat (v := x) rfl]; rfl
theorem ix_l1 : dIx (.lst (x :: y :: r)) (.int 1) M = .ok y M := by
  show C.of (L2.atI (x :: y :: r) ((1 : Nat) : Int)) M = _
  rw [L2.atI_nat (v := y) rfl]; rfl
end
/-! ### two names at once -/
section
variable {M : Sto} {ρ : Env} {i j : Nat} {x y : D} {Q : Out → Sto → Prop} {E : EC} {f : Env → C D} {q1 q2 : Pat}
theorem put2_t : (Pat.tp [.nm i, .nm j]).put M (.tup [x, y]) ρ = some ((ρ.set i (some x)).set j (some y)) := rfl
theorem put2_l : (Pat.tp [.nm i, .nm j]).put M (.lst [x, y]) ρ = some ((ρ.set i (some x)).set j (some y)) := rfl
theorem wp_sAsg2' : wp (sAsg2 f (.nm i) (.nm j) ρ M) Q E = wp (f ρ M) (fun d M' => Q (.nx ((ρ.set i (some d)).set j (some d))) M') (fun c fn ds M' => Q (.ex c fn ds ρ) M') := by
  unfold sAsg2; rw [wp_lift]; rfl
end
/-! ### Euclid's loop -/
section
variable {Q : Out → Sto → Prop} {E : EC} {M : Sto} {ρ : Env} {i j : Nat}
theorem dVar_at {d : D} (h : ρ[i]? = some (some d)) : dVar i ρ M = .ok d M := by unfold dVar; rw [h]; rfl
noncomputable abbrev eucS (i j : Nat) : SF := whileS (tV (dB dGt (dVar j) (dC (.int 0)))) (sPar i j (aCons (dVar j) (aCons (dB dMod (cB dInt (aCons (dVar i) (aNil))) (dVar j)) (aNil))))
theorem set_set_ne {α : Type} {l : List α} {i j : Nat} {a b c d : α} (h : i ≠ j) : (((l.set i a).set j b).set i c).set j d = (l.set i c).set j d := by
  rw [List.set_comm b c h.symm, List.set_set, List.set_set]
theorem eucS_wp {x y : Nat} (hij : i ≠ j) (hx : ρ[i]? = some (some (.int x))) (hy : ρ[j]? = some (some (.int y))) (q : Q (.nx ((ρ.set i (some (.int (Nat.gcd x y : Nat)))).set j (some (.int 0)))) M) : wp (eucS i j ρ M) Q E := by
  have hi : i < ρ.length := (List.getElem?_eq_some_iff.mp hx).1
  have hj : j < ρ.length := (List.getElem?_eq_some_iff.mp hy).1
  refine wp_while (fun n ρ' M' => ∃ a b : Nat, ρ' = (ρ.set i (some (.int a))).set j (some (.int b)) ∧ n = b ∧ M' = M ∧ Nat.gcd a b = Nat.gcd x y) (fun n ρ' M' h => ?_) (n := y) ⟨x, y, ?_, rfl, rfl, rfl⟩
  · obtain ⟨a, b, e1, e2, e3, g⟩ := h
    subst e1; subst e2; subst e3
    have ga : ((ρ.set i (some (.int a))).set j (some (.int n)))[i]? = some (some (.int a)) := by
      rw [List.getElem?_set_ne hij.symm, List.getElem?_set_self hi]
    have gb : ((ρ.set i (some (.int a))).set j (some (.int n)))[j]? = some (some (.int n)) := by
      rw [List.getElem?_set_self (by rw [List.length_set]; exact hj)]
    rw [wp_tV, wp_dB, dVar_at gb, wp_ok, wp_dC, wp_gt, wp_asB]
    by_cases hb : 0 < n
    · have hb' : (0 : Int) < (n : Int) := by omega
      simp only [hb', decide_true, if_true]
      rw [wp_sPar, wp_aCons, dVar_at gb, wp_ok, wp_aCons, wp_dB, wp_cB, wp_aCons, dVar_at ga, wp_ok, wp_aNil, wp_int, dVar_at gb, wp_ok, wp_mod]
      refine ⟨hb', ?_⟩
      rw [wp_aNil]
      refine ⟨_, _, rfl, ?_⟩
      refine ⟨a % n, Nat.mod_lt _ hb, n, a % n, ?_, rfl, rfl, by rw [← g, Nat.gcd_comm n, ← Nat.gcd_rec, Nat.gcd_comm]⟩
      rw [set_set_ne hij]; rfl
    · have : n = 0 := by omega
      subst this
      simp only [Int.natCast_zero, Int.lt_irrefl, decide_false, Bool.false_eq_true, if_false]
      rw [Nat.gcd_zero_right] at g
      rw [g]
      exact q
  · have e1 : ρ.set i (some (.int (x : Nat))) = ρ := by rw [← List.getElem?_eq_some_iff.mp hx |>.2]; exact List.set_getElem_self hi
    rw [e1]
    have e2 : ρ.set j (some (.int (y : Nat))) = ρ := by rw [← List.getElem?_eq_some_iff.mp hy |>.2]; exact List.set_getElem_self hj
    exact e2.symm
end
end DL
end
section
set_option Elab.async false
set_option linter.all false
set_option maxRecDepth 100000
set_option maxHeartbeats 2000000
/-! what is drawn below any bound -/
namespace DL
open PySem PySem.Spec PyProof.Rows L2
/-- what draws below a bound -/
def DialW (F : List D → C D) : Prop := ∀ (n : Nat) (B m : Int) (M : Sto) (E : EC), Gau n B M → B ≤ 500000 → 1 ≤ m → Bd 2000 m → wp (F [.ptr n, .int m] M) (fun d M' => ∃ v, d = .int v ∧ 0 ≤ v ∧ v < m ∧ Gau n (B + 1) M' ∧ But n M M') E
theorem dialA_okW {p1 a1 b1 p2 b2 a2 c2 p3 : Int} (h1 : 0 < p1 ∧ p1 < 2 ^ 32) (h2 : 0 < a1 ∧ a1 < 2 ^ 20 ∧ 0 < b1 ∧ b1 < 2 ^ 20) (h3 : 0 < p2 ∧ p2 < 2 ^ 31) (h4 : 0 < b2 ∧ b2 < 2 ^ 20 ∧ 0 < a2 ∧ a2 < 2 ^ 20 ∧ 0 < c2 ∧ c2 < 2 ^ 20) (h5 : 0 < p3) : DialW (dDef 6 2 (dialA p1 a1 b1 p2 b2 a2 c2 p3)) :=
  fun n B m M E h hB hm hm2 => dialA_spec h hB hm (small2_bd hm2 (by decide)) h1 h2 h3 h4 h5
theorem dialB_okW {fl : Bool} {c0 d0 p1 a1 b1 p2 b2 a2 c2 p3 : Int} (h0 : 0 < c0 ∧ c0 < 2 ^ 20 ∧ 0 < d0 ∧ d0 < 2 ^ 20) (h1 : 0 < p1 ∧ p1 < 2 ^ 32) (h2 : 0 < a1 ∧ a1 < 2 ^ 20 ∧ 0 < b1 ∧ b1 < 2 ^ 20) (h3 : 0 < p2 ∧ p2 < 2 ^ 31) (h4 : 0 < b2 ∧ b2 < 2 ^ 20 ∧ 0 < a2 ∧ a2 < 2 ^ 20 ∧ 0 < c2 ∧ c2 < 2 ^ 20) (h5 : 0 < p3) : DialW (dDef 6 2 (dialB fl c0 d0 p1 a1 b1 p2 b2 a2 c2 p3)) :=
  fun n B m M E h hB hm hm2 => dialB_spec h hB hm (small2_bd hm2 (by decide)) h0 h1 h2 h3 h4 h5
theorem DialW.ok {F : List D → C D} (h : DialW F) : DialOk F := fun n B m M E g hB hm hm2 => h n B m M E g hB hm (Nat.lt_of_lt_of_le (show m.natAbs < 2 ^ 64 by omega) (Nat.pow_le_pow_right (by omega) (by omega)))
section
variable {F : List D → C D} {n : Nat} {B m : Int} {M : Sto} {E : EC} {ds : List D} {Q : D → Sto → Prop}
theorem DialW.dial (hF : DialW F) (h : Gau n B M) (hB : B ≤ 500000) (hm : 1 ≤ m) (hm2 : Bd 2000 m) (q : ∀ v M', 0 ≤ v → v < m → Gau n (B + 1) M' → But n M M' → Q (.int v) M') : wp (F [.ptr n, .int m] M) Q E :=
  wp_mono (hF n B m M E h hB hm hm2) (fun d M' ⟨v, e, a, b, c, f⟩ => by subst e; exact q v M' a b c f) fun _ _ _ _ z => z
theorem DialW.pick (hF : DialW F) (h : Gau n B M) (hB : B ≤ 500000) (h1 : 1 ≤ ds.length) (h2 : ds.length < 2 ^ 64) (q : ∀ d M', d ∈ ds → Gau n (B + 1) M' → But n M M' → Q d M') : wp (dDef 2 2 (pickB F) [.ptr n, .lst ds] M) Q E :=
  wp_mono (pick_ok hF.ok h hB h1 h2) (fun d M' ⟨a, b, c⟩ => q d M' a b c) fun _ _ _ _ z => z
end
/-! ### numbers in lowest terms -/
def gc (a u : Int) : Int := ((Nat.gcd a.natAbs u.natAbs : Nat) : Int)
theorem gc_pos {a u : Int} (h : 0 < u) : 0 < gc a u := by
  unfold gc
  have : 0 < Nat.gcd a.natAbs u.natAbs := Nat.gcd_pos_of_pos_right _ (by omega)
  omega
theorem gc_dvd_l {a u : Int} : gc a u ∣ a := by unfold gc; exact Int.ofNat_dvd_left.mpr (Nat.gcd_dvd_left _ _)
theorem gc_dvd_r {a u : Int} : gc a u ∣ u := by unfold gc; exact Int.ofNat_dvd_left.mpr (Nat.gcd_dvd_right _ _)
theorem gc_low {a u : Int} (h : 0 < u) : Nat.gcd (a / gc a u).natAbs (u / gc a u).natAbs = 1 := by
  have h1 : (a / gc a u).natAbs = a.natAbs / Nat.gcd a.natAbs u.natAbs := by
    rw [Int.natAbs_ediv_of_dvd gc_dvd_l]; rfl
  have h2 : (u / gc a u).natAbs = u.natAbs / Nat.gcd a.natAbs u.natAbs := by
    rw [Int.natAbs_ediv_of_dvd gc_dvd_r]; rfl
  rw [h1, h2]
  exact Nat.gcd_div_gcd_div_gcd_of_pos_right (by omega)
theorem gc_one {a u : Int} (h : Nat.gcd a.natAbs u.natAbs = 1) : gc a u = 1 := by unfold gc; rw [h]; rfl
/-- a floor is that of the lowest terms -/
theorem low_floor {a u k : Int} (h : 0 < u) : k * (a / gc a u) / (u / gc a u) = k * a / u := by
  have hg := gc_pos (a := a) h
  obtain ⟨x, hx⟩ := gc_dvd_l (a := a) (u := u)
  obtain ⟨y, hy⟩ := gc_dvd_r (a := a) (u := u)
  generalize gc a u = g at hg hx hy ⊢
  subst hx hy
  rw [Int.mul_ediv_cancel_left _ (show g ≠ 0 by omega), Int.mul_ediv_cancel_left _ (show g ≠ 0 by omega)]
  rw [show k * (g * x) = g * (k * x) by rw [← Int.mul_assoc, Int.mul_comm k, Int.mul_assoc], Int.mul_ediv_mul_of_pos _ _ hg]
end DL
end
section
set_option Elab.async false
set_option linter.all false
set_option maxRecDepth 100000
set_option maxHeartbeats 2000000
/-! range over ints of any size -/
namespace DQ
open PySem PySem.Spec PyProof.Rows
open PySem.Sem (wp)
theorem slot_lr_next : Slot "longrange_iterator" "__next__" "longrange_iterator.__next__" :=
  .of (owner := "longrange_iterator") (n := "__next__") (by rw [typeLookup_type, builtinLookup_eq_fast]; kernel_rfl) (by decide +kernel) (by decide +kernel) (by decide +kernel)
    (by first | exact .inl (by decide +kernel) | exact .inr (by decide +kernel)) (by rw [isSubtype_type]; kernel_rfl)
theorem owner_lr : Manifest.owners.lookup (String.ofList ['r', 'o', 't', 'a', 'r', 'e', 't', 'i', '_', 'e', 'g', 'n', 'a', 'r', 'g', 'n', 'o', 'l'].reverse) = some Manifest.sig_longrange_iterator := by kernel_rfl
theorem entry_lr_next : entryFor table "longrange_iterator.__next__" = some Builtin.«longrange_iterator.__next__» := entryFor_of_tree (by kernel_rfl)
theorem args_lr_next (a : Value) : argsOk "longrange_iterator.__next__" ⟨[a], []⟩ := by
  unfold argsOk; rw [signature?_of (id := "longrange_iterator.__next__") (n := ['_', '_', 't', 'x', 'e', 'n', '_', '_']) (o := ['r', 'o', 't', 'a', 'r', 'e', 't', 'i', '_', 'e', 'g', 'n', 'a', 'r', 'g', 'n', 'o', 'l']) (by kernel_rfl) owner_lr]; kernel_rfl
theorem slot_lr_iter : Slot "longrange_iterator" "__iter__" "longrange_iterator.__iter__" :=
  .of (owner := "longrange_iterator") (n := "__iter__") (by rw [typeLookup_type, builtinLookup_eq_fast]; kernel_rfl) (by decide +kernel) (by decide +kernel) (by decide +kernel)
    (by first | exact .inl (by decide +kernel) | exact .inr (by decide +kernel)) (by rw [isSubtype_type]; kernel_rfl)
theorem args_lr_iter (a : Value) : argsOk "longrange_iterator.__iter__" ⟨[a], []⟩ := by
  unfold argsOk; rw [signature?_of (id := "longrange_iterator.__iter__") (n := ['_', '_', 'r', 'e', 't', 'i', '_', '_']) (o := ['r', 'o', 't', 'a', 'r', 'e', 't', 'i', '_', 'e', 'g', 'n', 'a', 'r', 'g', 'n', 'o', 'l']) (by kernel_rfl) owner_lr]; kernel_rfl
theorem entry_lr_iter : entryFor table "longrange_iterator.__iter__" = some Builtin.«dict_keyiterator.__iter__» :=
  entryFor_alias (id' := "dict_keyiterator.__iter__") (by kernel_rfl) (by first | rfl | decide +kernel | (unfold String.splitOn; simp +decide [String.splitOnAux])) (by decide +kernel) (by kernel_rfl)
theorem bound_lr (v : Value) : bound "longrange_iterator.__next__" ⟨[v], []⟩ = pure #[some v] := by kernel_rfl
abbrev IsLong (h : Heap) (it : Addr) (x left step : Int) : Prop := h.get? it = some { cls := .type "longrange_iterator", dict := none, data := .fields #[rawInt x, rawInt left, rawInt step], slots := #[] }
theorem lr_item (it : Addr) (x left step : Int) (hc0 : ¬left ≤ 0) :
    Meets (Builtin.«longrange_iterator.__next__» ⟨[.ref it], []⟩) (fun _ R s => IsLong s.heap it x left step ∧ R (.ok (.ret (Value.int x s.toks))) { s with heap := (s.heap.update it (Obj.mapFields fun x_1 => x_1.setIfInBounds 0 (rawInt (x + step)))).update it (Obj.mapFields fun x => x.setIfInBounds 1 (rawInt (left - 1))), toks := s.toks + 1 }) :=
  .of_wp fun prog w A R s h => by
    obtain ⟨hp, g, d, tk, os⟩ := s; obtain ⟨hl, h⟩ := h
    have hb := bound_lr (.ref it)
    wp_walk
    exact ⟨_, rfl, h⟩
end DQ
end
section
set_option Elab.async false
set_option linter.all false
set_option maxRecDepth 100000
set_option maxHeartbeats 2000000
namespace L2
open PySem PySem.Spec PyProof.Rows DQ
open PySem.Sem (wp)
section
variable {prog : Program} {w : World} {A : Around} {E : Value → Shared → Prop} {s : Shared}
theorem next_item_lr {it : Addr} {x left step : Int} {Q : Option Value → Shared → Prop} (hit : IsLong s.heap it x left step) (hleft : 0 < left)
    (hQ : ∀ h', IsLong h' it (x + step) (left - 1) step → Heap.SameBut it s.heap h' → Q (some (.int x s.toks)) { s with heap := h', toks := s.toks + 1 }) :
    wpAny (model prog w) A (pyNext (.ref it)) Q E s := by
  have hT : s.TypeIs (.ref it) "longrange_iterator" := ⟨_, hit, rfl⟩
  unfold pyNext
  refine wpAny_bind (wpAny_attempt (wpAny_callSpecial?_slot (name := Str.ofString "__next__") hT slot_lr_next
    (call_meets slot_lr_next hT entry_lr_next (args_lr_next _) (lr_item it x left step (by omega)) ⟨hit, ?_⟩)))
  exact wpAny_pure (hQ _ (Heap.get?_update_self _ (Heap.get?_update_self _ hit rfl) rfl) ((Heap.SameBut.update ..).trans (Heap.SameBut.update ..)))
theorem next_end_lr {it : Addr} {x left step : Int} {Q : Option Value → Shared → Prop} (hh : A.handled = none) (hit : IsLong s.heap it x left step) (hleft : left ≤ 0)
    (hQ : ∀ h', Heap.ExtBut it s.heap h' → Q none { s with heap := h' }) : wpAny (model prog w) A (pyNext (.ref it)) Q E s := by
  have hT : s.TypeIs (.ref it) "longrange_iterator" := ⟨_, hit, rfl⟩
  unfold pyNext
  refine wpAny_bind (wpAny_attempt (wpAny_callSpecial?_slot (name := Str.ofString "__next__") hT slot_lr_next
    (wpAny_call_entry slot_lr_next hT entry_lr_next ?_ (args_lr_next _))))
  show wpAny _ _ (PySem.Builtin.Iterators_pickling.intField "longrange_iterator.__next__" (.ref it) 0 >>= _) _ _ s
  refine wpAny_bind (wpAny_bind (wpAny_field hit rfl (x := rawInt x) rfl (wpAny_pure ?_)))
  show wpAny _ _ (PySem.Builtin.Iterators_pickling.intField "longrange_iterator.__next__" (.ref it) 1 >>= _) _ _ s
  refine wpAny_bind (wpAny_bind (wpAny_field hit rfl (x := rawInt left) rfl (wpAny_pure ?_)))
  show wpAny _ _ (PySem.Builtin.Iterators_pickling.intField "longrange_iterator.__next__" (.ref it) 2 >>= _) _ _ s
  refine wpAny_bind (wpAny_bind (wpAny_field hit rfl (x := rawInt step) rfl (wpAny_pure ?_)))
  show wpAny _ _ (if left ≤ 0 then _ else _) _ _ s
  rw [if_pos hleft]
  refine wpAny_bind (wpAny_rule ?_)
  refine wpAny_bind ?_
  show wpAny _ _ (newExc (.type "StopIteration") [] >>= _) _ _ _
  refine wpAny_bind ?_
  simp only [newExc, newTuple]
  refine wpAny_bind (wpAny_newObj_type ?_ (by size_fits))
  refine wpAny_bind (m := firstArgMember _ _) (wpAny_of_eq (a := Value.none) (by first | rfl | (simp only [firstArgMember]; rfl)) ?_)
  refine wpAny_newObj_type ?_ (by size_fits)
  simp only [raiseNew]
  refine wpAny_pure ?_
  (try dsimp only)
  refine wpAny_bind (wpAny_bind (wpAny_handled ?_))
  first | rw [show A.in1.handled = none from hh] | rw [hh]
  refine wpAny_bind (wpAny_pure (wpAny_throw ?_))
  refine wpAny_bind (wpAny_isInstance (T := "StopIteration") (b := true) ⟨_, Heap.get?_push_size _ rfl, rfl⟩ isSubtype_stop ?_)
  exact wpAny_pure (hQ _ (((Heap.ExtBut.refl it s.heap).push _).push _))
theorem iter_self_lr {it : Addr} {x left step : Int} {Q : Value → Shared → Prop} (hit : IsLong s.heap it x left step) (h : Q (.ref it) s) : wpAny (model prog w) A (pyIter (.ref it)) Q E s := by
  have hT : s.TypeIs (.ref it) "longrange_iterator" := ⟨_, hit, rfl⟩
  refine wpAny_pyIter_slot hT slot_lr_iter (wpAny_call_entry slot_lr_iter hT entry_lr_iter ?_ (args_lr_iter _))
  show wpAny _ _ (ret (.ref it)) _ _ s
  exact wpAny_pure ⟨_, rfl, "longrange_iterator", _, hT, slot_lr_next.lookup, h⟩
theorem iter_lr {r : Addr} {a b c : Int} {t u v : Tok} {Q : Value → Shared → Prop} (hr : IsRange s.heap r a b c t u v) (hsmall : Builtin.Range.small a b c = false)
    (hQ : Q (.ref s.heap.objs.size) { s with heap := s.heap.push { cls := .type "longrange_iterator", data := .fields #[rawInt a, rawInt (Builtin.Range.rangeSize a b c), rawInt c] } }) :
    wpAny (model prog w) A (pyIter (.ref r)) Q E s := by
  have hT : s.TypeIs (.ref r) "range" := ⟨_, hr, rfl⟩
  refine wpAny_pyIter_slot hT F.slot_range_iter (call_meets F.slot_range_iter hT F.entry_range_iter (F.args_range_iter_1 _)
    (AutoRange.range___iter___range_0 r a b c t u v (by unfold Builtin.Range.small at hsmall; rw [hsmall]; rfl)) ⟨hr, ?_⟩)
  unfold Builtin.Range.small at hsmall
  simp only [hsmall, if_false, Bool.false_eq_true]
  exact ⟨"longrange_iterator", _, ⟨_, Heap.get?_push_size _ rfl, rfl⟩, slot_lr_next.lookup, hQ⟩
end
theorem turn_long {P : Program} {w : World} {K : PySem.W.Frag} {tg : Expr} (it : Addr) (lo : Int) (n : Nat) : Turn P w K tg (Itr lo n) [it] it (fun i h => IsLong h it (lo + (i : Nat)) ((n : Int) - (i : Nat)) 1) where
  mem := by simp
  obj := fun i h st b hb => by
    have e : b = it := by simpa using hb
    subst e
    exact ⟨_, st, fun v z => by
      have z' : Data.fields _ = Data.cell v := z
      cases z'⟩
  keep := fun i h h' st k => k it (by simp) _ st
  item := by
    intro X hP hw hK hc i pins s σ H E I hf st hg
    subst hP hw hK
    obtain ⟨f0, f1, f2, f3, f4, f5⟩ := hf it (by simp)
    refine next_item_lr st (by have : i < n := hg; omega) fun h' st' sb => ?_
    have I1 : Inv X pins σ H { s with heap := h', toks := s.toks + 1 } := I.turned (fun b o hb e => (sb.2 b hb).trans e) f0 f1 f3 f4 f5
    rw [show lo + (i : Int) + 1 = lo + ((i + 1 : Nat) : Int) by push_cast; omega, show (n : Int) - (i : Nat) - 1 = (n : Int) - ((i + 1 : Nat) : Int) by push_cast; omega] at st'
    exact ⟨_, rfl, go_of (s := { s with heap := h', toks := s.toks + 1 }) (n := "longrange_iterator") st' rfl rfl (by decide) ⟨.int (lo + i), H, I1, ⟨_, rfl⟩, ⟨rfl, rfl⟩, st', fun b hb => (hf b hb).1⟩⟩
  done := by
    intro X hP hw hK hc i pins s σ H E I hf st hg
    subst hP hw hK
    obtain ⟨f0, f1, f2, f3, f4, f5⟩ := hf it (by simp)
    exact next_end_lr (I.ok.hd hc) st (by have : n ≤ i := hg; omega) fun h' eb => ⟨rfl, I.turned (t' := s.toks) (fun b o hb e => eb b o hb e) f0 f1 f3 f4 f5⟩
  self := fun _ _ _ _ _ st h => iter_self_lr st h
section
variable {X : Cx} {tg : Expr}
theorem rangeW_it {pins : List (Addr × Obj)} {σ : St} {H : Hp} {s : Shared} {R : It → Hp → Prop} {E : Value → Shared → Prop} {lo hi : Int} {t u v : Tok} {tk : Nat} (I : Inv X pins σ H s)
    (q : R (Itr lo (hi - lo).toNat) H) : wpAny (model X.prog X.w) X.A (pyIter (.ref s.heap.objs.size)) (PIE X pins σ tg R) E { s with heap := s.heap.push { cls := .type "range", data := .fields #[.int lo t, .int hi u, .int 1 v] }, toks := tk } := by
  have I1 : Inv X pins σ H { s with heap := s.heap.push { cls := .type "range", data := .fields #[.int lo t, .int hi u, .int 1 v] }, toks := tk } := I.kept fun b o e => Heap.get?_push_of_some _ e
  have e2 : (((hi - lo).toNat : Nat) : Int) - ((0 : Nat) : Int) = Builtin.Range.rangeSize lo hi 1 := by rw [rangeSize_one]; split <;> omega
  have fp : ∀ b ∈ [(s.heap.push { cls := .type "range", data := .fields #[.int lo t, .int hi u, .int 1 v] }).objs.size], FpOk X pins H b := fun b hb => by
    have e : b = (s.heap.push { cls := .type "range", data := .fields #[.int lo t, .int hi u, .int 1 v] }).objs.size := by simpa using hb
    subst e
    exact I1.fpOk (Nat.le_refl _) (I1.hok.fresh (Nat.le_refl _))
  cases hs : Builtin.Range.small lo hi 1 with
  | true =>
    refine wpAny_pyIter_range (IsRange.new ..) hs ?_
    refine ⟨(s.heap.push { cls := .type "range", data := .fields #[.int lo t, .int hi u, .int 1 v] }).objs.size, [(s.heap.push { cls := .type "range", data := .fields #[.int lo t, .int hi u, .int 1 v] }).objs.size], _, _, H, rfl,
      I1.kept (t' := tk) fun b o e => Heap.get?_push_of_some _ e, turn_range _ lo (hi - lo).toNat, ?_, fp, q⟩
    have e1 : lo + ((0 : Nat) : Int) * 1 = lo := by simp
    show IsRangeIter _ _ (lo + ((0 : Nat) : Int) * 1) ((((hi - lo).toNat : Nat) : Int) - ((0 : Nat) : Int)) 1
    rw [e1, e2]
    exact Heap.get?_push_size _ rfl
  | false =>
    refine iter_lr (IsRange.new ..) hs ?_
    refine ⟨(s.heap.push { cls := .type "range", data := .fields #[.int lo t, .int hi u, .int 1 v] }).objs.size, [(s.heap.push { cls := .type "range", data := .fields #[.int lo t, .int hi u, .int 1 v] }).objs.size], _, _, H, rfl,
      I1.kept (t' := tk) fun b o e => Heap.get?_push_of_some _ e, turn_long _ lo (hi - lo).toNat, ?_, fp, q⟩
    have e1 : lo + ((0 : Nat) : Int) = lo := by simp
    show IsLong _ _ (lo + ((0 : Nat) : Int)) ((((hi - lo).toNat : Nat) : Int) - ((0 : Nat) : Int)) 1
    rw [e1, e2]
    exact Heap.get?_push_size _ rfl
def iRng2w (ta : TA) : TI := fun σ H R => ta σ H fun vs H1 => ∃ i j : Int, vs = [.int i, .int j] ∧ R (Itr i (j - i).toNat) H1
theorem pi_range2w {a b : Expr} {ta : TA} {p pos : Pos} (hg : Gl X "range") (hm : X.mg "range" = none) (ha : PA X [a, b] ta) (hs : starEach [a, b] X.env = [(false, eval a X.env), (false, eval b X.env)] := by rfl) (hs2 : starEach [b] X.env = [(false, eval b X.env)] := by rfl) :
    PI X tg (.Call (.Name "range" p) [a, b] [] pos) (iRng2w ta) := by
  refine ⟨fun pins s σ H R I h => ?_⟩
  refine Call_ (ld_blt I hg hm boot_range (PyProof.Rows.callWith_type1 (thn (ha.run pos pins s σ H _ I h) fun us s1 ⟨vs, H1, I1, r1, q1⟩ => ?_) (by rw [hs, hs2]) (by rw [hs2]; rfl)))
  obtain ⟨i, j, e, q⟩ := q1
  subst e
  cases r1 with
  | cons r rr =>
    cases rr with
    | cons r' rr =>
      cases rr
      obtain ⟨t, rfl⟩ := r
      obtain ⟨t', rfl⟩ := r'
      exact call_range_2 (rangeW_it I1 q)
end
end L2
namespace DL
open PySem PySem.Spec PyProof.Rows L2
def rng2w : List D → C (List D)
  | [.int i, .int j] => C.pure (rgI i (j - i).toNat)
  | _ => C.bad
section
variable {X : Cx} {W : WX} {tg a b : Expr} {g : Env → C (List D)} {p pos : Pos}
theorem di_rng2w (ha : DA X W [a, b] g) (hg : Gl X "range") (hm : X.mg "range" = none) (hs : starEach [a, b] X.env = [(false, eval a X.env), (false, eval b X.env)] := by rfl) (hs2 : starEach [b] X.env = [(false, eval b X.env)] := by rfl) :
    DI X W tg (.Call (.Name "range" p) [a, b] [] pos) (dRng rng2w g) :=
  pi_imp (pi_range2w hg hm ha hs hs2) fun σ H R h => tds_mono (seqL (P := fun ds G ps _ H' => ∀ J, Walks X.K G ps J ds → R J H') (k := fun _ xs => rng2w xs) h) fun vs H1 h2 => by
    obtain ⟨G, ps, M, xs, s, r, p⟩ := h2.out
    unfold rng2w at p
    split at p
    · obtain ⟨v, u, e, r1, r2⟩ := r.two; subst e; unfold Rep at r1 r2; subst r1; subst r2
      exact ⟨_, _, rfl, p G ps H1 Stp.refl s _ walks_rng⟩
    · exact p.elim
end
end DL
end
section
set_option Elab.async false
set_option linter.all false
namespace DL
open PySem PySem.Spec PyProof.Rows L2
theorem wp_rng2w {i j : Int} {M : Sto} {QL : List D → Sto → Prop} {E : EC} : wp (rng2w [.int i, .int j] M) QL E = QL (rgI i (j - i).toNat) M := rfl
end DL
end
section
set_option Elab.async false
set_option linter.all false
set_option maxRecDepth 100000
set_option maxHeartbeats 1000000
namespace DZ
open PySem
theorem begins_ss (t : Bool) (l : Addr) (xs : Array Value) : Begins (.ref l) (itO t l) fun h => SS t h l xs where
  iter := fun prog w A E s Q hl h => SS.iter hl h
  keeps := fun h h' x hk => x.keep fun o e => hk l o e
  free := by cases t <;> rfl
end DZ
namespace DL
open PySem PySem.Spec PyProof.Rows L2 RZ DZ
theorem callWith_typeKW {M : Model} {A : Around} {E : Value → Shared → Prop} {s : Shared} {env : PySem.Env} {pos : Pos} {T : String} {e : Expr} {rest : List Expr} {kws : List Keyword} {Q : Value → Shared → Prop}
    (hall : (backToKw pos (keywordEach kws env)).all (·.1.isSome) = true)
    (h : wpAny M A (spliced (backTo pos (starEach (e :: rest) env))) (fun vs s₁ => wpAny M A (evalAll ((backToKw pos (keywordEach kws env)).map (·.2)))
      (fun ks s₂ => wpAny M A (call (.type T) vs (((backToKw pos (keywordEach kws env)).filterMap (·.1)).zip ks)) Q E s₂) E s₁) E s)
    (hplain : ((backTo pos (starEach (e :: rest) env)).any (·.1) || (backToKw pos (keywordEach kws env)).any (·.1.isNone)) = false) (he : starEach (e :: rest) env = (false, eval e env) :: starEach rest env) :
    wpAny M A (callWith pos (.type T) [] (backTo pos (starEach (e :: rest) env)) (backToKw pos (keywordEach kws env))) Q E s :=
  PySem.W.callWith_of (P := fun _ => True) hplain (fun h _ => ⟨.machine, .inr (.inl rfl), PySem.W.Looks.of_pure rfl⟩) (evalArgs_kw2 hall (wpAny_mono h (fun vs s1 h1 => wpAny_mono h1 (fun ks s2 h2 => ⟨trivial, h2⟩) fun _ _ z => z) fun _ _ z => z) he)
def ItNc (t : Bool) (K : PySem.W.Frag) (a : Addr) (c : Int) : It :=
  ⟨fun i H => ∃ xs x, SqX t K H a xs ∧ xs[i]? = some x, fun i H v H' => ∃ T x, v = .ref T ∧ H T = none ∧ H' = upd H T (.tup [.int (c + (i : Nat)), x]) ∧ ∀ xs, SqX t K H a xs → xs[i]? = some x, fun i H => ∃ xs, SqX t K H a xs ∧ xs.length ≤ i⟩
def NAtC (t : Bool) (c : Int) (e it a : Addr) (i : Nat) (h : Heap) : Prop := (∃ old, IsEnum h e it (c + (i : Nat)) old) ∧ SI t h it a i ∧ e ≠ it ∧ a ≠ it ∧ a ≠ e
theorem turn_enuC {P : Program} {w : World} {K : PySem.W.Frag} {elts : List Expr} {kk : Nat} {tpos : Pos} (t : Bool) (c : Int) (a e it : Addr) : Turn P w K (.Tuple elts kk tpos) (ItNc t K a c) [e, it] e (NAtC t c e it a) where
  mem := List.mem_cons_self
  obj := fun i h st b hb => by
    obtain ⟨⟨old, he⟩, w1, _⟩ := st
    rcases duo hb with q | q <;> subst q
    · exact ⟨_, he, fun v q => nomatch q⟩
    · cases t <;> (obtain ⟨o, e, _, dd⟩ := w1; exact ⟨o, e, fun v q => by rw [dd] at q; cases q⟩)
  keep := fun i h h' st k => by
    obtain ⟨⟨old, he⟩, w1, r⟩ := st
    exact ⟨⟨old, k e (by simp) _ he⟩, w1.keep fun o q => k it (by simp) o q, r⟩
  item := by
    intro X hP hw hK hc i pins s σ H E I hf st hg
    subst hP hw hK
    obtain ⟨⟨old, he⟩, w1, ne, nl, na⟩ := st
    obtain ⟨xs, x, q1, hx⟩ := hg
    obtain ⟨its, r1, v1, _⟩ := q1.at I
    obtain ⟨u, hu, ru⟩ := r1.get hx
    have el : e < s.heap.objs.size := Heap.lt_size he
    have hi : i < its.toArray.size := by rw [List.size_toArray]; exact (List.getElem?_eq_some_iff.mp hu).1
    refine wpAny_pyNext_enum_itemC (draws (A := X.A.in1) (I.ok.hd hc) t it a nl its.toArray) he ⟨w1, v1⟩ hi ne (by simp; exact ⟨ne, Ne.symm na⟩) fun u' h1 tk pu ho st1 nT sz hk => ⟨_, rfl, ?_⟩
    have eu : u' = u := by have := pu; rw [List.getElem?_toArray, hu] at this; exact (Option.some.inj this).symm
    subst eu
    refine wpAny_letOwnedTupleGo_enum (s := { s with heap := h1, toks := tk + 1 }) ho fun h2 he2 sb => ?_
    have nT2 : h2.get? s.heap.objs.size = some { cls := .type "tuple", data := .seq #[.int (c + (i : Nat)) tk, u'] } := (sb.2 _ (Nat.ne_of_gt el)).trans nT
    have nw : ObjOk X.prog X.w (upd H s.heap.objs.size (.tup [.int (c + (i : Nat)), x])) h2 s.heap.objs.size (.tup [.int (c + (i : Nat)), x]) := ⟨(by decide : 2 ≤ sizeLine), [.int (c + (i : Nat)) tk, u'], .cons ⟨_, rfl⟩ (.cons ru .nil), ⟨_, nT2, rfl, _, rfl⟩⟩
    have I1 : L2.Inv X pins σ (upd H s.heap.objs.size (.tup [.int (c + (i : Nat)), x])) { s with heap := h2, toks := tk + 1 } := I.turnedNew (ch := [e, it]) (fun b o nb q => by
      have nn : ∀ y ∈ [e, it], b ≠ y := fun y hy q => nb (q ▸ hy)
      exact (sb.2 b (nn e (by simp))).trans (hk b o (nn e (by simp)) (nn it (by simp)) q)) hf (Nat.le_refl _) nw
    refine ⟨.ref s.heap.objs.size, _, I1, rfl, ⟨_, x, rfl, I.hok.fresh (Nat.le_refl _), rfl, fun l hl => by rw [hl.one I q1]; exact hx⟩, ⟨⟨u', ?_⟩, st1.1.keep fun o q => (sb.2 _ (Ne.symm ne)).trans q, ne, nl, na⟩, fun b hcm => ?_⟩
    · rw [show c + ((i + 1 : Nat) : Int) = c + (i : Int) + 1 by omega]; exact he2
    · have lt : b < s.heap.objs.size := by
        rcases duo hcm with q | q <;> subst q
        · exact el
        · exact w1.lt
      rw [upd_ne (Nat.ne_of_lt lt)]
      exact (hf b hcm).1
  done := by
    intro X hP hw hK hc i pins s σ H E I hf st hg
    subst hP hw hK
    obtain ⟨⟨old, he⟩, w1, ne, nl, na⟩ := st
    obtain ⟨xs, q1, hl⟩ := hg
    obtain ⟨its, r1, v1, _⟩ := q1.at I
    have n1 := r1.length
    obtain ⟨f0, f1, f2, f3, f4, f5⟩ := hf it (by simp)
    refine wpAny_pyNext_enum_endD (draws_end (A := X.A.in1) (I.ok.hd hc) t it a its.toArray i (by simp; omega)) he ⟨rfl, w1, v1⟩ fun h' eb => ⟨rfl, ?_⟩
    exact I.turned (t' := s.toks) (fun b o hb q => eb b o hb q) f0 f1 f3 f4 f5
  self := fun A i s Q E st h => by
    obtain ⟨⟨_, he⟩, _⟩ := st
    exact wpAny_pyIter_enum he h
end DL
end
section
set_option Elab.async false
set_option linter.all false
set_option maxRecDepth 100000
set_option maxHeartbeats 1000000
namespace DL
open PySem PySem.Spec PyProof.Rows L2 RZ DZ
def iEnuK (K : PySem.W.Frag) (ta tk : TA) : TI := fun σ H R => ta σ H fun vs H1 => tk σ H1 fun zs H2 => ∃ a xs t k, vs = [.ref a] ∧ zs = [.int k] ∧ SqX t K H2 a xs ∧ (0 ≤ k ∧ k ≤ 1000000) ∧ R (ItNc t K a k) H2
theorem pi_enuS {X : Cx} {e : Expr} {kws : List Keyword} {ta tk : TA} {p pos tpos : Pos} {elts : List Expr} {kk : Nat} (hg : Gl X "enumerate") (hm : X.mg "enumerate" = none) (ha : PA X [e] ta) (hkw : PK X kws tk)
    (hall : (backToKw pos (keywordEach kws X.env)).all (·.1.isSome) = true) (hks : (backToKw pos (keywordEach kws X.env)).filterMap (·.1) = [Str.ofString "start"])
    (hpl : ((backTo pos (starEach [e] X.env)).any (·.1) || (backToKw pos (keywordEach kws X.env)).any (·.1.isNone)) = false)
    (hs : starEach [e] X.env = [(false, eval e X.env)] := by rfl) :
    PI X (.Tuple elts kk tpos) (.Call (.Name "enumerate" p) [e] kws pos) (iEnuK X.K ta tk) := by
  refine ⟨fun pins s σ H R I h => ?_⟩
  refine wpAny_Call_Name_kw (ld_blt I hg hm boot_enumerate (callWith_typeKW hall (thn (ha.run pos pins s σ H _ I h) fun us s1 ⟨vs, H1, I1, r1, o1⟩ => thn (hkw.run pos pins s1 σ H1 _ I1 o1) fun ws s2 ⟨zs, H2, I2, r2, o2⟩ => ?_) hpl hs))
  obtain ⟨a, xs, t, k, ex, ez, q1, ⟨k0, k1⟩, q⟩ := o2
  subst ex; subst ez
  cases r1 with
  | cons ra rr =>
    cases rr
    cases ra
    cases r2 with
    | cons rb rr =>
      cases rr
      obtain ⟨tok, rfl⟩ := rb
      obtain ⟨its1, _, v1, l1⟩ := q1.at I2
      rw [hks]
      refine enum_begins_start (begins_ss t a _) v1 (by omega) (by omega) fun h' he hit hsz hk => wpAny_pyIter_enum he ?_
      have I3 : L2.Inv X pins σ H2 { s2 with heap := h' } := I2.kept (t' := s2.toks) hk
      have e0 : k + ((0 : Nat) : Int) = k := by simp
      refine ⟨s2.heap.objs.size + 1, [s2.heap.objs.size + 1, s2.heap.objs.size], _, _, H2, rfl, I3, turn_enuC t k a (s2.heap.objs.size + 1) s2.heap.objs.size, ⟨⟨.none, by rw [e0]; exact he⟩, by cases t <;> exact ⟨_, hit, rfl, rfl⟩, Nat.succ_ne_self _, Nat.ne_of_lt l1, Nat.ne_of_lt (Nat.lt_succ_of_lt l1)⟩, fun c hcm => ?_, q⟩
      have le : s2.heap.objs.size ≤ c := by rcases duo hcm with e | e <;> subst e <;> omega
      exact I2.fpOk le (I2.hok.fresh le)
theorem walks_enuS {t : Bool} {K : PySem.W.Frag} {G : Hp} {ps : List Addr} {a : Addr} {k : Int} (hk : 0 ≤ k) {xs : List V} {ds : List D} (h : SqX t K G a xs) (r : Reps K G ps ds xs) : Walks K G ps (ItNc t K a k) (enuD k.toNat ds) := fun i G' ps' M' H' x s => by
  have hs : SqX t K H' a xs := sqX_later s x h
  refine ⟨fun hl => ⟨xs, hs, by rw [enuD_len] at hl; rw [← r.len]; omega⟩, fun d e => ?_⟩
  obtain ⟨d1, e1, e3⟩ := enuD_get e
  obtain ⟨v1, g1, rv1⟩ := r.get e1
  refine ⟨⟨xs, v1, hs, g1⟩, fun y H'' z => ?_⟩
  obtain ⟨T, w1, z1, z2, z3, z4⟩ := z
  have q1 := z4 xs hs; rw [g1] at q1; cases q1
  subst z1; subst z3; subst e3
  rw [show ((k.toNat + i : Nat) : Int) = k + (i : Nat) by omega]
  exact pair_new s z2 Rep.int_of (rv1.mono x)
def enuS : List D → List D → C (List D)
  | [x], [.int k] => if 0 ≤ k ∧ k ≤ 1000000 then (match seqOf x with
    | some (_, xs) => C.pure (enuD k.toNat xs)
    | none => C.bad) else C.bad
  | _, _ => C.bad
def dEnuS (g h : Env → C (List D)) : Env → C (List D) := fun ρ => C.bind (g ρ) fun xs => C.bind (h ρ) fun ys => enuS xs ys
theorem di_enuS {X : Cx} {W : WX} {e : Expr} {kws : List Keyword} {gl hl : Env → C (List D)} {p pos tpos : Pos} {elts : List Expr} {kk : Nat} (ha : DA X W [e] gl) (hkw : DK X W kws hl) (hg : Gl X "enumerate") (hm : X.mg "enumerate" = none)
    (hall : (backToKw pos (keywordEach kws X.env)).all (·.1.isSome) = true := by rfl) (hks : (backToKw pos (keywordEach kws X.env)).filterMap (·.1) = [Str.ofString "start"] := by rfl)
    (hpl : ((backTo pos (starEach [e] X.env)).any (·.1) || (backToKw pos (keywordEach kws X.env)).any (·.1.isNone)) = false := by rfl)
    (hs : starEach [e] X.env = [(false, eval e X.env)] := by rfl) :
    DI X W (.Tuple elts kk tpos) (.Call (.Name "enumerate" p) [e] kws pos) (dEnuS gl hl) :=
  pi_imp (pi_enuS hg hm ha hkw hall hks hpl hs) fun σ H R h => tds_mono (seqL (P := fun ds G ps _ H' => ∀ J, Walks X.K G ps J ds → R J H') (k := fun ρ xs => C.bind (hl ρ) fun ys => enuS xs ys) h) fun vs H1 hh => by
    obtain ⟨ρ, G, ps, M, xs, s, sl, r, p⟩ := hh
    refine ⟨ρ, G, ps, M, s, sl, post_bind (k := fun ys => enuS xs ys) p fun ys M' G' ps' H' hM y s' p' zs rz => ?_⟩
    have rx := r.mono y.ext
    unfold enuS at p'
    split at p'
    · obtain ⟨v, e, r1⟩ := rx.one; subst e
      obtain ⟨w, e, r2⟩ := rz.one; subst e
      unfold Rep at r2; subst r2
      rename_i dx k
      by_cases hz : 0 ≤ k ∧ k ≤ 1000000
      · rw [if_pos hz] at p'
        cases q1 : seqOf dx with
        | none => rw [q1] at p'; exact p'.elim
        | some b1 =>
          rw [q1] at p'
          obtain ⟨a1, xs1, e1, g1, h1, w1⟩ := seqOf_sq s' r1 q1
          subst e1
          exact ⟨a1, xs1, _, k, rfl, rfl, h1, hz, p' G' ps' _ Stp.refl s' _ (walks_enuS hz.1 g1 w1)⟩
      · rw [if_neg hz] at p'; exact p'.elim
    · exact p'.elim
end DL
end
section
set_option Elab.async false
set_option linter.all false
namespace DL
open PySem PySem.Spec PyProof.Rows L2
section
variable {M : Sto} {QL : List D → Sto → Prop} {E : EC} {xs : List D}
theorem wp_dEnuS {g h : Env → C (List D)} {ρ : Env} : wp (dEnuS g h ρ M) QL E = wp (g ρ M) (fun xs M1 => wp (h ρ M1) (fun ys M2 => wp (enuS xs ys M2) QL E) E) E := by
  unfold dEnuS; rw [wp_bind]; congr 1; funext xs M1; rw [wp_bind]
theorem wp_enuSL : wp (enuS [.lst xs] [.int 1] M) QL E = QL (enuD 1 xs) M := by
  show wp ((if (0 : Int) ≤ 1 ∧ (1 : Int) ≤ 1000000 then C.pure (enuD 1 xs) else C.bad) M) QL E = _
  rw [if_pos (by decide)]; rfl
theorem wp_enuST : wp (enuS [.tup xs] [.int 1] M) QL E = QL (enuD 1 xs) M := by
  show wp ((if (0 : Int) ≤ 1 ∧ (1 : Int) ≤ 1000000 then C.pure (enuD 1 xs) else C.bad) M) QL E = _
  rw [if_pos (by decide)]; rfl
end
end DL
end
section
set_option Elab.async false
set_option linter.all false
set_option maxRecDepth 100000
set_option maxHeartbeats 1000000
namespace DL
open PySem PySem.Spec PyProof.Rows L2
section
variable {M : Sto} {E : EC} {Q : D → Sto → Prop} {x y ds : List D} {ρ : Env} {f o : Env → C D} {g : Env → C (List D)} {p : Nat}
theorem wp_addL : wp (dAdd (.lst x) (.lst y) M) Q E = (x.length + y.length ≤ sizeLine ∧ Q (.lst (x ++ y)) M) := by
  show wp ((if x.length + y.length ≤ sizeLine then C.pure (D.lst (x ++ y)) else C.bad) M) Q E = _
  rw [wp_if, wp_pure, wp_cbad]; by_cases z : x.length + y.length ≤ sizeLine <;> simp [z]
theorem wp_addT : wp (dAdd (.tup x) (.tup y) M) Q E = (x.length + y.length ≤ sizeLine ∧ Q (.tup (x ++ y)) M) := by
  show wp ((if x.length + y.length ≤ sizeLine then C.pure (D.tup (x ++ y)) else C.bad) M) Q E = _
  rw [wp_if, wp_pure, wp_cbad]; by_cases z : x.length + y.length ≤ sizeLine <;> simp [z]
/-- xs.append(e), xs made here -/
theorem wp_app (ho : o ρ M = .ok (.ptr p) M) (hm : M[p]? = some (.lst ds)) (h : wp (g ρ M) (fun xs M1 => ∃ z es, xs = [z] ∧ M1[p]? = some (.lst es) ∧ es.length < sizeLine ∧ Q .non (M1.set p (.lst (es ++ [z])))) E) : wp (mB "list" dApp o g ρ M) Q E := by
  unfold mB
  rw [wp_bind, ho, wp_ok, wp_bind]
  have hc : chkTy "list" (.ptr p) M = .ok () M := by
    unfold chkTy
    rw [if_pos]
    dsimp only [tyName]
    rw [hm]
  rw [hc, wp_ok, wp_bind]
  refine wp_mono h (fun xs M1 hx => ?_) fun _ _ _ _ z => z
  obtain ⟨z, es, e, h1, h2, h3⟩ := hx
  subst e
  unfold dApp
  dsimp only
  rw [h1]
  dsimp only
  rw [if_pos h2]
  exact h3
/-- a list made here, fixed from now on -/
theorem wp_frz (ho : f ρ M = .ok (.ptr p) M) (hm : M[p]? = some (.lst ds)) (q : Q (.lst ds) (M.set p (.frz (.lst ds)))) : wp (dFrz f ρ M) Q E := by
  unfold dFrz
  rw [wp_bind, ho, wp_ok]
  unfold freezeD
  dsimp only
  rw [hm]
  exact q
/-- .. once more -/
theorem wp_frz2 (ho : f ρ M = .ok (.ptr p) M) {d : D} (hm : M[p]? = some (.frz d)) (q : Q d M) : wp (dFrz f ρ M) Q E := by
  unfold dFrz
  rw [wp_bind, ho, wp_ok]
  unfold freezeD
  dsimp only
  rw [hm]
  exact q
theorem if_p {c : Prop} [Decidable c] {p q : Prop} (h : c) (z : p) : if c then p else q := by rw [if_pos h]; exact z
theorem if_n {c : Prop} [Decidable c] {p q : Prop} (h : ¬ c) (z : q) : if c then p else q := by rw [if_neg h]; exact z
end
end DL
end
section
set_option Elab.async false
set_option linter.all false
set_option maxRecDepth 100000
set_option maxHeartbeats 2000000
/-! errors: raised, caught, kept -/
namespace DL
open PySem PySem.Spec PyProof.Rows L2
section
variable {X : Cx} {pins : List (Addr × Obj)} {σ : L2.St} {H : Hp} {s sI : Shared} {a C dx : Addr} {B : Heap}
theorem xo_ok {P : Program} {w : World} {h : Heap} {oe : Obj} {vs : Array Value} (e : h.get? a = some oe) (z : Zc (.ref C) (some dx) oe) (d : oe.data = .fields vs) : ObjOk P w H h a (XO a C dx) :=
  ⟨⟨oe, vs, e, z, d⟩, ⟨oe, e⟩, fun _ _ ⟨o, v, q, r⟩ k => ⟨o, v, k o q, r⟩⟩
theorem xo_at {P : Program} {w : World} {h : Heap} (k : HOk P w H h) (e : H a = some (XO a C dx)) : ∃ (oe : Obj) (vs : Array Value), h.get? a = some oe ∧ Zc (.ref C) (some dx) oe ∧ oe.data = .fields vs := by
  have x : ObjOk P w H h a (.ext fun h => ∃ (oe : Obj) (vs : Array Value), h.get? a = some oe ∧ Zc (.ref C) (some dx) oe ∧ oe.data = .fields vs) := k a _ e
  exact x.1
/-- what flew is newer than the def -/
theorem flown_new (I : L2.Inv X pins σ H sI) (hex : X.ex = []) (hB : B.get? a = none) (nf : a ∉ frs X.stack)
    (nb : ∀ b o, sI.heap.get? b = some o → b ∉ frs X.stack → B.get? b = some o) : sI.heap.get? a = none ∧ X.s_0.heap.get? a = none := by
  have h1 : sI.heap.get? a = none := by
    cases e : sI.heap.get? a with
    | none => rfl
    | some o => have z := nb a o e nf; rw [hB] at z; cases z
  refine ⟨h1, ?_⟩
  cases e : X.s_0.heap.get? a with
  | none => rfl
  | some o =>
    obtain ⟨o', z⟩ := I.base.there a o e (by rw [hex]; exact fun q => nomatch q)
    rw [h1] at z; cases z
/-- the caught exception is told of while its suite runs, and behind it -/
theorem tracked (J : L2.Inv X pins σ H s) (pinNe : ∀ p ∈ X.pn ++ pins, p.1 ≠ a) (n0 : X.s_0.heap.get? a = none) (hn : H a = none) {oe : Obj} {vs : Array Value} (he : s.heap.get? a = some oe) (hz : Zc (.ref C) (some dx) oe) (hd : oe.data = .fields vs)
    (nL : a ≠ X.env.locals) : L2.Inv (X.suite a (X.pn ++ pins)) [] σ (upd H a (XO a C dx)) s := by
  have other : ∀ {b : Addr} {o : Obj}, X.s_0.heap.get? b = some o → b ≠ a := fun {b o} q z => by rw [z, n0] at q; cases q
  have told : ∀ {b : Addr} {u : HO}, H b = some u → b ≠ a := fun {b u} q => ne_of_none q hn
  have cne : ∀ x c, X.env.cells.lookup x = some c → c ≠ a := fun x c q z => by
    obtain ⟨v, o, ho, hc⟩ := J.cell x c q
    rw [z, he] at ho
    cases ho
    rw [hd] at hc
    cases hc
  have un := J.base
  have base : Un X.fs X.ex X.H_0 (upd H a (XO a C dx)) X.s_0.heap s.heap :=
    ⟨un.keep, un.slot, fun b o q n hx => by rw [upd_ne (other q)]; exact un.free b o q n hx, un.there, fun b xs q => by have z := un.tups b xs q; rw [upd_ne (told z)]; exact z,
      fun b o u q => by have z := un.frzs b o u q; rw [upd_ne (told z)]; exact z, fun b ps q => by
        obtain ⟨more, z⟩ := un.tbls b ps q
        exact ⟨more, by rw [upd_ne (told z)]; exact z⟩⟩
  exact ⟨J.ok.suite a _, J.os, J.bare, base, J.loc, J.cell, by show upd H a (XO a C dx) X.env.locals = none; rw [upd_ne (Ne.symm nL)]; exact J.free,
    fun x c q => by rw [upd_ne (cne x c q)]; exact J.freeC x c q, fun p hp => by
      rw [List.append_nil] at hp
      obtain ⟨p1, p2, p3, p4, p5⟩ := J.pin p hp
      exact ⟨p1, by rw [upd_ne (pinNe p hp)]; exact p2, p3, p4, p5⟩, J.hok.laidN (fun _ _ q => q) hn (xo_ok he hz hd), J.len⟩
/-- .. and the suite is left -/
theorem untracked {s' : Shared} {σ' : L2.St} {H' : Hp} (ok : X.Ok) (I : L2.Inv (X.suite a (X.pn ++ pins)) [] σ' H' s') : L2.Inv X pins σ' H' s' :=
  ⟨ok, I.os, I.bare, I.base, I.loc, I.cell, I.free, I.freeC, fun p hp => I.pin p (by rw [List.append_nil]; exact hp), I.hok, I.len⟩
end
/-! ### try, with the error kept -/
/-- a clause: its class, the slot of its name, what its suite asks -/
structure CL where
  c : Value
  i : Option Nat
  ts : TS
def CL.set (k : CL) (σ : L2.St) (a : Addr) : L2.St := match k.i with
  | some i => σ.set i (some (.ref a))
  | none => σ
def CL.gone (k : CL) (σ : L2.St) : L2.St := match k.i with
  | some i => σ.set i none
  | none => σ
def CL.ends (k : CL) (D : Ends) : Ends := { nx := fun σ H => D.nx (k.gone σ) H, rt := D.rt, bk := fun σ H => D.bk (k.gone σ) H, ct := fun σ H => D.ct (k.gone σ) H }
/-- what the clauses wish of an error of the class at C, its dict at dx -/
def wCl (K : PySem.W.Frag) (n : Nat) (Wout : WX) (D : Ends) (C dx : Addr) : List CL → L2.St → Hp → Prop
  | [], σ, H => Wout (.ref C) (some dx) σ H
  | k :: r, σ, H => ∃ b, PySem.W.exmOne K (.ref C) k.c = some b ∧ (b = true → σ.length = n → ∀ a, H a = none → k.ts (k.ends D) (k.set σ a) (upd H a (XO a C dx))) ∧ (b = false → wCl K n Wout D C dx r σ H)
def wTry (K : PySem.W.Frag) (n : Nat) (Wout : WX) (D : Ends) (l : List CL) : WX := fun cls d σ H => ∃ C dx, cls = .ref C ∧ d = some dx ∧ wCl K n Wout D C dx l σ H
inductive ClOk (X : Cx) : List ExceptHandler → List CL → Prop
  | nil : ClOk X [] []
  | plain {x : Str} {c : Value} {ts : TS} {b₀ : Stmt} {suite : List Stmt} {np p1 : Pos} {hds : List ExceptHandler} {l : List CL} (hc : Names X x c) (hsu : ∀ a pn, PSs (X.suite a pn) (b₀ :: suite) ts) (r : ClOk X hds l) :
      ClOk X (.ExceptHandler (some (.Name x np)) none (b₀ :: suite) p1 :: hds) (⟨c, none, ts⟩ :: l)
  | named {x n : Str} {i : Nat} {c : Value} {ts : TS} {b₀ : Stmt} {suite : List Stmt} {np p1 : Pos} {hds : List ExceptHandler} {l : List CL} (hi : X.N[i]? = some n) (hln : X.env.kindOf n = some .local) (hc : Names X x c) (hsu : ∀ a pn, PSs (X.suite a pn) (b₀ :: suite) ts) (r : ClOk X hds l) :
      ClOk X (.ExceptHandler (some (.Name x np)) (some n) (b₀ :: suite) p1 :: hds) (⟨c, some i, ts⟩ :: l)
section
variable {X : Cx} {body : List Stmt} {h₀ : ExceptHandler} {hds : List ExceptHandler} {l : List CL} {pos : Pos} {tb : WX → TS} {Wout : WX}
theorem ps_tryK (hs : X.stack = X.env :: X.outer) (hf : X.env.frame = some X.env.locals) (hex : X.ex = []) (hN : X.N.Nodup) (tk : Takes X Wout)
    (hb : ∀ (W : WX) (pn : List (Addr × Obj)) (xe : Value → Shared → Prop), Takes (X.tr pn xe) W → PassesOwn (model X.prog X.w) X.A X.env xe → PSs (X.tr pn xe) body (tb W))
    (hh : ClOk X (h₀ :: hds) l) : PS X (.Try body (h₀ :: hds) [] [] pos) (fun D σ H => tb (wTry X.K X.N.length Wout D l) D σ H) := by
  refine ⟨fun pins s0 σ0 H0 Dn I0 q0 => ?_⟩
  have okX := I0.ok
  have hfr : X.A.frames = some (X.env :: X.outer) := by rw [okX.frames, hs]
  let air : Value → Shared → Prop := fun e s₁ => wpAny (model X.prog X.w) X.A (noteFrame e X.env) (fun _ s₂ => wpAny (model X.prog X.w) X.A (setFlight e none) (fun _ s₃ => wpAny (model X.prog X.w) X.A (handleBy e X.env (h₀ :: hds)) (SP X pins Dn) X.xe s₃) X.xe s₂) X.xe s₁
  refine wpAny_Try_except (wpAny_mono ((hb (wTry X.K X.N.length Wout Dn l) (X.pn ++ pins) air (fun u s1 fly => ?_) PassesOwn.looking).run [] s0 σ0 H0 Dn (I0.toTry _) q0) (fun fl s1 hfl => ?_) (fun _ _ z => z))
  · obtain ⟨a, B, sI, pinsB, σ1, H1, cls, d, rfl, JB, nb, up, sky, na, os, ag, C, dx, rfl, rfl, wish⟩ := fly
    have J : L2.Inv X pins σ1 H1 sI := JB.ofTry okX
    have skyE : Sky B (X.env :: X.outer) a (Zc (.ref C) (some dx)) X.env.locals s1.heap := hs ▸ sky
    show wpAny (model X.prog X.w) X.A (noteFrame (.ref a) X.env) _ _ _
    refine Sky.land Zc.steady hfr hf skyE fun hA flA upA => ?_
    have notFrame : ∀ {h : Heap}, HandSPX.FlyingZ B (X.env :: X.outer) a (Zc (.ref C) (some dx)) h → a ∉ frs (X.env :: X.outer) := fun {h} f hm => by
      obtain ⟨oe, vs, e1, _, e3⟩ := f.there
      obtain ⟨_, o', e', hnf⟩ := f.2.2.1.mem hm
      rw [e1] at e'
      cases e'
      exact hnf _ e3
    have nfr := notFrame flA
    have nfrX : a ∉ frs X.stack := by rw [hs]; exact nfr
    obtain ⟨newI, new0⟩ := flown_new J hex flA.2.1 nfrX nb
    have nL : a ≠ X.env.locals := fun z => nfr (List.mem_filterMap.mpr ⟨X.env, List.mem_cons_self, by rw [hf, z]⟩)
    have pinNe : ∀ p ∈ X.pn ++ pins, p.1 ≠ a := fun p hp z => by
      have q := (J.pin p hp).1
      rw [z, newI] at q
      cases q
    have landed : ∀ {h : Heap}, HandSPX.FlyingZ B (X.env :: X.outer) a (Zc (.ref C) (some dx)) h → s1.heap.UpToSlots h → L2.Inv X pins σ1 H1 { s1 with heap := h } := fun {h} f u => J.landed nb f.1 (up.trans u) os ag
    have known : ∀ {h : Heap}, HandSPX.FlyingZ B (X.env :: X.outer) a (Zc (.ref C) (some dx)) h → s1.heap.UpToSlots h → L2.Inv (X.suite a (X.pn ++ pins)) [] σ1 (upd H1 a (XO a C dx)) { s1 with heap := h } := fun {h} f u => by
      obtain ⟨oe, vs, e1, e2, e3⟩ := f.there
      exact tracked (landed f u) pinNe new0 na e1 e2 e3 nL
    have SA := known flA upA
    obtain ⟨oeA, vsA, eA1, eA2, eA3⟩ := flA.there
    -- a clause's test
    have test : ∀ {x : Str} {c : Value} {np : Pos} {Q E : Value → Shared → Prop}, Names X x c → Q c { s1 with heap := hA } → wpAny (model X.prog X.w) (X.A.mark (some (.ref a))) (eval (.Name x np) X.env) Q E { s1 with heap := hA } := fun {x c np Q E} hc q => by
      obtain ⟨hg, hdb, hm | ⟨hm, hv, hn⟩⟩ := hc
      · exact ld_glob (X := X.suite a (X.pn ++ pins)) SA hg hm q hdb
      · exact ld_blt (X := X.suite a (X.pn ++ pins)) SA hg hm hv q hn hdb
    have LT : PySem.W.Looks (model X.prog X.w) hA (typeOf (.ref a)) (.ref C) := fun A Q E s k q => wpAny_typeOf_ref (k _ _ eA1) (by rw [eA2.1]; exact q)
    -- a suite, from where the error has landed once more
    have suite : ∀ {b₀ : Stmt} {su : List Stmt} {k : CL} {Q : Flow → Shared → Prop} {E' : Value → Shared → Prop} {σ2 : L2.St} {s2 : Shared}, (∀ a pn, PSs (X.suite a pn) (b₀ :: su) k.ts) → L2.Inv (X.suite a (X.pn ++ pins)) [] σ2 (upd H1 a (XO a C dx)) s2 → k.ts (k.ends Dn) σ2 (upd H1 a (XO a C dx)) →
        (∀ f s3, SP (X.suite a (X.pn ++ pins)) [] (k.ends Dn) f s3 → Q f s3) → wpAny (model X.prog X.w) (X.A.mark (some (.ref a))) (execs (b₀ :: su) X.env) Q E' s2 := fun {b₀ su k Q E' σ2 s2} hsu S q hQ =>
      wpAny_mono ((hsu a (X.pn ++ pins)).run [] s2 σ2 _ _ S q) (fun f s3 z => hQ f s3 z) fun _ _ z => (show False from z).elim
    have go : ∀ {hs' : List ExceptHandler} {l' : List CL}, ClOk X hs' l' → wCl X.K X.N.length Wout Dn C dx l' σ1 H1 → wpAny (model X.prog X.w) X.A (handleBy (.ref a) X.env hs') (SP X pins Dn) X.xe { s1 with heap := hA } := by
      intro hs' l' hk
      induction hk with
      | nil =>
        intro w
        have out : wpAny (model X.prog X.w) X.A (setFlight (.ref a) X.env.frame) (fun _ s4 => wpAny (model X.prog X.w) X.A (throw (.ref a) : Sem Flow) (SP X pins Dn) X.xe s4) X.xe { s1 with heap := hA } := by
          rw [hf]
          exact HandSPX.setFlight_upZ flA fun h4 hh4 up4 => wpAny_throw (tk _ _ ⟨a, B, sI, pins, σ1, H1, .ref C, some dx, rfl, J, nb, (up.trans upA).trans up4, .inr (.inr (by rw [hs]; exact hh4)), na, os, ag, w⟩)
        obtain ⟨_, _, _, oe, vs, T, oT, ts', he, hz, hd, h1, hr⟩ := id flA
        refine wpAny_handleBy_nil ?_
        unfold PySem.passOn
        refine wpAny_bind (wpAny_field he hd h1 ?_)
        rw [if_neg (show ¬ ((Value.ref T == Value.none) = true) from by simp)]
        first
          | exact wpAny_bind (wpAny_pure (wpAny_bind out))
          | exact wpAny_bind out
      | @plain x c ts b₀ su np p1 hds2 l2 hc hsu r ih =>
        intro w
        obtain ⟨b, hb1, hyes, hno⟩ := w
        refine wpAny_handleBy_cons (codeAny_handlers_test ?_) (by intro q; cases q)
        refine test hc ((PySem.W.exm_one (M := model X.prog X.w) SA.kIn LT hb1).here ?_)
        cases b with
        | false => exact ih (hno rfl)
        | true =>
          refine codeAny_handlers_suite (HandSPX.lands_againZ flA fun h4 fl4 up4 => ?_)
          refine suite (k := ⟨c, none, ts⟩) hsu (known fl4 (upA.trans up4)) (hyes rfl J.len a na) fun f s6 z => ?_
          cases f with
          | next => obtain ⟨σ6, H6, S6, q6⟩ := z; exact ⟨_, _, untracked okX S6, q6⟩
          | brk => obtain ⟨σ6, H6, S6, q6⟩ := z; exact ⟨_, _, untracked okX S6, q6⟩
          | cont => obtain ⟨σ6, H6, S6, q6⟩ := z; exact ⟨_, _, untracked okX S6, q6⟩
          | ret u => obtain ⟨v6, σ6, H6, S6, r6, q6⟩ := z; exact ⟨_, _, _, untracked okX S6, r6, q6⟩
      | @named x n i c ts b₀ su np p1 hds2 l2 hi hln hc hsu r ih =>
        intro w
        obtain ⟨b, hb1, hyes, hno⟩ := w
        refine wpAny_handleBy_cons (codeAny_handlers_test ?_) (by intro q; cases q)
        refine test hc ((PySem.W.exm_one (M := model X.prog X.w) SA.kIn LT hb1).here ?_)
        cases b with
        | false => exact ih (hno rfl)
        | true =>
          refine codeAny_handlers_suite_as (HandSPX.lands_againZ flA fun h4 fl4 up4 => ?_)
          refine store_ok (X := X.suite a (X.pn ++ pins)) (v := .ref a) (known fl4 (upA.trans up4)) hN hi (.inl hln) rfl (fun s5 S5 => ?_) (.inr hln)
          refine suite (k := ⟨c, some i, ts⟩) hsu S5 (hyes rfl J.len a na) fun f s6 z => ?_
          have away : ∀ {σ6 : L2.St} {H6 : Hp} {Q : Shared → Prop}, L2.Inv (X.suite a (X.pn ++ pins)) [] σ6 H6 s6 → (∀ s7, L2.Inv X pins (σ6.set i none) H6 s7 → Q s7) →
              wpAny (model X.prog X.w) X.A (do bindName X.env n .none; unbindBehindTheSuite X.env n p1) (fun _ s7 => Q s7) X.xe s6 := fun {σ6 H6 Q} S6 hq => gone_ok (untracked okX S6) hN hi hln hq
          cases f with
          | next => obtain ⟨σ6, H6, S6, q6⟩ := z; exact away S6 fun s7 J7 => ⟨_, _, J7, q6⟩
          | brk => obtain ⟨σ6, H6, S6, q6⟩ := z; exact away S6 fun s7 J7 => ⟨_, _, J7, q6⟩
          | cont => obtain ⟨σ6, H6, S6, q6⟩ := z; exact away S6 fun s7 J7 => ⟨_, _, J7, q6⟩
          | ret u => obtain ⟨v6, σ6, H6, S6, r6, q6⟩ := z; exact away S6 fun s7 J7 => ⟨_, _, _, J7, r6, q6⟩
    exact go hh wish
  · cases fl with
    | next => obtain ⟨σ1, H1, J1, q⟩ := hfl; exact wpAny_execs_nil ⟨σ1, H1, J1.ofTry okX, q⟩
    | brk => obtain ⟨σ1, H1, J1, q⟩ := hfl; exact ⟨σ1, H1, J1.ofTry okX, q⟩
    | cont => obtain ⟨σ1, H1, J1, q⟩ := hfl; exact ⟨σ1, H1, J1.ofTry okX, q⟩
    | ret u => obtain ⟨v, σ1, H1, J1, r, q⟩ := hfl; exact ⟨v, σ1, H1, J1.ofTry okX, r, q⟩
end
end DL
end
section
set_option Elab.async false
set_option linter.all false
set_option maxRecDepth 100000
set_option maxHeartbeats 2000000
namespace DL
open PySem PySem.Spec PyProof.Rows L2
theorem Reps.rev' {K : PySem.W.Frag} {G : Hp} {p : List Addr} : ∀ {ds : List D} {vs : List V}, Reps K G p ds vs → Reps K G p ds.reverse vs.reverse
  | [], _, h => by unfold Reps at h; subst h; exact Reps.nil
  | d :: ds, _, h => by
    obtain ⟨v, r, e, a, b⟩ := h.uncons
    subst e
    rw [List.reverse_cons, List.reverse_cons]
    exact (Reps.rev' b).append (Reps.cons a Reps.nil)
/-! ### raise -/
/-- __init__ of an error with these fields, called for the object at a -/
def spInit (C : Addr) (fs : List Str) : Sp := fun vs H Q _ => ∃ (a : Addr) (ws : List V), vs = .ref a :: ws ∧ ws.length = fs.length ∧ H a = some (exo a C none) ∧ ∀ d, H d = none → d ≠ a → Q .non (upd (upd H d (exd d (fs.zip ws).reverse)) a (exo a C (some d)))
/-- an own error class that can be made -/
structure ErAt (P : Program) (w : World) (K : PySem.W.Frag) (mg : Str → Option Value) (base : Heap) (k : Nat) (x : Str) (fs : List Str) : Prop where
  ex : ∃ C fI fd ps, clsAt K x = some C ∧ mg x = some (.ref C) ∧ OexC K C ∧ PySem.W.findIn K (.ref C) "__init__" = some (some (.ref fI)) ∧ PySem.W.typeIn K (.ref fI) = some (.type "function") ∧ FnOk P w K mg base CX0 k fI fd ps (spInit C fs) ∧ Binds K fd ps []
section
variable {P : Program} {w : World} {K : PySem.W.Frag} {mg : Str → Option Value} {base : Heap} {qual f g : Str} {st : Stmt} {fI C : Addr} {fd : FuncData}
theorem init1 (F : Fun K "__init__" qual st fI fd) (S : FnScope ["self", f] ["self", f] (defScope st)) (T : OexC K C) (hno : PySem.W.findIn K (.ref C) f = some none)
    (hb : ∀ (cdv : Value) (A : Around) (outer : List PySem.Env) (s : Shared) (H : Hp) (E : XK), PSs (cxOf CX0 P w K mg base ["self", f] qual (defScope st) fI cdv A outer s H E).nox (defBody st) (tOst K f (tVar 0) (tVar 1))) : FnOk P w K mg base CX0 1 fI fd ["self", f] (spInit C [f]) :=
  F.ok S (fun vs H Q E h => by obtain ⟨a, ws, rfl, hl, _⟩ := h; simp at hl ⊢; exact hl) fun cdv A outer s H vs Q E hr h => by
    obtain ⟨a, ws, rfl, hl, ha, q⟩ := h
    match ws, hl with
    | [v], _ =>
      refine ⟨_, hb cdv A outer s H E, ?_⟩
      refine ⟨v, rfl, .ref a, rfl, a, C, rfl, T, hno, .inl ⟨ha, fun dx h1 h2 => ?_⟩⟩
      exact q dx h1 h2
theorem init2 (F : Fun K "__init__" qual st fI fd) (S : FnScope ["self", f, g] ["self", f, g] (defScope st)) (T : OexC K C) (hf : PySem.W.findIn K (.ref C) f = some none) (hg : PySem.W.findIn K (.ref C) g = some none)
    (hb : ∀ (cdv : Value) (A : Around) (outer : List PySem.Env) (s : Shared) (H : Hp) (E : XK), PSs (cxOf CX0 P w K mg base ["self", f, g] qual (defScope st) fI cdv A outer s H E).nox (defBody st) (fun D σ H => tOst K f (tVar 0) (tVar 1) { D with nx := tOst K g (tVar 0) (tVar 2) D } σ H)) :
    FnOk P w K mg base CX0 1 fI fd ["self", f, g] (spInit C [f, g]) :=
  F.ok S (fun vs H Q E h => by obtain ⟨a, ws, rfl, hl, _⟩ := h; simp at hl ⊢; exact hl) fun cdv A outer s H vs Q E hr h => by
    obtain ⟨a, ws, rfl, hl, ha, q⟩ := h
    match ws, hl with
    | [v, u], _ =>
      refine ⟨_, hb cdv A outer s H E, ?_⟩
      refine ⟨v, rfl, .ref a, rfl, a, C, rfl, T, hf, .inl ⟨ha, fun dx h1 h2 => ?_⟩⟩
      refine ⟨u, rfl, .ref a, rfl, a, C, rfl, T, hg, .inr ⟨dx, [(f, v)], upd_same, by rw [upd_ne h2]; exact upd_same, by simp, ?_⟩⟩
      have e : upd (upd (upd H dx (exd dx [(f, v)])) a (exo a C (some dx))) dx (exd dx [(g, u), (f, v)]) = upd (upd H dx (exd dx [(g, u), (f, v)])) a (exo a C (some dx)) := by
        funext b
        by_cases z : b = dx
        · subst z; rw [upd_same, upd_ne h2, upd_same]
        · by_cases z2 : b = a
          · subst z2; rw [upd_ne z, upd_same, upd_same]
          · rw [upd_ne z, upd_ne z2, upd_ne z, upd_ne z2, upd_ne z]
      show Q .non _
      rw [e]
      exact q dx h1 h2
end
def sRaise (x : Str) (fs : List Str) (g : Env → C (List D)) : SF := lift g fun ρ ds => if ds.length = fs.length then C.pure (.ex x fs.reverse ds.reverse ρ) else C.bad
section
variable {X : Cx} {W : WX} {k : Nat} {x : Str} {fs : List Str} {p pos pos2 : Pos} {e : Expr} {es : List Expr} {g : Env → C (List D)}
theorem ds_raise (hE : ErAt X.prog X.w X.K X.mg X.base k x fs) (hr : Room (k + 1) X.A) (hc : X.calm = true) (tk : Takes X W) (hk : fs.length ≤ 900) (ha : DA X W (e :: es) g) (hg : Gl X x) (hdb : (x == ("__debug__" : Str)) = false := by decide)
    (he : starEach (e :: es) X.env = (false, eval e X.env) :: starEach es X.env := by rfl) (hpl : (backTo pos (starEach es X.env)).any (·.1) = false := by rfl) : DS X W (.Raise (some (.Call (.Name x p) (e :: es) [] pos)) none pos2) (sRaise x fs g) := by
  obtain ⟨C, fI, fd, ps, hC, hm, T, iC, tI, F, hb⟩ := hE.ex
  refine ps_imp (ps_raise hc tk (pmk_oex T iC tI F hr hb .nil pass0 hg hm ha hdb he hpl)) fun Dn σ H h => ?_
  refine lift_post h fun ρ ds G sps M H1 s sl q vs r => ?_
  by_cases hl : ds.length = fs.length
  · rw [if_pos hl] at q
    have hv : vs.length = fs.length := by rw [← r.len]; exact hl
    refine ⟨by omega, fun a na => ?_⟩
    rw [List.append_nil]
    refine ⟨a, vs, rfl, hv, upd_same, fun d hd hda => ⟨rfl, d, (fs.zip vs).reverse, upd_same, by rw [upd_ne hda]; exact upd_same, by rw [upd_ne hda] at hd; exact hd, ?_⟩⟩
    rw [upd_ne hda] at hd
    have eH : upd (del (upd (upd (upd H1 a (exo a C none)) d (exd d (fs.zip vs).reverse)) a (exo a C (some d))) a) d (.xd (fs.zip vs).reverse) = upd H1 d (.xd (fs.zip vs).reverse) := by
      funext b
      by_cases z : b = d
      · subst z; rw [upd_same, upd_same]
      · rw [upd_ne z, upd_ne z]
        by_cases z2 : b = a
        · subst z2; rw [del_same]; exact na.symm
        · rw [del_ne z2, upd_ne z2, upd_ne z, upd_ne z2]
    rw [eH]
    have st := s.stp (o := .xd (fs.zip vs).reverse) hd
    refine pst_ok (M := M) (Post.ext st q) (s.new hd) σ C d hC (sl.mono st.ext) ⟨(fs.zip vs).reverse, upd_same, ?_, ?_⟩
    · rw [List.map_reverse, List.map_fst_zip (by omega)]
    · rw [List.map_reverse, List.map_snd_zip (by omega)]
      exact (r.mono st.ext).rev'
  · rw [if_neg hl] at q
    exact q.elim
end
end DL
end
section
set_option Elab.async false
set_option linter.all false
set_option maxRecDepth 100000
set_option maxHeartbeats 2000000
namespace DL
open PySem PySem.Spec PyProof.Rows L2
/-! ### try over data -/
/-- a clause: the class it names, the slot of the error's name, its suite -/
abbrev DCl := Str × Option Nat × SF
def clr (i : Option Nat) (ρ : Env) : Env := match i with
  | some i => ρ.set i none
  | none => ρ
def put (i : Option Nat) (ρ : Env) (d : D) : Env := match i with
  | some i => ρ.set i (some d)
  | none => ρ
def aft (i : Option Nat) : Res Out → Res Out
  | .ok (.nx ρ) M => .ok (.nx (clr i ρ)) M
  | .ok (.bk ρ) M => .ok (.bk (clr i ρ)) M
  | .ok (.ct ρ) M => .ok (.ct (clr i ρ)) M
  | .ok (.rt d) M => .ok (.rt d) M
  | _ => .bad
def hnd (ex : Str → Str → Option Bool) : List DCl → Str → List Str → List D → Env → C Out
  | [], x, fn, ds, ρ => C.pure (.ex x fn ds ρ)
  | (y, i, fs) :: r, x, fn, ds, ρ => match ex x y with
    | some true => fun M => aft i (fs (put i ρ (.exc x fn ds)) M)
    | some false => hnd ex r x fn ds ρ
    | none => C.bad
def sTry (ex : Str → Str → Option Bool) (fb : SF) (l : List DCl) : SF := fun ρ M => match fb ρ M with
  | .ok (.ex x fn ds ρ') M' => hnd ex l x fn ds ρ' M'
  | r => r
/-- which errors a clause takes -/
def ExT (K : PySem.W.Frag) (ex : Str → Str → Option Bool) : Prop := ∀ x y b C D, ex x y = some b → clsAt K x = some C → clsAt K y = some D → PySem.W.exmOne K (.ref C) (.ref D) = some b
inductive ClD (X : Cx) : List ExceptHandler → List DCl → Prop
  | nil : ClD X [] []
  | plain {x : Str} {C : Addr} {fs : SF} {b₀ : Stmt} {suite : List Stmt} {np p1 : Pos} {hds : List ExceptHandler} {l : List DCl} (hC : clsAt X.K x = some C) (hc : Names X x (.ref C)) (hsu : ∀ a pn, DSs (X.suite a pn) W0 (b₀ :: suite) fs) (r : ClD X hds l) :
      ClD X (.ExceptHandler (some (.Name x np)) none (b₀ :: suite) p1 :: hds) ((x, none, fs) :: l)
  | named {x n : Str} {i : Nat} {C : Addr} {fs : SF} {b₀ : Stmt} {suite : List Stmt} {np p1 : Pos} {hds : List ExceptHandler} {l : List DCl} (hi : X.N[i]? = some n) (hln : X.env.kindOf n = some .local) (hC : clsAt X.K x = some C) (hc : Names X x (.ref C))
      (hsu : ∀ a pn, DSs (X.suite a pn) W0 (b₀ :: suite) fs) (r : ClD X hds l) : ClD X (.ExceptHandler (some (.Name x np)) (some n) (b₀ :: suite) p1 :: hds) ((x, some i, fs) :: l)
def toCL (K : PySem.W.Frag) (c : DCl) : CL := ⟨.ref ((clsAt K c.1).getD 0), c.2.1, TSD K W0 c.2.2⟩
theorem ClD.ok {X : Cx} {hds : List ExceptHandler} {l : List DCl} (h : ClD X hds l) : ClOk X hds (l.map (toCL X.K)) := by
  induction h with
  | nil => exact .nil
  | @plain x C fs b₀ su np p1 hds l hC hc hsu r ih =>
    rw [List.map_cons, show toCL X.K (x, none, fs) = ⟨.ref C, none, TSD X.K W0 fs⟩ by unfold toCL; rw [hC]; rfl]
    exact .plain hc hsu ih
  | @named x n i C fs b₀ su np p1 hds l hi hln hC hc hsu r ih =>
    rw [List.map_cons, show toCL X.K (x, some i, fs) = ⟨.ref C, some i, TSD X.K W0 fs⟩ by unfold toCL; rw [hC]; rfl]
    exact .named hi hln hc hsu ih
theorem ClD.cls {X : Cx} {hds : List ExceptHandler} {l : List DCl} (h : ClD X hds l) : ∀ c ∈ l, (∃ C, clsAt X.K c.1 = some C) ∧ ∀ i, c.2.1 = some i → i < X.N.length := by
  induction h with
  | nil => intro c hc; cases hc
  | plain hC _ _ _ ih =>
    intro c hc
    rcases List.mem_cons.mp hc with e | e
    · subst e; exact ⟨⟨_, hC⟩, fun i h => by cases h⟩
    · exact ih c e
  | named hi _ hC _ _ _ ih =>
    intro c hc
    rcases List.mem_cons.mp hc with e | e
    · subst e; exact ⟨⟨_, hC⟩, fun i h => by cases h; exact (List.getElem?_eq_some_iff.mp hi).1⟩
    · exact ih c e
section
variable {K : PySem.W.Frag} {G : Hp} {ps : List Addr} {M : Sto} {H : Hp} {ρ : Env} {σ : L2.St}
theorem Slots.clear (i : Nat) (h : Slots K G ps ρ σ) : Slots K G ps (ρ.set i none) (σ.set i none) := fun j d e => by
  by_cases z : j = i
  · subst z
    by_cases hl : j < ρ.length
    · rw [List.getElem?_set_self hl] at e; cases e
    · rw [List.getElem?_eq_none (by rw [List.length_set]; omega)] at e; cases e
  · rw [List.getElem?_set_ne (Ne.symm z)] at e ⊢
    exact h j d e
theorem Slots.gone {k : CL} {i : Option Nat} (hk : k.i = i) (h : Slots K G ps ρ σ) : Slots K G ps (clr i ρ) (k.gone σ) := by
  subst hk
  unfold clr CL.gone
  cases k.i with
  | none => exact h
  | some i => exact h.clear i
theorem hnd_wish {ex : Str → Str → Option Bool} {W : WX} {Dn : Ends} {x : Str} {fn : List Str} {ds : List D} {C dx : Addr} {n : Nat} (T : ExT K ex) (hC : clsAt K x = some C) (s : Sto0 K G ps M H) (sl : Slots K G ps ρ σ) (er : ErrAt K G ps dx fn ds) :
    ∀ {l : List DCl}, (∀ c ∈ l, (∃ C, clsAt K c.1 = some C) ∧ ∀ i, c.2.1 = some i → i < n) → PSt K (PO' K W Dn) G ps H (hnd ex l x fn ds ρ M) → wCl K n W Dn C dx (l.map (toCL K)) σ H
  | [], _, p => pst_ok p s σ C dx hC sl er
  | (y, i, fs) :: r, hl, p => by
    obtain ⟨⟨D', hD⟩, hlt⟩ := hl _ List.mem_cons_self
    have hlr : ∀ c ∈ r, (∃ C, clsAt K c.1 = some C) ∧ ∀ i, c.2.1 = some i → i < n := fun c hc => hl c (List.mem_cons_of_mem _ hc)
    have ek : toCL K (y, i, fs) = ⟨.ref D', i, TSD K W0 fs⟩ := by unfold toCL; rw [hD]; rfl
    rw [List.map_cons, ek]
    unfold hnd at p
    cases q : ex x y with
    | none => rw [q] at p; exact p.elim
    | some b =>
      rw [q] at p
      refine ⟨b, T x y b C D' q hC hD, fun hb hlen a na => ?_, fun hb => ?_⟩
      · subst hb
        have st := s.stp (o := XO a C dx) na
        have s2 := s.new (o := XO a C dx) na
        obtain ⟨kvs, e1, e2, e3⟩ := er
        have nd : dx ≠ a := ne_of_none (s.sub _ _ e1) na
        have hr : Rep K (upd G a (XO a C dx)) ps (.exc x fn ds) (.ref a) := by
          unfold Rep
          exact ⟨a, C, dx, kvs, rfl, hC, upd_same, by rw [upd_ne nd]; exact e1, e2, e3.mono st.ext⟩
        refine ⟨put i ρ (.exc x fn ds), _, ps, M, s2, ?_, ?_⟩
        · show Slots K _ ps (put i ρ (.exc x fn ds)) (CL.set ⟨.ref D', i, TSD K W0 fs⟩ σ a)
          unfold put CL.set
          cases i with
          | none => exact sl.mono st.ext
          | some j => exact (sl.mono st.ext).set hr (by rw [hlen]; exact hlt j rfl)
        · replace p : PSt K (PO' K W Dn) G ps H (aft i (fs (put i ρ (.exc x fn ds)) M)) := p
          replace p := Post.ext st p
          cases z : fs (put i ρ (.exc x fn ds)) M with
          | ok o M2 =>
            rw [z] at p
            cases o with
            | nx ρ2 => exact fun G' ps' H' st' s' σ2 sl2 => p G' ps' H' st' s' _ (Slots.gone (k := ⟨.ref D', i, TSD K W0 fs⟩) rfl sl2)
            | bk ρ2 => exact fun G' ps' H' st' s' σ2 sl2 => p G' ps' H' st' s' _ (Slots.gone (k := ⟨.ref D', i, TSD K W0 fs⟩) rfl sl2)
            | ct ρ2 => exact fun G' ps' H' st' s' σ2 sl2 => p G' ps' H' st' s' _ (Slots.gone (k := ⟨.ref D', i, TSD K W0 fs⟩) rfl sl2)
            | rt d => exact p
            | ex c fn' es ρ2 => exact p.elim
          | err c fn' es M2 => rw [z] at p; exact p.elim
          | bad => rw [z] at p; exact p.elim
      · subst hb
        exact hnd_wish T hC s sl er hlr p
end
section
variable {X : Cx} {W : WX} {body : List Stmt} {h₀ : ExceptHandler} {hds : List ExceptHandler} {l : List DCl} {pos : Pos} {fb : SF} {ex : Str → Str → Option Bool}
theorem ds_try (T : ExT X.K ex) (hs : X.stack = X.env :: X.outer) (hf : X.env.frame = some X.env.locals) (hex : X.ex = []) (hN : X.N.Nodup) (tk : Takes X W)
    (hb : ∀ (W' : WX) (pn : List (Addr × Obj)) (xe : Value → Shared → Prop), Takes (X.tr pn xe) W' → PassesOwn (model X.prog X.w) X.A X.env xe → DSs (X.tr pn xe) W' body fb) (hh : ClD X (h₀ :: hds) l) : DS X W (.Try body (h₀ :: hds) [] [] pos) (sTry ex fb l) := by
  refine ps_imp (ps_tryK (tb := fun W' => TSD X.K W' fb) hs hf hex hN tk hb hh.ok) fun Dn σ H h => ?_
  obtain ⟨ρ, G, ps, M, s, sl, p⟩ := h
  refine ⟨ρ, G, ps, M, s, sl, ?_⟩
  unfold sTry at p
  cases z : fb ρ M with
  | ok o M1 =>
    rw [z] at p
    cases o with
    | nx ρ1 => exact p
    | bk ρ1 => exact p
    | ct ρ1 => exact p
    | rt d => exact p
    | ex x fn ds ρ1 =>
      intro G' ps' H' st s' σ1 C dx hC sl1 er
      exact ⟨C, dx, rfl, rfl, hnd_wish T hC s' sl1 er hh.cls (Post.ext st p)⟩
  | err c fn ds M1 => rw [z] at p; exact p
  | bad => rw [z] at p; exact p
end
end DL
end
section
set_option Elab.async false
set_option linter.all false
set_option maxRecDepth 100000
set_option maxHeartbeats 2000000
namespace DL
open PySem PySem.Spec PyProof.Rows L2
/-! ### what the written part says of own classes -/
/-- of an own error class -/
structure ErrC (K : PySem.W.Frag) (C : Addr) : Prop where
  hcl : (PySem.W.clsIn K C).isSome = true
  hga : PySem.W.findIn K (.ref C) "__getattribute__" = some (some (.builtin "BaseException.__getattribute__"))
  hgt : PySem.W.findIn K (.ref C) "__getattr__" = some none
  hsub : PySem.W.subIn K (.ref C) (.type "BaseException") = some true
  ha : PySem.W.findIn K (.ref C) "__class__" = some (some (.builtin "object.__class__"))
  hn : PySem.W.specialIn K (.builtin "object.__class__") "__get__" = some (some (.builtin "getset_descriptor.__get__"))
  htk : PySem.W.takesIn K (.builtin "object.__class__") = some true
  hm : PySem.W.mroIn K C (.type "object") = some true
  hd : PySem.W.hasDictIn K C = true
/-- of another own class -/
structure InC (K : PySem.W.Frag) (C : Addr) : Prop where
  cl : Cls K C
  ha : PySem.W.findIn K (.ref C) "__class__" = some (some (.builtin "object.__class__"))
  hn : PySem.W.specialIn K (.builtin "object.__class__") "__get__" = some (some (.builtin "getset_descriptor.__get__"))
  htk : PySem.W.takesIn K (.builtin "object.__class__") = some true
  hm : PySem.W.mroIn K C (.type "object") = some true
def btNames : List String := ["NoneType", "bool", "int", "str", "list", "tuple", "dict"]
/-- the own classes' names: errors, others; fields; who is whose -/
structure KT where
  errs : List Str
  inss : List Str
  flds : List Str
  kit : Str → Str → Option Bool
structure KTok (K : PySem.W.Frag) (T : KT) : Prop where
  err : ∀ x ∈ T.errs, ∀ C, clsAt K x = some C → ErrC K C
  ins : ∀ x ∈ T.inss, ∀ C, clsAt K x = some C → InC K C
  nof : ∀ x ∈ T.errs ++ T.inss, ∀ f ∈ T.flds, ∀ C, clsAt K x = some C → PySem.W.findIn K (.ref C) f = some none
  kit : ∀ x y b C D, T.kit x y = some b → clsAt K x = some C → clsAt K y = some D → PySem.W.kitOne K (.ref C) (.ref D) = some b
  bt : ∀ n ∈ btNames, ∀ y ∈ T.errs ++ T.inss, ∀ D, clsAt K y = some D → PySem.W.kitOne K (.type n) (.ref D) = some false
/-! ### isinstance -/
/-- what isinstance asks of a value of the type t -/
def KitOf (X : Cx) (x : V) (t : Value) (H : Hp) : Prop := ∀ (pins : List (Addr × Obj)) (s : Shared) (σ : L2.St) (u : Value), L2.Inv X pins σ H s → RelV x u → ∃ P : Heap → Prop, PySem.W.KitX X.K u t P ∧ P s.heap ∧ u ≠ .builtin "__main__.__loader__#opaque"
section
variable {X : Cx} {x : V} {t : Value} {H : Hp} {a C dx : Addr}
theorem kit_ty0 (h : TyX X.K H x t) : KitOf X x t H := fun pins s σ u I r => kit_of I r h
theorem xd_at {P : Program} {w : World} {h : Heap} {fs : List (Str × V)} (k : HOk P w H h) (e : H dx = some (.xd fs)) : ∃ (mA : Str → Option Value), h.Ns1 dx mA ∧ ∀ f, RelO (fs.lookup f) (mA f) := by
  have x : ObjOk P w H h dx (.xd fs) := k dx _ e
  exact x
theorem inst_xo {P : Program} {w : World} {h : Heap} {fs : List (Str × V)} (k : HOk P w H h) (e : H a = some (XO a C dx)) (ed : H dx = some (.xd fs)) :
    ∃ (oe od : Obj), PySem.W.InstAt h a oe C (some od) ∧ (∀ (f : Str) (v : V), fs.lookup f = some v → ∃ u, PySem.W.lookIn f od = some (some u) ∧ RelV v u) := by
  obtain ⟨oe, vs, h1, h2, h3⟩ := xo_at k e
  obtain ⟨mA, hns, hr⟩ := xd_at k ed
  obtain ⟨od, ho, hl⟩ := lookIn_ns hns
  refine ⟨oe, od, ⟨h1, h2.1, by unfold PySem.W.notCls; rw [h3] <;> rfl, by rw [h2.2]; exact ho⟩, fun f v q => ?_⟩
  obtain ⟨u, hu, ru⟩ := RelO.some_of (v := v) (o := mA f) (by rw [← q]; exact hr f)
  exact ⟨u, by rw [hl, hu], ru⟩
theorem kit_xo {fs : List (Str × V)} (c : ErrC X.K C) (e : H a = some (XO a C dx)) (ed : H dx = some (.xd fs)) : KitOf X (.ref a) (.ref C) H := fun pins s σ u I r => by
  cases (show u = Value.ref a from r)
  obtain ⟨oe, od, J, _⟩ := inst_xo I.hok e ed
  exact ⟨_, PySem.W.kitx_exc c.hcl c.hga c.hgt c.hsub c.ha c.hn c.htk c.hm, J, fun z => nomatch z⟩
def rIsiZ (X : Cx) : List V → Hp → VK → Prop := fun xs H Q => ∃ (x : V) (t : Value) (c : V) (b : Bool), xs = [x, c] ∧ KitOf X x t H ∧
  ((∃ u, ClsV c u ∧ PySem.W.kitOne X.K t u = some b) ∨ (∃ tp cs us, c = .ref tp ∧ H tp = some (.tup cs) ∧ Paired ClsV cs us ∧ PySem.W.kitAny X.K t us = some b)) ∧ Q (.bl b) H
theorem call_isiZ : CallR X (.builtin "isinstance") (rIsiZ X) := fun pins s σ H xs us Q I r h => by
  obtain ⟨x, t, c, b, rfl, z, hc, q⟩ := h
  obtain ⟨u1, u2, rfl, r1, r2⟩ := vals2 r
  obtain ⟨P, Z, p, hx⟩ := z pins s σ u1 I r1
  rcases hc with ⟨u, k, e⟩ | ⟨tp, cs, ws, rfl, hT, k, e⟩
  · have e2 := k.eq r2
    subst e2
    exact PySem.W.kia_one Z I.kIn p e hx fun tk => ⟨.bl b, H, I.tok tk, rfl, q⟩
  · cases (show u2 = Value.ref tp from r2)
    have ob : ObjOk X.prog X.w H s.heap tp (.tup cs) := I.hok tp _ hT
    obtain ⟨_, its, rv, o, h1, h2, n, h3⟩ := ob
    have e3 := ClsV.all k rv
    subst e3
    obtain ⟨oc, od, dt, sl⟩ := o
    simp only at h2 h3
    subst h2 h3
    exact PySem.W.kia_tup Z I.kIn p h1 e hx fun tk => ⟨.bl b, H, I.tok tk, rfl, q⟩
end
/-- the own classes asked for -/
def clsOf : D → Option (List Str)
  | .cls y => some [y]
  | .tup cs => cs.mapM fun c => match c with
    | .cls y => some y
    | _ => none
  | _ => none
/-- the type of a value: built in, an own error class, another own one -/
inductive Tag where
  | bt (n : String) | er (x : Str) | on (x : Str)
def tagOf (M : Sto) : D → Option Tag
  | .exc x _ _ => some (.er x)
  | .ins x _ _ => some (.on x)
  | .ptr n => match M[n]? with
    | some (.ins x _ _) => some (.on x)
    | some (.frz (.ins x _ _)) => some (.on x)
    | some (.lst _) => some (.bt "list")
    | some (.frz (.lst _)) => some (.bt "list")
    | _ => none
  | d => (tyName M d).map .bt
def isOne (T : KT) : Tag → Str → Option Bool
  | .bt n, y => if n ∈ btNames ∧ y ∈ T.errs ++ T.inss then some false else none
  | .er x, y => if x ∈ T.errs then T.kit x y else none
  | .on x, y => if x ∈ T.inss then T.kit x y else none
def isAny (T : KT) (t : Tag) : List Str → Option Bool
  | [] => some false
  | y :: r => match isOne T t y with
    | some true => some true
    | some false => isAny T t r
    | none => none
def dIsiC (T : KT) : List D → C D
  | [d, c] => fun M => match tagOf M d, clsOf c with
    | some t, some (y :: ys) => match isAny T t (y :: ys) with
      | some b => .ok (.bl b) M
      | none => .bad
    | _, _ => .bad
  | _ => C.bad
section
variable {X : Cx} {G : Hp} {ps : List Addr} {M : Sto} {H : Hp} {T : KT} {W : WX}
/-- a value's type, for the rule -/
theorem tag_of (KT' : KTok X.K T) (s : Sto0 X.K G ps M H) {d : D} {v : V} {t : Tag} (r : Rep X.K G ps d v) (e : tagOf M d = some t) {y : Str} {b : Bool} (ho : isOne T t y = some b) :
    ∃ u, KitOf X v u H ∧ ∀ y b D, isOne T t y = some b → clsAt X.K y = some D → PySem.W.kitOne X.K u (.ref D) = some b := by
  have bt : ∀ {n : String}, t = .bt n → KitOf X v (.type n) H → ∃ u, KitOf X v u H ∧ ∀ y b D, isOne T t y = some b → clsAt X.K y = some D → PySem.W.kitOne X.K u (.ref D) = some b := fun {n} et k => by
    subst et
    refine ⟨_, k, fun y b D q hD => ?_⟩
    dsimp only [isOne] at q
    split at q
    · rename_i z
      cases q
      exact KT'.bt n z.1 y z.2 D hD
    · cases q
  have fromIn : ∀ {a C dx : Addr} {x : Str} {kvs : List (Str × V)}, t = .on x → v = .ref a → clsAt X.K x = some C → H a = some (.ins C dx kvs) → ∃ u, KitOf X v u H ∧ ∀ y b D, isOne T t y = some b → clsAt X.K y = some D → PySem.W.kitOne X.K u (.ref D) = some b := fun {a C dx x kvs} et ev hC ha => by
    subst et
    subst ev
    have hx : x ∈ T.inss := by
      dsimp only [isOne] at ho
      split at ho
      · assumption
      · cases ho
    have c := KT'.ins x hx C hC
    refine ⟨_, kit_ty0 (.base (.ins ha c.cl c.ha c.hn c.htk c.hm)), fun y b D q hD => ?_⟩
    dsimp only [isOne] at q
    rw [if_pos hx] at q
    exact KT'.kit x y b C D q hC hD
  have plain : (tyName M d).map Tag.bt = some t → ∃ u, KitOf X v u H ∧ ∀ y b D, isOne T t y = some b → clsAt X.K y = some D → PySem.W.kitOne X.K u (.ref D) = some b := fun q => by
    obtain ⟨n, q1, q2⟩ := Option.map_eq_some_iff.mp q
    exact bt q2.symm (kit_ty0 (tyName_of s r q1))
  cases d with
  | exc x fn ds =>
    cases e
    unfold Rep at r
    obtain ⟨a, C, dx, kvs, ev, hC, h1, h2, _⟩ := r
    subst ev
    have hx : x ∈ T.errs := by
      dsimp only [isOne] at ho
      split at ho
      · assumption
      · cases ho
    refine ⟨_, kit_xo (KT'.err x hx C hC) (s.sub _ _ h1) (s.sub _ _ h2), fun y b D q hD => ?_⟩
    dsimp only [isOne] at q
    rw [if_pos hx] at q
    exact KT'.kit x y b C D q hC hD
  | ins x fn ds =>
    cases e
    unfold Rep at r
    obtain ⟨a, C, dx, kvs, ev, hC, h1, h2, _⟩ := r
    exact fromIn rfl ev hC (s.sub _ _ h1)
  | ptr n =>
    have r0 := r
    unfold Rep at r
    obtain ⟨a, ev, hp⟩ := r
    dsimp only [tagOf] at e
    cases z : M[n]? with
    | none => rw [z] at e; cases e
    | some mo =>
      rw [z] at e
      cases mo with
      | lst es => cases e; exact bt rfl (kit_ty0 (tyName_of s r0 (by dsimp only [tyName]; rw [z])))
      | ins x fn es =>
        cases e
        obtain ⟨a', C, dx, kvs, e1, hC, _, e3, _⟩ := s.mem n _ z
        have : a' = a := Option.some.inj (e1.symm.trans hp)
        subst this
        exact fromIn rfl ev hC e3
      | tbl _ _ => cases e
      | frz d' =>
        cases d' with
        | lst es => cases e; exact bt rfl (kit_ty0 (tyName_of s r0 (by dsimp only [tyName]; rw [z])))
        | ins x fn es =>
          cases e
          obtain ⟨a', e1, rr⟩ := s.mem n _ z
          have : a' = a := Option.some.inj (e1.symm.trans hp)
          subst this
          unfold Rep at rr
          obtain ⟨b', C, dx, kvs, e2, hC, h1, _⟩ := rr
          have : b' = a' := (V.ref.inj e2).symm
          subst this
          exact fromIn rfl ev hC (s.sub _ _ h1)
        | _ => cases e
  | non => exact plain e
  | bl _ => exact plain e
  | int _ => exact plain e
  | str _ => exact plain e
  | ty _ => exact plain e
  | obj _ => exact plain e
  | lst _ => exact plain e
  | fz _ => exact plain e
  | tup _ => exact plain e
  | ft _ => exact plain e
  | dic _ _ => exact plain e
  | cls _ => exact plain e
theorem mapM_cls {K : PySem.W.Frag} : ∀ {cs : List D} {xs : List V} {ys : List Str}, Reps K G ps cs xs → (cs.mapM fun c => match c with
    | .cls y => some y
    | _ => none) = some ys → ∃ Ds : List Addr, Paired ClsV xs (Ds.map Value.ref) ∧ Ds.length = ys.length ∧ ∀ (i : Nat) (y : Str), ys[i]? = some y → ∃ D, Ds[i]? = some D ∧ clsAt K y = some D
  | [], xs, ys, r, e => by
    unfold Reps at r; subst r
    simp at e; subst e
    exact ⟨[], .nil, rfl, fun i y h => by simp at h⟩
  | c :: cs, xs, ys, r, e => by
    obtain ⟨v, r', e1, r1, r2⟩ := r.uncons
    subst e1
    rw [List.mapM_cons] at e
    cases c with
    | cls z =>
      cases q : (cs.mapM fun c => match c with
        | .cls y => some y
        | _ => none) with
      | none => rw [q] at e; cases e
      | some zs =>
        rw [q] at e
        cases e
        obtain ⟨Ds, k, hl, hi⟩ := mapM_cls r2 q
        unfold Rep at r1
        obtain ⟨C, ev, hC⟩ := r1
        subst ev
        refine ⟨C :: Ds, .cons (.own C) k, by simp [hl], fun i y h => ?_⟩
        cases i with
        | zero => simp at h; subst h; exact ⟨C, rfl, hC⟩
        | succ i => simp at h; obtain ⟨D, h1, h2⟩ := hi i y h; exact ⟨D, by simpa using h1, h2⟩
    | _ => cases e
theorem isAny_of {u : Value} {t : Tag} (hk : ∀ y b D, isOne T t y = some b → clsAt X.K y = some D → PySem.W.kitOne X.K u (.ref D) = some b) : ∀ {ys : List Str} {Ds : List Addr} {b : Bool}, Ds.length = ys.length → (∀ (i : Nat) (y : Str), ys[i]? = some y → ∃ D, Ds[i]? = some D ∧ clsAt X.K y = some D) → isAny T t ys = some b → PySem.W.kitAny X.K u (Ds.map Value.ref) = some b
  | [], Ds, b, hl, _, e => by
    have : Ds = [] := List.length_eq_zero_iff.mp hl
    subst this
    cases e
    exact kitAny_nil
  | y :: ys, [], b, hl, _, e => by simp at hl
  | y :: ys, D :: Ds, b, hl, hi, e => by
    obtain ⟨D', h1, h2⟩ := hi 0 y rfl
    simp at h1; subst h1
    dsimp only [isAny] at e
    cases q : isOne T t y with
    | none => rw [q] at e; cases e
    | some c =>
      rw [q] at e
      have k1 := hk y c D q h2
      cases c with
      | true => cases e; exact kitAny_cons k1 (fun z => nomatch z) (fun _ => rfl)
      | false => exact kitAny_cons k1 (fun _ => isAny_of hk (by simpa using hl) (fun i z hz => by obtain ⟨E, g1, g2⟩ := hi (i + 1) z (by simpa using hz); exact ⟨E, by simpa using g1, g2⟩) e) (fun z => nomatch z)
theorem isiC_D (KT' : KTok X.K T) : CallD X W (dIsiC T) (rIsiZ X) := fun σ vs H Q h => by
  obtain ⟨G, ps, M, xs, s, r, p⟩ := h.out
  unfold dIsiC at p
  split at p
  · rename_i d c
    obtain ⟨v, w, e, r1, r2⟩ := r.two
    subst e
    split at p
    · rename_i t y ys h1 h2
      split at p
      · rename_i b h3
        have fin := p G ps H Stp.refl s (.bl b) Rep.bl_of
        have ho : ∃ b0, isOne T t y = some b0 := by
          dsimp only [isAny] at h3
          cases q : isOne T t y with
          | none => rw [q] at h3; cases h3
          | some b0 => exact ⟨b0, rfl⟩
        obtain ⟨b0, ho⟩ := ho
        obtain ⟨u, k, hk⟩ := tag_of KT' s r1 h1 ho
        cases c with
        | cls z =>
          have e2 : z = y ∧ ys = [] := by simp [clsOf] at h2; exact ⟨h2.1, h2.2⟩
          obtain ⟨e2, e3⟩ := e2
          subst e2; subst e3
          unfold Rep at r2
          obtain ⟨D, ew, hD⟩ := r2
          subst ew
          have hb : b0 = b := by
            dsimp only [isAny] at h3
            rw [ho] at h3
            cases b0 <;> (cases h3; rfl)
          subst hb
          exact ⟨v, u, .ref D, b0, rfl, k, .inl ⟨_, .own D, hk _ _ _ ho hD⟩, fin⟩
        | tup cs =>
          unfold Rep at r2
          obtain ⟨a, zs, ew, ha, rr⟩ := r2
          subst ew
          obtain ⟨Ds, k1, k2, k3⟩ := mapM_cls rr h2
          exact ⟨v, u, .ref a, b, rfl, k, .inr ⟨a, zs, _, rfl, s.sub _ _ ha, k1, isAny_of hk k2 k3 h3⟩, fin⟩
        | _ => cases h2
      · exact p.elim
    · exact p.elim
  · exact p.elim
/-- a class by its name -/
theorem de_cls {x : Str} {pos : Pos} (hg : Gl X x) (hm : ∃ C, X.mg x = some (.ref C) ∧ clsAt X.K x = some C) (hd : (x == ("__debug__" : Str)) = false := by decide) : DE X W (.Name x pos) (dC (.cls x)) := by
  obtain ⟨C, h1, h2⟩ := hm
  exact de_glob (v := .ref C) hg h1 rfl (fun _ _ => by unfold Rep; exact ⟨C, rfl, h2⟩) hd
end
/-! ### fields -/
def look (f : Str) : List Str → List D → Option D
  | g :: gs, d :: ds => if f = g then some d else look f gs ds
  | _, _ => none
def dFldV (T : KT) (f : Str) : D → C D
  | .exc x fn ds => if x ∈ T.errs ∧ f ∈ T.flds then C.of (look f fn ds) else C.bad
  | .ins x fn ds => if x ∈ T.inss ∧ f ∈ T.flds then C.of (look f fn ds) else C.bad
  | .ptr n => fun M => match M[n]? with
    | some (.ins x fn ds) => if x ∈ T.inss ∧ f ∈ T.flds then C.of (look f fn ds) M else .bad
    | some (.frz (.ins x fn ds)) => if x ∈ T.inss ∧ f ∈ T.flds then C.of (look f fn ds) M else .bad
    | _ => .bad
  | _ => C.bad
def dFld (T : KT) (f : Str) (g : Env → C D) : Env → C D := fun ρ => C.bind (g ρ) (dFldV T f)
section
variable {X : Cx} {G : Hp} {ps : List Addr} {M : Sto} {H : Hp} {T : KT} {W : WX} {f : Str}
theorem look_of {K : PySem.W.Frag} : ∀ {fn : List Str} {ds : List D} {kvs : List (Str × V)} {d : D}, kvs.map (·.1) = fn → Reps K G ps ds (kvs.map (·.2)) → look f fn ds = some d → ∃ v, kvs.lookup f = some v ∧ Rep K G ps d v
  | _, _, [], d, e, r, h => by cases e; simp [look] at h
  | _, [], k :: kvs, d, e, r, h => by cases e; simp [look] at h
  | _, d0 :: ds, (g, v) :: kvs, d, e, r, h => by
    cases e
    obtain ⟨v', r', e1, r1, r2⟩ := r.uncons
    simp at e1
    obtain ⟨e1, e2⟩ := e1
    subst e1; subst e2
    rw [List.map_cons, look] at h
    by_cases z : f = g
    · subst z
      rw [if_pos rfl] at h
      cases h
      exact ⟨v, by simp [List.lookup], r1⟩
    · rw [if_neg z] at h
      obtain ⟨u, h1, h2⟩ := look_of rfl r2 h
      have q : (f == g) = false := by simpa using z
      exact ⟨u, by simp [List.lookup, q, h1], h2⟩
/-- what an attribute's reading asks -/
def rFld (X : Cx) (f : Str) (x : V) (H : Hp) (Q : VK) : Prop :=
  (∃ a C dx fs v, x = .ref a ∧ H a = some (.ins C dx fs) ∧ Cls X.K C ∧ NoAttr X.K C f ∧ fs.lookup f = some v ∧ Q v H) ∨
  (∃ a C dx fs v, x = .ref a ∧ H a = some (XO a C dx) ∧ H dx = some (.xd fs) ∧ ErrC X.K C ∧ PySem.W.findIn X.K (.ref C) f = some none ∧ fs.lookup f = some v ∧ Q v H)
theorem pe_fldZ {e : Expr} {te : TE} {pos : Pos} (he : PE X e te) (hb : attributeBase e f X.env (eval e X.env) = eval e X.env) : PE X (.Attribute e f pos) (fun σ H Q => te σ H fun x H1 => rFld X f x H1 Q) := by
  refine ⟨fun pins s σ H Q I h => ?_⟩
  refine attr_of hb (thn (he.run pins s σ H _ I h) fun u s1 ⟨x, H1, I1, rx, q⟩ => ?_)
  rcases q with ⟨a, C, dx, fs, v, ex, ha, c, n, l, q⟩ | ⟨a, C, dx, fs, v, ex, ha, hx, c, n, l, q⟩
  · subst ex
    obtain rfl : u = Value.ref a := rx
    exact getattr_ok I1 ha c n l fun u' s2 I2 ru => ⟨v, H1, I2, ru, q⟩
  · subst ex
    obtain rfl : u = Value.ref a := rx
    obtain ⟨oe, od, J, hl⟩ := inst_xo I1.hok ha hx
    obtain ⟨w, hw, rw'⟩ := hl f v l
    exact HandSPX.exc_get I1.kIn J c.hga c.hgt c.hsub (PySem.W.findObj_own c.hd n rfl hw) (handed_of rw') ⟨v, H1, I1.tok _, rw', q⟩
theorem de_fld (KT' : KTok X.K T) {e : Expr} {g : Env → C D} {pos : Pos} (he : DE X W e g) (hb : attributeBase e f X.env (eval e X.env) = eval e X.env := by rfl) : DE X W (.Attribute e f pos) (dFld T f g) :=
  pe_imp (pe_fldZ he hb) fun σ H Q h => td_mono (seq1 (k := fun _ x => dFldV T f x) h) fun v H1 h2 => by
    obtain ⟨G, ps, M, x, s, r, p⟩ := h2.out
    have fromIn : ∀ {a Ca dx : Addr} {x : Str} {fn : List Str} {ds : List D} {kvs : List (Str × V)}, v = .ref a → clsAt X.K x = some Ca → H1 a = some (.ins Ca dx kvs) → kvs.map (·.1) = fn → Reps X.K G ps ds (kvs.map (·.2)) → x ∈ T.inss → f ∈ T.flds → Post X.K W σ (PD X.K Q) G ps H1 (C.of (look f fn ds) M) → rFld X f v H1 Q :=
      fun {a Ca dx x fn ds kvs} ev hC ha e2 e3 hx hf p => by
        obtain ⟨d, q, p⟩ := post_of p
        obtain ⟨u, h1, h2⟩ := look_of e2 e3 q
        exact .inl ⟨a, Ca, dx, kvs, u, ev, ha, (KT'.ins x hx Ca hC).cl, KT'.nof x (List.mem_append_right _ hx) f hf Ca hC, h1, p G ps H1 Stp.refl s u h2⟩
    unfold dFldV at p
    split at p
    · rename_i x fn ds
      split at p
      · rename_i z
        unfold Rep at r
        obtain ⟨a, C, dx, kvs, ev, hC, h1, h2, e2, e3⟩ := r
        obtain ⟨d, q, p⟩ := post_of p
        obtain ⟨u, g1, g2⟩ := look_of e2 e3 q
        exact .inr ⟨a, C, dx, kvs, u, ev, s.sub _ _ h1, s.sub _ _ h2, KT'.err x z.1 C hC, KT'.nof x (List.mem_append_left _ z.1) f z.2 C hC, g1, p G ps H1 Stp.refl s u g2⟩
      · exact p.elim
    · rename_i x fn ds
      split at p
      · rename_i z
        unfold Rep at r
        obtain ⟨a, C, dx, kvs, ev, hC, h1, h2, e2, e3⟩ := r
        exact fromIn ev hC (s.sub _ _ h1) e2 e3 z.1 z.2 p
      · exact p.elim
    · rename_i n
      unfold Rep at r
      obtain ⟨a, ev, hp⟩ := r
      split at p
      · rename_i x fn ds hm
        split at p
        · rename_i z
          obtain ⟨a', C, dx, kvs, e1, hC, _, h1, h2, e2, e3⟩ := s.mem n _ hm
          have : a' = a := Option.some.inj (e1.symm.trans hp)
          subst this
          exact fromIn ev hC h1 e2 e3 z.1 z.2 p
        · exact p.elim
      · rename_i x fn ds hm
        split at p
        · rename_i z
          obtain ⟨a', e1, rr⟩ := s.mem n _ hm
          have : a' = a := Option.some.inj (e1.symm.trans hp)
          subst this
          unfold Rep at rr
          obtain ⟨b', C, dx, kvs, e4, hC, h1, h2, e2, e3⟩ := rr
          have : b' = a' := (V.ref.inj e4).symm
          subst this
          exact fromIn ev hC (s.sub _ _ h1) e2 e3 z.1 z.2 p
        · exact p.elim
      · exact p.elim
    · exact p.elim
end
end DL
end
section
set_option Elab.async false
set_option linter.all false
set_option maxRecDepth 100000
set_option maxHeartbeats 2000000
namespace DL
open PySem PySem.Spec PyProof.Rows L2
/-! ### an instance made, its fields stored -/
section
variable {K : PySem.W.Frag} {G : Hp} {ps : List Addr} {M : Sto} {H : Hp}
/-- a new thing that may change -/
theorem Sto0.newO {o : HO} {mo : MO} {p : Addr} (s : Sto0 K G ps M H) (h : H p = none) (r : MOk K G (ps ++ [p]) (upd H p o) M.length mo) : Sto0 K G (ps ++ [p]) (M ++ [mo]) (upd H p o) where
  sub := fun a u e => by rw [upd_ne (ne_of_none (s.sub a u e) h)]; exact s.sub a u e
  mem := fun n m e => by
    by_cases z : n < M.length
    · rw [List.getElem?_append_left z] at e
      exact (s.mem n m e).mono ext_ptr (fun _ _ g => g) (fun a u e2 q => by rw [upd_ne (s.pne h e2)]; exact q)
    · have e' : n = M.length := by
        have := (List.getElem?_eq_some_iff.mp e).1
        rw [List.length_append, List.length_singleton] at this
        omega
      subst e'
      rw [List.getElem?_append_right (Nat.le_refl _), Nat.sub_self] at e
      have e2 : mo = m := by simpa using e
      subst e2
      exact r
  nd := by
    rw [List.nodup_append]
    refine ⟨s.nd, by simp, fun a ha b hb => ?_⟩
    have hb' : b = p := by simpa using hb
    subst hb'
    obtain ⟨i, hi⟩ := List.getElem?_of_mem ha
    exact s.pne h hi
  len := by rw [List.length_append, List.length_append, s.len]; rfl
  old := fun n a e => by
    by_cases z : a = p
    · subst z; rw [upd_same]; simp
    · rw [upd_ne z]
      rcases List.mem_append.mp (List.mem_of_getElem? e) with q | q
      · obtain ⟨i, hi⟩ := List.getElem?_of_mem q
        exact s.old i a hi
      · exact absurd (by simpa using q) z
theorem Sto0.newI {p dx C : Addr} {x : Str} (s : Sto0 K G ps M H) (hC : clsAt K x = some C) (hp : H p = none) (hd : H dx = none) (hne : dx ≠ p) :
    Stp G ps H (upd G dx (.own p)) (ps ++ [p]) (upd (upd H dx (.own p)) p (.ins C dx [])) ∧ Sto0 K (upd G dx (.own p)) (ps ++ [p]) (M ++ [.ins x [] []]) (upd (upd H dx (.own p)) p (.ins C dx [])) := by
  have s1 := s.new (o := .own p) hd
  have st1 := s.stp (o := .own p) hd
  have hp1 : upd H dx (.own p) p = none := by rw [upd_ne (Ne.symm hne)]; exact hp
  refine ⟨st1.trans (s1.stpP (o := .ins C dx []) hp1), s1.newO hp1 ⟨p, C, dx, [], ?_, hC, ?_, upd_same, upd_same, rfl, Reps.nil⟩⟩
  · rw [← s1.len, List.getElem?_append_right (Nat.le_refl _), Nat.sub_self]; rfl
  · rw [upd_ne (Ne.symm hne)]; exact s.gnone hp
/-- a changing thing is written -/
theorem Sto0.putO {n : Nat} {a : Addr} {o : HO} {mo mo' : MO} (s : Sto0 K G ps M H) (hm : M[n]? = some mo) (hp : ps[n]? = some a) (hg : G a = none) (r : MOk K G ps (upd H a o) n mo') : Sto0 K G ps (M.set n mo') (upd H a o) := by
  refine ⟨fun b u q => ?_, fun m m2 q => ?_, s.nd, by rw [List.length_set]; exact s.len, fun m b q => ?_⟩
  · have : b ≠ a := fun z => by rw [z, hg] at q; cases q
    rw [upd_ne this]; exact s.sub b u q
  · by_cases z : m = n
    · subst z
      rw [List.getElem?_set_self (List.getElem?_eq_some_iff.mp hm).1] at q
      cases q
      exact r
    · rw [List.getElem?_set_ne (Ne.symm z)] at q
      exact (s.mem m m2 q).mono Ext.refl (fun _ _ g => g) (fun b u e2 q2 => by
        have : b ≠ a := fun w => z (nd_ix s.nd e2 (w ▸ hp))
        rw [upd_ne this]; exact q2)
  · by_cases z : b = a
    · subst z; rw [upd_same]; simp
    · rw [upd_ne z]; exact s.old m b q
/-- an instance is fixed from now on -/
theorem Sto0.freezeI {n : Nat} {x : Str} {fn : List Str} {ds : List D} (s : Sto0 K G ps M H) (hm : M[n]? = some (.ins x fn ds)) : ∃ a G', ps[n]? = some a ∧ Stp G ps H G' ps H ∧ Sto0 K G' ps (M.set n (.frz (.ins x fn ds))) H ∧ Rep K G' ps (.ins x fn ds) (.ref a) := by
  obtain ⟨a, C, dx, kvs, e, hC, g, h, o, k, r⟩ := s.mem n _ hm
  have z : Ext G ps (upd G a (.ins C dx kvs)) ps := ext_new g
  have nd : dx ≠ a := fun w => by rw [w, g] at o; cases o
  have rr : Rep K (upd G a (.ins C dx kvs)) ps (.ins x fn ds) (.ref a) := by unfold Rep; exact ⟨a, C, dx, kvs, rfl, hC, upd_same, by rw [upd_ne nd]; exact o, k, r.mono z⟩
  refine ⟨a, upd G a (.ins C dx kvs), e, ⟨z, fun _ _ h _ => h, fun _ h => .inl h, fun b u q => by
    by_cases w : b = a
    · subst w; exact .inr (.inr (List.mem_of_getElem? e))
    · rw [upd_ne w] at q; exact .inl q⟩, ⟨fun b u q => ?_, fun m mo q => ?_, s.nd, by rw [List.length_set]; exact s.len, s.old⟩, rr⟩
  · by_cases w : b = a
    · subst w; rw [upd_same] at q; cases q; exact h
    · rw [upd_ne w] at q; exact s.sub b u q
  · by_cases w : m = n
    · subst w
      rw [List.getElem?_set_self (List.getElem?_eq_some_iff.mp hm).1] at q
      cases q
      exact ⟨a, e, rr⟩
    · rw [List.getElem?_set_ne (Ne.symm w)] at q
      exact (s.mem m mo q).mono z (fun b e2 g2 => by
        have : b ≠ a := fun v => w (nd_ix s.nd e2 (v ▸ e))
        rw [upd_ne this]; exact g2) (fun b u e2 q2 => q2)
end
/-- an own class that can be made by its name -/
structure MkAt (P : Program) (w : World) (K : PySem.W.Frag) (mg : Str → Option Value) (base : Heap) (k : Nat) (x : Str) (ps : List Str) (F : List D → C D) : Prop where
  ex : ∃ C f fd, clsAt K x = some C ∧ mg x = some (.ref C) ∧ Mk K C f ∧ Binds K fd ps [] ∧ FnG P w K mg base k f fd ps F
def dMk (x : Str) (F : List D → C D) : List D → C D := fun ds M => match F (.ptr M.length :: ds) (M ++ [.ins x [] []]) with
  | .ok .non M' => .ok (.ptr M.length) M'
  | .err y fn es M' => .err y fn es M'
  | _ => .bad
section
variable {X : Cx} {W : WX} {k : Nat} {x : Str} {ps : List Str} {F : List D → C D} {p pos : Pos} {e : Expr} {es : List Expr} {g : Env → C (List D)}
theorem de_make (hF : MkAt X.prog X.w X.K X.mg X.base k x ps F) (hr : Room (k + 1) X.A) (hG : X.A.guards = some []) (tk : Takes X W) (ha : DA X W (e :: es) g) (hg : Gl X x) (hdb : (x == ("__debug__" : Str)) = false := by decide)
    (he : starEach (e :: es) X.env = (false, eval e X.env) :: starEach es X.env := by rfl) (hpl : (backTo pos (starEach es X.env)).any (·.1) = false := by rfl) : DE X W (.Call (.Name x p) (e :: es) [] pos) (cB (dMk x F) g) := by
  obtain ⟨C, f, fd, hC, hm, mk, hb, hF⟩ := hF.ex
  refine ⟨fun pins s σ H Q I q => ?_⟩
  refine wpAny_Call_Name_kw (ld_glob I hg hm ?_ hdb)
  refine PySem.W.callWith_K (h₀ := X.base) I.ok.mod.kin mk.kp (thn (ha.run pos pins s σ H _ I (seqL (k := fun _ xs => dMk x F xs) q)) fun us s1 ⟨vs, H1, I1, r, q1⟩ => ⟨I1.kIn, ?_⟩) he hpl
  obtain ⟨G, sps, M, xs, s0, rr, q2⟩ := q1.out
  have nx : H1 (s1.heap.objs.size + 1) = none := I1.hok.fresh (Nat.le_succ _)
  have nd : H1 s1.heap.objs.size = none := I1.hok.fresh (Nat.le_refl _)
  have I2 := Inv.made (C := C) I1
  obtain ⟨st, s2⟩ := s0.newI hC nx nd (Nat.ne_of_lt (Nat.lt_succ_self _))
  have rs : Reps X.K (upd G s1.heap.objs.size (.own (s1.heap.objs.size + 1))) (sps ++ [s1.heap.objs.size + 1]) (.ptr M.length :: xs) (V.ref (s1.heap.objs.size + 1) :: vs) := by
    refine Reps.cons ?_ (rr.mono st.ext)
    unfold Rep
    exact ⟨_, rfl, by rw [← s0.len, List.getElem?_append_right (Nat.le_refl _), Nat.sub_self]; rfl⟩
  have sp : spD X.K F (V.ref (s1.heap.objs.size + 1) :: vs) (upd (upd H1 s1.heap.objs.size (.own (s1.heap.objs.size + 1))) (s1.heap.objs.size + 1) (.ins C s1.heap.objs.size [])) (fun v H2 => v = .non ∧ Q (.ref (s1.heap.objs.size + 1)) H2) (fun c d H' => W c d σ H') := by
    refine ⟨_, _, _, _, s2, rs, ?_⟩
    have q3 := Post.ext st q2
    unfold dMk at q3
    cases z : F (.ptr M.length :: xs) (M ++ [.ins x [] []]) with
    | ok d M' =>
      rw [z] at q3
      cases d with
      | non =>
        refine fun G' ps' H' st' s' v hv => ?_
        unfold Rep at hv
        refine ⟨hv, q3 G' ps' H' st' s' _ ?_⟩
        unfold Rep
        exact ⟨_, rfl, st'.ext.ptr (by rw [← s0.len, List.getElem?_append_right (Nat.le_refl _), Nat.sub_self]; rfl)⟩
      | _ => exact q3.elim
    | err y fn es M' => rw [z] at q3; exact q3
    | bad => rw [z] at q3; exact q3.elim
  have hl := hF.lens sp
  have rv : Vals (V.ref (s1.heap.objs.size + 1) :: vs) (Value.ref (s1.heap.objs.size + 1) :: us) := .cons rfl r
  have hb1 := hb _ (Value.ref (s1.heap.objs.size + 1) :: us) I2.kIn (by rw [List.append_nil, ← rv.length]; exact hl)
  rw [List.append_nil] at hb1
  refine wpAny_call (make_map (f := f) I1.kIn mk.makes mk.init (beq_iff_eq.mp mk.fn) (codeAny_mono (hF.go _ X.stack _ _ ⟨Value.ref (s1.heap.objs.size + 1) :: us, []⟩ (Value.ref (s1.heap.objs.size + 1) :: us) _ _ _ hG (hr.make C us []) (I2.env0.make C us []) hb1 rv sp) fun r3 s3 hq => ?_))
  cases r3 with
  | error er => exact pass_of tk (fun _ _ _ h => h) pins _ _ er s3 I2 hq
  | ok fl =>
    cases fl with
    | ret u =>
      obtain ⟨v, H', I3, rv3, ev, q4⟩ := I2.after hq
      subst ev
      exact ⟨rv3, ⟨V.ref (s1.heap.objs.size + 1), H', I3, rfl, q4⟩⟩
    | next => exact False.elim hq
    | brk => exact False.elim hq
    | cont => exact False.elim hq
end
/-- fixed from now on: lists, instances -/
def freezeZ : D → C D
  | .ptr n => fun M => match M[n]? with
    | some (.lst ds) => .ok (.lst ds) (M.set n (.frz (.lst ds)))
    | some (.ins x fn ds) => .ok (.ins x fn ds) (M.set n (.frz (.ins x fn ds)))
    | some (.frz d) => .ok d M
    | _ => .bad
  | d => C.pure d
def dFrzZ (f : Env → C D) : Env → C D := fun ρ => C.bind (f ρ) freezeZ
theorem de_frzZ {X : Cx} {W : WX} {a : Expr} {f : Env → C D} (ha : DE X W a f) : DE X W a (dFrzZ f) := pe_imp ha fun σ H Q h => td_mono (seq1 (k := fun _ x => freezeZ x) h) fun v H1 h2 => by
  obtain ⟨G, ps, M, x, s, r1, p⟩ := h2.out
  unfold freezeZ at p
  split at p
  · rename_i n
    unfold Rep at r1
    obtain ⟨a, e, hp⟩ := r1
    subst e
    split at p
    · rename_i ds hm
      obtain ⟨a', G', e2, x, s', r⟩ := s.freeze hm
      have : a' = a := Option.some.inj (e2.symm.trans hp)
      subst this
      exact p G' ps H1 x s' _ r
    · rename_i y fn ds hm
      obtain ⟨a', G', e2, x, s', r⟩ := s.freezeI hm
      have : a' = a := Option.some.inj (e2.symm.trans hp)
      subst this
      exact p G' ps H1 x s' _ r
    · rename_i d hm
      obtain ⟨a', e2, r⟩ := s.mem n _ hm
      have : a' = a := Option.some.inj (e2.symm.trans hp)
      subst this
      exact p G ps H1 Stp.refl s _ r
    · exact p.elim
  · exact p G ps H1 Stp.refl s v r1
/-- a field put: the names, the values -/
def putK (f : Str) (v : D) : List Str → List D → List Str × List D
  | g :: gs, d :: ds => if g = f then (g :: gs, v :: ds) else let r := putK f v gs ds; (g :: r.1, d :: r.2)
  | _, _ => ([f], [v])
def setF (T : KT) (f : Str) (o v : D) : C Out → C Out := fun k M => match o with
  | .ptr n => match M[n]? with
    | some (.ins x fn ds) => if x ∈ T.inss ∧ f ∈ T.flds ∧ fn.length = ds.length ∧ fn.length < 100 then k (M.set n (.ins x (putK f v fn ds).1 (putK f v fn ds).2)) else .bad
    | _ => .bad
  | _ => .bad
def sFldS (T : KT) (f : Str) (fe o : Env → C D) : SF := lift fe fun ρ v => lift o (fun ρ x => setF T f x v (C.pure (.nx ρ))) ρ
theorem putK_of {K : PySem.W.Frag} {G : Hp} {ps : List Addr} {f : Str} {v : D} {y : V} (rv : Rep K G ps v y) : ∀ {fn : List Str} {ds : List D} {kvs : List (Str × V)}, kvs.map (·.1) = fn → Reps K G ps ds (kvs.map (·.2)) →
    (putF f y kvs).map (·.1) = (putK f v fn ds).1 ∧ Reps K G ps (putK f v fn ds).2 ((putF f y kvs).map (·.2))
  | _, ds, [], e, r => by
    cases e
    unfold Reps at r
    cases ds with
    | nil => exact ⟨rfl, Reps.cons rv Reps.nil⟩
    | cons d ds => obtain ⟨_, _, z, _⟩ := Reps.uncons r; cases z
  | _, [], kv :: kvs, e, r => by unfold Reps at r; cases r
  | _, d :: ds, (g, z) :: kvs, e, r => by
    cases e
    obtain ⟨u, r', e1, r1, r2⟩ := r.uncons
    simp at e1
    obtain ⟨e1, e2⟩ := e1
    subst e1; subst e2
    rw [List.map_cons, putF, putK]
    by_cases w : g = f
    · rw [if_pos w, if_pos w]
      exact ⟨rfl, Reps.cons rv r2⟩
    · rw [if_neg w, if_neg w]
      obtain ⟨h1, h2⟩ := putK_of rv (fn := kvs.map (·.1)) rfl r2
      exact ⟨by rw [List.map_cons, h1], Reps.cons r1 h2⟩
theorem ds_fld {X : Cx} {W : WX} {T : KT} (KT' : KTok X.K T) {f : Str} {o value : Expr} {fe fo : Env → C D} {pos pos' : Pos} (he : DE X W value fe) (ho : DE X W o fo) (hs : swapsWith value (some (.Attribute o f pos')) pos.line X.env = pure false := by rfl) :
    DS X W (.Assign [.Attribute o f pos'] value pos) (sFldS T f fe fo) :=
  ps_imp (L2.ps_fld ho he hs) fun Dn σ H h => td_mono (lift1 h) fun v H1 h2 => td_mono (lift2 (k := fun ρ v x => setF T f x v (C.pure (.nx ρ))) h2) fun ov H2 h4 => by
    obtain ⟨ρ, G, ps, M, x, y, s, sl, r1, r2, p⟩ := h4
    replace p : PSt X.K (PO' X.K W Dn) G ps H2 (setF T f y x (C.pure (.nx ρ)) M) := p
    unfold setF at p
    split at p
    · rename_i n
      split at p
      · rename_i cx fn ds hm
        split at p
        · rename_i z
          obtain ⟨hx, hf, hl, hl2⟩ := z
          unfold Rep at r2
          obtain ⟨a, e, hp⟩ := r2
          subst e
          obtain ⟨a', C, dx, kvs, e1, hC, g1, h1, h3, k1, rr⟩ := s.mem n _ hm
          have : a' = a := Option.some.inj (e1.symm.trans hp)
          subst this
          have hlen : kvs.length < 100 := by have := congrArg List.length k1; rw [List.length_map] at this; omega
          obtain ⟨k2, rr2⟩ := putK_of r1 k1 rr
          refine ⟨a', C, dx, kvs, rfl, h1, (KT'.ins cx hx C hC).cl, KT'.nof cx (List.mem_append_right _ hx) f hf C hC, by omega, ?_⟩
          exact p G ps _ (s.stpS hp) (s.putO hm hp g1 ⟨a', C, dx, _, hp, hC, g1, upd_same, h3, k2, rr2⟩) σ sl
        · exact p.elim
      · exact p.elim
    · exact p.elim
end DL
end
section
set_option Elab.async false
set_option linter.all false
set_option maxRecDepth 100000
set_option maxHeartbeats 2000000
namespace DL
open PySem PySem.Spec PyProof.Rows L2
/-! ### methods -/
/-- a method of an own class -/
structure MtAt (P : Program) (w : World) (K : PySem.W.Frag) (mg : Str → Option Value) (base : Heap) (k : Nat) (x m : Str) (ps : List Str) (F : List D → C D) : Prop where
  ex : ∃ C f fd, clsAt K x = some C ∧ Cls K C ∧ Meth K C m f ∧ Binds K fd ps [] ∧ FnG P w K mg base k f fd ps F
/-- the class of an instance, its fields' names -/
def insOf (M : Sto) : D → Option (Str × List Str)
  | .ins x fn _ => some (x, fn)
  | .ptr n => match M[n]? with
    | some (.ins x fn _) => some (x, fn)
    | some (.frz (.ins x fn _)) => some (x, fn)
    | _ => none
  | _ => none
def memb (m : Str) : List Str → Bool
  | [] => false
  | f :: r => decide (m = f) || memb m r
def pickM (l : List (Str × (List D → C D))) (m : Str) (o : D) : C (List D → C D) := fun M => match insOf M o with
  | some (x, fn) => match l.lookup x with
    | some F => if memb m fn = false then .ok F M else .bad
    | none => .bad
  | none => .bad
def mM (l : List (Str × (List D → C D))) (m : Str) (o : Env → C D) (g : Env → C (List D)) : Env → C D := fun ρ => C.bind (o ρ) fun x => C.bind (pickM l m x) fun F => C.bind (g ρ) fun xs => F (x :: xs)
theorem memb_no {m : Str} : ∀ {kvs : List (Str × V)}, memb m (kvs.map (·.1)) = false → kvs.lookup m = none
  | [], _ => rfl
  | (f, v) :: r, h => by
    rw [List.map_cons, memb, Bool.or_eq_false_iff, decide_eq_false_iff_not] at h
    have q : (m == f) = false := by simpa using h.1
    simp [List.lookup, q, memb_no h.2]
section
variable {X : Cx} {W : WX} {k : Nat} {m : Str} {ps : List Str} {l : List (Str × (List D → C D))} {o' e : Expr} {es : List Expr} {o : Env → C D} {g : Env → C (List D)} {apos pos : Pos}
theorem pick_ins {K : PySem.W.Frag} {G : Hp} {sps : List Addr} {M : Sto} {H : Hp} (s : Sto0 K G sps M H) {d : D} {v : V} {x : Str} {fn : List Str} (r : Rep K G sps d v) (e : insOf M d = some (x, fn)) : ∃ a C dx kvs, v = .ref a ∧ clsAt K x = some C ∧ H a = some (.ins C dx kvs) ∧ kvs.map (·.1) = fn := by
  cases d with
  | ins y gn ds =>
    cases e
    unfold Rep at r
    obtain ⟨a, C, dx, kvs, e1, hC, h1, _, e2, _⟩ := r
    exact ⟨a, C, dx, kvs, e1, hC, s.sub _ _ h1, e2⟩
  | ptr n =>
    unfold Rep at r
    obtain ⟨a, ev, hp⟩ := r
    dsimp only [insOf] at e
    cases z : M[n]? with
    | none => rw [z] at e; cases e
    | some mo =>
      rw [z] at e
      cases mo with
      | lst es => cases e
      | ins y gn es =>
        cases e
        obtain ⟨a', C, dx, kvs, e1, hC, _, h1, _, e2, _⟩ := s.mem n _ z
        have : a' = a := Option.some.inj (e1.symm.trans hp)
        subst this
        exact ⟨a', C, dx, kvs, ev, hC, h1, e2⟩
      | tbl _ _ => cases e
      | frz d' =>
        cases d' with
        | ins y gn es =>
          cases e
          obtain ⟨a', e1, rr⟩ := s.mem n _ z
          have : a' = a := Option.some.inj (e1.symm.trans hp)
          subst this
          unfold Rep at rr
          obtain ⟨b', C, dx, kvs, e4, hC, h1, _, e2, _⟩ := rr
          have : b' = a' := (V.ref.inj e4).symm
          subst this
          exact ⟨b', C, dx, kvs, ev, hC, s.sub _ _ h1, e2⟩
        | _ => cases e
  | _ => cases e
theorem lookup_mem {α : Type} {x : Str} {F : α} : ∀ {l : List (Str × α)}, l.lookup x = some F → (x, F) ∈ l
  | [], h => by cases h
  | (y, G) :: r, h => by
    by_cases z : x = y
    · subst z
      simp [List.lookup] at h
      subst h
      exact List.mem_cons_self
    · have q : (x == y) = false := by simpa using z
      simp [List.lookup, q] at h
      exact List.mem_cons_of_mem _ (lookup_mem h)
/-- o.m(e, ..) -/
theorem de_meth {pl : Sem Bool} (hl : ∀ x F, (x, F) ∈ l → ∃ ps, MtAt X.prog X.w X.K X.mg X.base k x m ps F) (hr : Room k X.A) (hG : X.A.guards = some []) (tk : Takes X W) (ho : DE X W o' o) (ha : DA X W (e :: es) g)
    (hst : starEach (e :: es) X.env = (false, eval e X.env) :: starEach es X.env := by rfl) (hpl : (backTo pos (starEach es X.env)).any (·.1) = false := by rfl)
    (ht : eval (.Call (.Attribute o' m apos) (e :: es) [] pos) X.env = (do
      let ov ← eval o' X.env
      standAt apos.atName
      let (f, first) ← holding [ov] (getMethod ov m pl)
      callWith pos f first (backTo pos (starEach (e :: es) X.env)) (backToKw pos (keywordEach [] X.env))) := by rfl) :
    DE X W (.Call (.Attribute o' m apos) (e :: es) [] pos) (mM l m o g) := by
  refine ⟨fun pins s σ H Q I h => ?_⟩
  refine PySem.W.methodCall_KW (pl := pl) (thn (ho.run pins s σ H _ I (seq1 (k := fun ρ x => C.bind (pickM l m x) fun F => C.bind (g ρ) fun xs => F (x :: xs)) h)) fun u s1 ⟨v, H1, I1, rv, q⟩ => ?_) ht
  obtain ⟨ρ, G, sps, M, x, s0, sl, rx, p⟩ := q
  replace p : Post X.K W σ (PD X.K Q) G sps H1 ((pickM l m x M).bind fun F => C.bind (g ρ) fun xs => F (x :: xs)) := p
  unfold pickM at p
  split at p
  · rename_i y fn hi
    split at p
    · rename_i F hF
      split at p
      · rename_i hm
        obtain ⟨a, C, dx, kvs, ev, hC, h1, e2⟩ := pick_ins s0 rx hi
        subst ev
        obtain rfl : u = Value.ref a := rv
        obtain ⟨ps, mt⟩ := hl y F (lookup_mem hF)
        obtain ⟨C', f, fd, hC', cl, me, hb, hFG⟩ := mt.ex
        have : C' = C := Option.some.inj (hC'.symm.trans hC)
        subst this
        refine getmeth_ok I1 h1 cl me (memb_no (by rw [e2]; exact hm)) ?_
        refine PySem.W.callWith_K (first := [.ref a]) (h₀ := X.base) I.ok.mod.kin me.kp (thn (ha.run pos pins s1 σ H1 _ I1 ⟨ρ, G, sps, M, s0, sl, post_bind (k := fun xs => F (x :: xs)) p fun xs M' G' ps' H' _ st s' p' vs rs => (⟨G', ps', M', x :: xs, s', Reps.cons (rx.mono st.ext) rs, p'⟩ : ∃ G ps M ds, Sto0 X.K G ps M H' ∧ Reps X.K G ps ds (.ref a :: vs) ∧ Post X.K W σ (PD X.K Q) G ps H' (F ds M))⟩) fun us s2 ⟨vs, H2, I2, r, q2⟩ => ⟨I2.kIn, ?_⟩) hst hpl
        obtain ⟨G2, ps2, M2, ds, s2', rr, p2⟩ := q2
        have sp := spD_of (W := W) (F := F) s2' rr p2
        have hle := hFG.lens sp
        have rv2 : Vals (V.ref a :: vs) (Value.ref a :: us) := .cons rfl r
        have hb1 := hb s2 (Value.ref a :: us) I2.kIn (by rw [List.append_nil, ← rv2.length]; exact hle)
        rw [List.append_nil] at hb1
        exact run_G (args := ⟨Value.ref a :: us, []⟩) hFG hr hG tk hb1 I2 rv2 sp
      · exact p.elim
    · exact p.elim
  · exact p.elim
/-- o.m() -/
theorem de_meth0 {pl : Sem Bool} (hl : ∀ x F, (x, F) ∈ l → ∃ ps, MtAt X.prog X.w X.K X.mg X.base k x m ps F) (hr : Room k X.A) (hG : X.A.guards = some []) (tk : Takes X W) (ho : DE X W o' o)
    (ht : eval (.Call (.Attribute o' m apos) [] [] pos) X.env = (do
      let ov ← eval o' X.env
      standAt apos.atName
      let (f, first) ← holding [ov] (getMethod ov m pl)
      callWith pos f first (backTo pos (starEach [] X.env)) (backToKw pos (keywordEach [] X.env))) := by rfl) :
    DE X W (.Call (.Attribute o' m apos) [] [] pos) (mM l m o aNil) := by
  refine ⟨fun pins s σ H Q I h => ?_⟩
  refine PySem.W.methodCall_KW (pl := pl) (thn (ho.run pins s σ H _ I (seq1 (k := fun ρ x => C.bind (pickM l m x) fun F => C.bind (aNil ρ) fun xs => F (x :: xs)) h)) fun u s1 ⟨v, H1, I1, rv, q⟩ => ?_) ht
  obtain ⟨ρ, G, sps, M, x, s0, sl, rx, p⟩ := q
  replace p : Post X.K W σ (PD X.K Q) G sps H1 ((pickM l m x M).bind fun F => C.bind (aNil ρ) fun xs => F (x :: xs)) := p
  unfold pickM at p
  split at p
  · rename_i y fn hi
    split at p
    · rename_i F hF
      split at p
      · rename_i hm
        obtain ⟨a, C, dx, kvs, ev, hC, h1, e2⟩ := pick_ins s0 rx hi
        subst ev
        obtain rfl : u = Value.ref a := rv
        obtain ⟨ps, mt⟩ := hl y F (lookup_mem hF)
        obtain ⟨C', f, fd, hC', cl, me, hb, hFG⟩ := mt.ex
        have : C' = C := Option.some.inj (hC'.symm.trans hC)
        subst this
        refine getmeth_ok I1 h1 cl me (memb_no (by rw [e2]; exact hm)) ?_
        have sp := spD_of (W := W) (F := F) s0 (Reps.cons rx Reps.nil) p
        have hle := hFG.lens sp
        have rv2 : Vals [V.ref a] [Value.ref a] := .cons rfl .nil
        have hb1 := hb s1 [Value.ref a] I1.kIn (by rw [List.append_nil, ← rv2.length]; exact hle)
        rw [List.append_nil] at hb1
        exact PySem.W.callWith_K0 (first := [.ref a]) I1.kIn me.kp (run_G (args := ⟨[Value.ref a], []⟩) hFG hr hG tk hb1 I1 rv2 sp)
      · exact p.elim
    · exact p.elim
  · exact p.elim
end
end DL
end
section
set_option Elab.async false
set_option linter.all false
set_option maxRecDepth 100000
set_option maxHeartbeats 2000000
namespace DL
open PySem PySem.Spec PyProof.Rows L2
/-! ### own == and != -/
def tagIn (T : KT) : Tag → Bool
  | .bt n => decide (n ∈ btNames)
  | .er x => decide (x ∈ T.errs)
  | .on x => decide (x ∈ T.inss)
section
variable {X : Cx} {G : Hp} {ps : List Addr} {M : Sto} {H : Hp} {T : KT} {W : WX}
theorem tag_kit (KT' : KTok X.K T) (s : Sto0 X.K G ps M H) {d : D} {v : V} {t : Tag} (r : Rep X.K G ps d v) (e : tagOf M d = some t) (ho : tagIn T t = true) :
    (∃ n, n ∈ btNames ∧ KitOf X v (.type n) H) ∨ (∃ z D, z ∈ T.errs ++ T.inss ∧ clsAt X.K z = some D ∧ KitOf X v (.ref D) H) := by
  have bt : ∀ {n : String}, t = .bt n → KitOf X v (.type n) H → (∃ n, n ∈ btNames ∧ KitOf X v (.type n) H) ∨ (∃ z D, z ∈ T.errs ++ T.inss ∧ clsAt X.K z = some D ∧ KitOf X v (.ref D) H) := fun {n} et k => by
    subst et
    exact .inl ⟨n, of_decide_eq_true ho, k⟩
  have fromIn : ∀ {a C dx : Addr} {x : Str} {kvs : List (Str × V)}, t = .on x → v = .ref a → clsAt X.K x = some C → H a = some (.ins C dx kvs) → (∃ n, n ∈ btNames ∧ KitOf X v (.type n) H) ∨ (∃ z D, z ∈ T.errs ++ T.inss ∧ clsAt X.K z = some D ∧ KitOf X v (.ref D) H) := fun {a C dx x kvs} et ev hC ha => by
    subst et
    subst ev
    have hx : x ∈ T.inss := of_decide_eq_true ho
    have c := KT'.ins x hx C hC
    exact .inr ⟨x, C, List.mem_append_right _ hx, hC, kit_ty0 (.base (.ins ha c.cl c.ha c.hn c.htk c.hm))⟩
  have plain : (tyName M d).map Tag.bt = some t → (∃ n, n ∈ btNames ∧ KitOf X v (.type n) H) ∨ (∃ z D, z ∈ T.errs ++ T.inss ∧ clsAt X.K z = some D ∧ KitOf X v (.ref D) H) := fun q => by
    obtain ⟨n, q1, q2⟩ := Option.map_eq_some_iff.mp q
    exact bt q2.symm (kit_ty0 (tyName_of s r q1))
  cases d with
  | exc x fn ds =>
    cases e
    unfold Rep at r
    obtain ⟨a, C, dx, kvs, ev, hC, h1, h2, _⟩ := r
    subst ev
    have hx : x ∈ T.errs := of_decide_eq_true ho
    exact .inr ⟨x, C, List.mem_append_left _ hx, hC, kit_xo (KT'.err x hx C hC) (s.sub _ _ h1) (s.sub _ _ h2)⟩
  | ins x fn ds =>
    cases e
    unfold Rep at r
    obtain ⟨a, C, dx, kvs, ev, hC, h1, h2, _⟩ := r
    exact fromIn rfl ev hC (s.sub _ _ h1)
  | ptr n =>
    have r0 := r
    unfold Rep at r
    obtain ⟨a, ev, hp⟩ := r
    dsimp only [tagOf] at e
    cases z : M[n]? with
    | none => rw [z] at e; cases e
    | some mo =>
      rw [z] at e
      cases mo with
      | lst es => cases e; exact bt rfl (kit_ty0 (tyName_of s r0 (by dsimp only [tyName]; rw [z])))
      | ins x fn es =>
        cases e
        obtain ⟨a', C, dx, kvs, e1, hC, _, e3, _⟩ := s.mem n _ z
        have : a' = a := Option.some.inj (e1.symm.trans hp)
        subst this
        exact fromIn rfl ev hC e3
      | tbl _ _ => cases e
      | frz d' =>
        cases d' with
        | lst es => cases e; exact bt rfl (kit_ty0 (tyName_of s r0 (by dsimp only [tyName]; rw [z])))
        | ins x fn es =>
          cases e
          obtain ⟨a', e1, rr⟩ := s.mem n _ z
          have : a' = a := Option.some.inj (e1.symm.trans hp)
          subst this
          unfold Rep at rr
          obtain ⟨b', C, dx, kvs, e2, hC, h1, _⟩ := rr
          have : b' = a' := (V.ref.inj e2).symm
          subst this
          exact fromIn rfl ev hC (s.sub _ _ h1)
        | _ => cases e
  | non => exact plain e
  | bl _ => exact plain e
  | int _ => exact plain e
  | str _ => exact plain e
  | ty _ => exact plain e
  | obj _ => exact plain e
  | lst _ => exact plain e
  | fz _ => exact plain e
  | tup _ => exact plain e
  | ft _ => exact plain e
  | dic _ _ => exact plain e
  | cls _ => exact plain e
end
/-- what != asks of a class that says == alone -/
structure NeC (K : PySem.W.Frag) (C f : Addr) : Prop where
  cls : ∃ nm q N bs hdct sn sub ab col dd k0 k1 k2 k3 k5 newId, K.lookup C = some (excClassObj nm q C N bs [.type "object"] hdct sn sub ab col dd k0 k1 k2 k3 k5 newId) ∧ PySem.W.nsOkIn K N = true ∧ PySem.W.nsIn K N "__eq__" = some (some (.ref f)) ∧ PySem.W.nsIn K N "__ne__" = some none
/-- own == -/
structure EqAt (P : Program) (w : World) (K : PySem.W.Frag) (mg : Str → Option Value) (base : Heap) (T : KT) (k : Nat) (x : Str) (F : List D → C D) : Prop where
  ex : ∃ C f fd ps, clsAt K x = some C ∧ PySem.W.findIn K (.ref C) "__eq__" = some (some (.ref f)) ∧ PySem.W.isFn K (.ref f) = true ∧ Binds K fd ps [] ∧ FnG P w K mg base k f fd ps F ∧ NeC K C f ∧
    (∀ n ∈ btNames, PySem.W.notFirst K C (.type n) = true) ∧ ∀ y ∈ T.errs ++ T.inss, ∀ D, clsAt K y = some D → PySem.W.notFirst K C (.ref D) = true
def dEqZ (T : KT) (l : List (Str × (List D → C D))) : D → D → C D := fun x y M => match insOf M x with
  | some (cx, _) => match l.lookup cx with
    | some F => match tagOf M y with
      | some t => if tagIn T t = true then C.ne (F [x, y]) M else .bad
      | none => .bad
    | none => .bad
  | none => dEqv false x y M
def notB : D → C D
  | .bl b => C.pure (.bl (!b))
  | _ => C.bad
def dNeZ (l : List (Str × (List D → C D))) : D → D → C D := fun x y M => match insOf M x with
  | some (cx, _) => match l.lookup cx with
    | some F => match insOf M y with
      | some (cy, _) => if cy = cx then C.ne (C.bind (F [x, y]) notB) M else .bad
      | none => .bad
    | none => .bad
  | none => dEqv true x y M
section
variable {X : Cx} {T : KT} {k : Nat} {l : List (Str × (List D → C D))} {W : WX}
/-- a def called in any surrounding of ours, nothing raised -/
theorem run_quiet {A : Around} {pins : List (Addr × Obj)} {σ : L2.St} {H : Hp} {s : Shared} {Q : VK} {us : List Value} {vs : List V} {f : Addr} {fd : FuncData} {ps : List Str} {F : List D → C D} {E : Value → Shared → Prop} (hF : FnG X.prog X.w X.K X.mg X.base k f fd ps F) (hr : Room k A) (hG : A.guards = some []) (hb : Binds X.K fd ps [])
    (e0 : Env0 X.prog X.w X.K X.mg X.base A X.stack s H) (I : L2.Inv X pins σ H s) (r : Vals vs us) (h : spD X.K F vs H Q (fun _ _ _ => False)) : wpAny (model X.prog X.w) A (PySem.call (.ref f) us) (EP X pins σ Q) E s := by
  have hl := hF.lens h
  have hb1 := hb s us I.kIn (by rw [List.append_nil, ← r.length]; exact hl)
  rw [List.append_nil] at hb1
  refine wpAny_call (codeAny_mono (hF.go A X.stack s H ⟨us, []⟩ us vs Q _ hG hr e0 hb1 r h) fun q s' hq => ?_)
  cases q with
  | error er =>
    obtain ⟨_, _, _, _, _, _, _, _, _, _, _, _, _, _, _, z⟩ := hq
  | ok fl =>
    cases fl with
    | ret u => exact I.after hq
    | next => exact False.elim hq
    | brk => exact False.elim hq
    | cont => exact False.elim hq
def rOwnEq (X : Cx) (k : Nat) : R2 := fun x y H Q => ∃ a C dx fs t f fd ps F, x = .ref a ∧ H a = some (.ins C dx fs) ∧ KitOf X y t H ∧ PySem.W.notFirst X.K C t = true ∧ PySem.W.findIn X.K (.ref C) "__eq__" = some (some (.ref f)) ∧ PySem.W.isFn X.K (.ref f) = true ∧
  Binds X.K fd ps [] ∧ FnG X.prog X.w X.K X.mg X.base k f fd ps F ∧ spD X.K F [x, y] H Q (fun _ _ _ => False)
theorem op_ownEq (hr : Room k X.A) (hG : X.A.guards = some []) : OpR X (compareOp .Eq) (rOwnEq X k) := fun pins s σ H x y v u Q I rx ry h => by
  obtain ⟨a, C, dx, fs, t, f, fd, ps, F, rfl, ha, kt, nf, hs, hf, hb, hF, q⟩ := h
  cases (show v = Value.ref a from rx)
  obtain ⟨P, Z, p, _⟩ := kt pins s σ u I ry
  obtain ⟨mA, O, _⟩ := ins_get I.hok ha
  obtain ⟨od, J, _⟩ := O.look
  obtain ⟨m, hFr⟩ := I.fr
  unfold compareOp
  refine PySem.W.cmp_K (op := .Eq) (tb := t) hr.units0 hFr I.ok.mod.kin J (Z.ty _ _ I.kIn p) nf hs hf ?_
  refine wpAny_mono (run_quiet (us := [.ref a, u]) (vs := [.ref a, y]) hF hr hG hb I.env0 I (.cons rfl (.cons ry .nil)) q) (fun w s' z => ?_) fun _ _ x => x
  obtain ⟨z', H', I', rz, qz⟩ := z
  exact SlX.cmpback rz ⟨z', H', I', rz, qz⟩
def rOwnNe (X : Cx) (k : Nat) : R2 := fun x y H Q => ∃ a b C dx dy fs gs f fd ps F, x = .ref a ∧ y = .ref b ∧ H a = some (.ins C dx fs) ∧ H b = some (.ins C dy gs) ∧ NeC X.K C f ∧ PySem.W.isFn X.K (.ref f) = true ∧
  Binds X.K fd ps [] ∧ FnG X.prog X.w X.K X.mg X.base k f fd ps F ∧ spD X.K F [x, y] H (fun v H' => ∃ c, v = .bl c ∧ Q (.bl (!c)) H') (fun _ _ _ => False)
theorem ns_some {K : PySem.W.Frag} {h : Heap} {N : Addr} {mN : Str → Option Value} {n : Str} {v : Value} (kin : K.In h) (ns : h.Ns N mN) (e : PySem.W.nsIn K N n = some (some v)) : mN n = some v := by
  obtain ⟨od, es, ep, hget, hdat, _, look⟩ := ns
  unfold PySem.W.nsIn at e
  split at e
  · rename_i z
    have z2 := kin _ _ z
    rw [hget] at z2
    cases z2
    cases hdat
    split at e
    · rename_i en hen
      rw [← look]
      unfold nsFind findBy
      rw [← Array.find?_toList, hen]
      have e2 := Option.some.inj e
      first
        | exact e2
        | (simpa using e2)
    · split at e
      · cases e
      · cases e
  · cases e
theorem fn_at {K : PySem.W.Frag} {f : Addr} (h : PySem.W.isFn K (.ref f) = true) : ∃ of, K.lookup f = some of ∧ of.cls = .type "function" := by
  unfold PySem.W.isFn at h
  have h2 := beq_iff_eq.mp h
  unfold PySem.W.typeIn at h2
  cases q : K.lookup f with
  | none => simp [q] at h2
  | some o => simp [q] at h2; exact ⟨o, rfl, h2⟩
theorem op_ownNe (hr : Room (k + 1) X.A) (hG : X.A.guards = some []) : OpR X (compareOp .NotEq) (rOwnNe X k) := fun pins s σ H x y v u Q I rx ry h => by
  obtain ⟨a, b, C, dx, dy, fs, gs, f, fd, ps, F, rfl, rfl, ha, hb', nc, hf, hb, hF, q⟩ := h
  cases (show v = Value.ref a from rx)
  cases (show u = Value.ref b from ry)
  obtain ⟨_, O, _⟩ := ins_get I.hok ha
  obtain ⟨_, J, _⟩ := O.look
  obtain ⟨_, O', _⟩ := ins_get I.hok hb'
  obtain ⟨_, J', _⟩ := O'.look
  obtain ⟨nm, qn, N, bs, hdct, sn, sub, ab, col, dd, k0, k1, k2, k3, k5, newId, hC, hok, he, hne⟩ := nc.cls
  obtain ⟨of, hof, hofc⟩ := fn_at hf
  have hNs : s.heap.Ns N (s.heap.nsMap N) := .of_isNs (PySem.W.isNs_of_in I.kIn hok)
  have XX : s.heap.OwnEqNoNe a C f "object" [.type "object"] :=
    ⟨_, of, nm, qn, N, bs, hdct, sn, sub, ab, col, dd, k0, k1, k2, k3, k5, newId, _, _, J.at_, J.cls, I.kIn _ _ hC, hNs, ns_some I.kIn hNs he, I.kIn _ _ hof, hofc, PySem.F.cmp_object.mro, PySem.F.cmp_object.eq.lookup, PySem.W.ns_none_of I.kIn hNs hne⟩
  obtain ⟨hp, g, d, t, os⟩ := s
  refine compareOp_ne_ownEq PySem.F.cmp_object XX J'.at_ J'.cls (by have := hr.units; omega) ?_
  refine wpAny_mono (run_quiet (A := X.A.in1) (us := [.ref a, .ref b]) (vs := [.ref a, .ref b]) hF hr.in1 hG hb I.env0.in1 I (.cons rfl (.cons rfl .nil)) q) (fun w s' z => ?_) fun _ _ x => x
  obtain ⟨z', H', I', rz, c, ez, qz⟩ := z
  subst ez
  obtain rfl : w = Value.bool c := rz
  exact ⟨c, rfl, ⟨.bl (!c), H', I', rfl, qz⟩⟩
/-- x == y: own instances ask their class, all else is compared as data -/
theorem eqZ_D (KT' : KTok X.K T) (hl : ∀ x F, (x, F) ∈ l → EqAt X.prog X.w X.K X.mg X.base T k x F) : OpD X W (dEqZ T l) (fun x y H Q => rOwnEq X k x y H Q ∨ rEqA X.K x y H Q) := fun σ v u H Q h => by
  obtain ⟨ρ, G, ps, M, x, y, s, sl, r1, r2, p⟩ := h
  replace p : Post X.K W σ (PD X.K Q) G ps H (dEqZ T l x y M) := p
  unfold dEqZ at p
  split at p
  · rename_i cx fn hi
    split at p
    · rename_i F hF
      split at p
      · rename_i t ht
        split at p
        · rename_i hin
          obtain ⟨a, C, dx, kvs, ev, hC, ha, e2⟩ := pick_ins s r1 hi
          obtain ⟨C', f, fd, gs, hC', hs, hf, hb, hFG, _, nb, no⟩ := (hl cx F (lookup_mem hF)).ex
          have : C' = C := Option.some.inj (hC'.symm.trans hC)
          subst this
          have sp : spD X.K F [v, u] H Q (fun _ _ _ => False) := by
            refine ⟨G, ps, M, [x, y], s, Reps.cons r1 (Reps.cons r2 Reps.nil), ?_⟩
            unfold C.ne at p
            cases z : F [x, y] M with
            | ok d M' => rw [z] at p; exact p
            | err c fn' es M' => rw [z] at p; exact p.elim
            | bad => rw [z] at p; exact p.elim
          rcases tag_kit KT' s r2 ht hin with ⟨n, hn, kt⟩ | ⟨z, D', hz, hD, kt⟩
          · exact .inl ⟨a, C', dx, kvs, _, f, fd, gs, F, ev, ha, kt, nb n hn, hs, hf, hb, hFG, sp⟩
          · exact .inl ⟨a, C', dx, kvs, _, f, fd, gs, F, ev, ha, kt, no z hz D' hD, hs, hf, hb, hFG, sp⟩
        · exact p.elim
      · exact p.elim
    · exact p.elim
  · refine .inr (op_eqDD (X := X) (W := W) σ v u H Q ?_)
    exact ⟨ρ, G, ps, M, x, y, s, sl, r1, r2, p⟩
theorem neZ_D (hl : ∀ x F, (x, F) ∈ l → EqAt X.prog X.w X.K X.mg X.base T k x F) : OpD X W (dNeZ l) (fun x y H Q => rOwnNe X k x y H Q ∨ rNeA X.K x y H Q) := fun σ v u H Q h => by
  obtain ⟨ρ, G, ps, M, x, y, s, sl, r1, r2, p⟩ := h
  replace p : Post X.K W σ (PD X.K Q) G ps H (dNeZ l x y M) := p
  unfold dNeZ at p
  split at p
  · rename_i cx fn hi
    split at p
    · rename_i F hF
      split at p
      · rename_i cy gn hj
        split at p
        · rename_i hc
          subst hc
          obtain ⟨a, C, dx, kvs, ev, hC, ha, e2⟩ := pick_ins s r1 hi
          obtain ⟨b, C2, dy, lvs, eu, hC2, hb2, e3⟩ := pick_ins s r2 hj
          have q1 : C2 = C := Option.some.inj (hC2.symm.trans hC)
          subst q1
          obtain ⟨C', f, fd, gs, hC', _, hf, hb, hFG, nc, _, _⟩ := (hl _ F (lookup_mem hF)).ex
          have : C' = C2 := Option.some.inj (hC'.symm.trans hC)
          subst this
          refine .inl ⟨a, b, C', dx, dy, kvs, lvs, f, fd, gs, F, ev, eu, ha, hb2, nc, hf, hb, hFG, G, ps, M, [x, y], s, Reps.cons r1 (Reps.cons r2 Reps.nil), ?_⟩
          unfold C.ne C.bind at p
          cases z : F [x, y] M with
          | ok d M' =>
            rw [z] at p
            cases d with
            | bl c =>
              refine fun G' ps' H' st s' v' hv => ?_
              unfold Rep at hv
              exact ⟨c, hv, p G' ps' H' st s' _ Rep.bl_of⟩
            | _ => exact p.elim
          | err c fn' es M' => rw [z] at p; exact p.elim
          | bad => rw [z] at p; exact p.elim
        · exact p.elim
      · exact p.elim
    · exact p.elim
  · refine .inr (op_neDD (X := X) (W := W) σ v u H Q ?_)
    exact ⟨ρ, G, ps, M, x, y, s, sl, r1, r2, p⟩
theorem or_eqZ (hr : Room (k + 1) X.A) (hG : X.A.guards = some []) (hu : X.A.units + 64 < cLine) : OpR X (compareOp .Eq) (fun x y H Q => rOwnEq X k x y H Q ∨ rEqA X.K x y H Q) := (op_ownEq (hr.mono (Nat.le_succ _)) hG).or (op_eqA hu)
theorem or_neZ (hr : Room (k + 1) X.A) (hG : X.A.guards = some []) (hu : X.A.units + 64 < cLine) : OpR X (compareOp .NotEq) (fun x y H Q => rOwnNe X k x y H Q ∨ rNeA X.K x y H Q) := (op_ownNe hr hG).or (op_neA hu)
end
end DL
end
section
set_option Elab.async false
set_option linter.all false
set_option maxRecDepth 100000
set_option maxHeartbeats 2000000
namespace DL
open PySem PySem.Spec PyProof.Rows L2
/-! ### dicts of the text, keys texts, values tuples -/
abbrev Tab := List (Str × List D)
structure TabAt (K : PySem.W.Frag) (w : World) (x : Str) (tab : Tab) : Prop where
  ex : ∃ d es n, clsAt K x = some d ∧ KDict K w d es n ∧ (∀ z, tab.lookup z = none → PySem.W.nsIn K d z = some none) ∧
    ∀ z ds, tab.lookup z = some ds → ∃ t, PySem.W.nsIn K d z = some (some (.ref t)) ∧ ∀ G ps, Rep K G ps (.ft ds) (.ref t)
def dInK (neg : Bool) (ts : List (Str × Tab)) : D → D → C D
  | .str z, .cls x => match ts.lookup x with
    | some tab => C.pure (.bl (if neg then !(tab.lookup z).isSome else (tab.lookup z).isSome))
    | none => C.bad
  | _, _ => C.bad
def dIxK (ts : List (Str × Tab)) : D → D → C D
  | .cls x, .str z => match ts.lookup x with
    | some tab => match tab.lookup z with
      | some ds => C.pure (.ft ds)
      | none => C.bad
    | none => C.bad
  | _, _ => C.bad
def rInK (K : PySem.W.Frag) (w : World) (neg : Bool) : R2 := fun x y H Q => ∃ (z : Str) (d : Addr) (es : Array DictEntry) (n : Nat) (r : Option Value), x = .str z ∧ y = .ref d ∧ KDict K w d es n ∧ PySem.W.nsIn K d z = some r ∧ Q (.bl (if neg then !r.isSome else r.isSome)) H
section
variable {X : Cx} {W : WX} {ts : List (Str × Tab)}
theorem op_inK : OpR X (compareOp .In) (rInK X.K X.w false) := fun pins s σ H x y v u Q I rx ry ⟨z, d, es, n, r, e1, e2, D, e3, q⟩ => op_in_kd D pins s σ H x y v u Q I rx ry ⟨z, r, e1, e2, e3, q⟩
theorem op_notInK : OpR X (compareOp .NotIn) (rInK X.K X.w true) := fun pins s σ H x y v u Q I rx ry ⟨z, d, es, n, r, e1, e2, D, e3, q⟩ => op_notIn_kd D pins s σ H x y v u Q I rx ry ⟨z, r, e1, e2, e3, q⟩
theorem inK_D {neg : Bool} (hT : ∀ x tab, (x, tab) ∈ ts → TabAt X.K X.w x tab) : OpD X W (dInK neg ts) (rInK X.K X.w neg) := fun σ v u H Q h => by
  obtain ⟨G, ps, M, x, y, s, r1, r2, p⟩ := h.out
  unfold dInK at p
  split at p
  · rename_i z cx
    cases ht : ts.lookup cx with
    | none => rw [ht] at p; exact p.elim
    | some tab =>
      rw [ht] at p
      unfold Rep at r1 r2
      subst r1
      obtain ⟨C, e2, hC⟩ := r2
      subst e2
      obtain ⟨d, es, n, hd, KD, no, yes⟩ := (hT cx tab (lookup_mem ht)).ex
      have : d = C := Option.some.inj (hd.symm.trans hC)
      subst this
      have fin := p G ps H Stp.refl s _ Rep.bl_of
      cases q : tab.lookup z with
      | none => rw [q] at fin; exact ⟨z, d, es, n, none, rfl, rfl, KD, no z q, fin⟩
      | some ds =>
        rw [q] at fin
        obtain ⟨t, e, _⟩ := yes z ds q
        exact ⟨z, d, es, n, some (.ref t), rfl, rfl, KD, e, fin⟩
  · exact p.elim
/-- FORMS[e] -/
def rIxK (K : PySem.W.Frag) (w : World) : R2 := fun x y H Q => ∃ (z : Str) (d : Addr) (es : Array DictEntry) (n : Nat) (u0 : Value) (v0 : V), x = .ref d ∧ y = .str z ∧ KDict K w d es n ∧ PySem.W.nsIn K d z = some (some u0) ∧ RelV v0 u0 ∧ Q v0 H
theorem ixK_D (hT : ∀ x tab, (x, tab) ∈ ts → TabAt X.K X.w x tab) : OpD X W (dIxK ts) (rIxK X.K X.w) := fun σ v u H Q h => by
  obtain ⟨G, ps, M, x, y, s, r1, r2, p⟩ := h.out
  unfold dIxK at p
  split at p
  · rename_i cx z
    cases ht : ts.lookup cx with
    | none => rw [ht] at p; exact p.elim
    | some tab =>
      rw [ht] at p
      cases hz : tab.lookup z with
      | none => dsimp only at p; rw [hz] at p; exact p.elim
      | some ds =>
        dsimp only at p
        rw [hz] at p
        unfold Rep at r1 r2
        subst r2
        obtain ⟨C, e2, hC⟩ := r1
        subst e2
        obtain ⟨d, es, n, hd, KD, no, yes⟩ := (hT cx tab (lookup_mem ht)).ex
        have : d = C := Option.some.inj (hd.symm.trans hC)
        subst this
        obtain ⟨t, e, rt⟩ := yes z ds hz
        exact ⟨z, d, es, n, _, .ref t, rfl, rfl, KD, e, rfl, p G ps H Stp.refl s _ (rt G ps)⟩
  · exact p.elim
end
/-! ### str, join -/
def dStr : List D → C D
  | [.int i] => if i.natAbs.log2 < 1920 then C.pure (.str (toString i)) else C.bad
  | [.str x] => C.pure (.str x)
  | _ => C.bad
section
variable {X : Cx} {W : WX}
theorem call_strZ : CallR X (.type "str") (fun xs H Q => (∃ i : Int, xs = [.int i] ∧ i.natAbs.log2 < 1920 ∧ Q (.str (toString i)) H) ∨ ∃ a, xs = [.str a] ∧ Q (.str a) H) := fun pins s σ H xs us Q I r h =>
  h.elim (fun h => call_str_int pins s σ H xs us Q I r h) fun h => SkE.call_str_str pins s σ H xs us Q I r h
theorem str_D : CallD X W dStr (fun xs H Q => (∃ i : Int, xs = [.int i] ∧ i.natAbs.log2 < 1920 ∧ Q (.str (toString i)) H) ∨ ∃ a, xs = [.str a] ∧ Q (.str a) H) := fun σ vs H Q h => by
  obtain ⟨G, ps, M, xs, s, r, p⟩ := h.out
  unfold dStr at p
  split at p
  · obtain ⟨v, e, r1⟩ := r.one
    subst e
    unfold Rep at r1
    subst r1
    split at p
    · rename_i z
      exact .inl ⟨_, rfl, z, p G ps H Stp.refl s _ Rep.str_of⟩
    · exact p.elim
  · obtain ⟨v, e, r1⟩ := r.one
    subst e
    unfold Rep at r1
    subst r1
    exact .inr ⟨_, rfl, p G ps H Stp.refl s _ Rep.str_of⟩
  · exact p.elim
end
def strsOf : List D → Option (List Str)
  | [] => some []
  | .str x :: r => (strsOf r).map (x :: ·)
  | _ => none
theorem strs_rep {K : PySem.W.Frag} {G : Hp} {ps : List Addr} : ∀ {ds : List D} {vs : List V} {ys : List Str}, Reps K G ps ds vs → strsOf ds = some ys → vs = ys.map V.str
  | [], vs, ys, r, e => by unfold Reps at r; subst r; cases e; rfl
  | d :: ds, vs, ys, r, e => by
    obtain ⟨v, r', e1, r1, r2⟩ := r.uncons
    subst e1
    cases d with
    | str x =>
      obtain ⟨zs, e2, e3⟩ := Option.map_eq_some_iff.mp e
      subst e3
      unfold Rep at r1
      subst r1
      rw [strs_rep r2 e2]; rfl
    | _ => cases e
/-- sep.join(e) -/
def dJoin : D → List D → C D := fun o es M => match o, es with
  | .str a, [d] => match asSeq M d with
    | some ds => match strsOf ds with
      | some ys => if (ys.map (·.length)).sum + ys.length * a.length ≤ 16777216 then .ok (.str (Txt.join a ys)) M else .bad
      | none => .bad
    | none => .bad
  | _, _ => .bad
section
variable {X : Cx} {W : WX} {o' b : Expr} {o : Env → C D} {g : Env → C (List D)} {apos cpos : Pos}
theorem join_D : MtD X W dJoin (fun x xs H Q => ∃ a p, ∃ ys : List Str, x = .str a ∧ xs = [.ref p] ∧ (SqL X.K H p (ys.map V.str) ∨ SqT X.K H p (ys.map V.str)) ∧ (ys.map (·.length)).sum + ys.length * a.length ≤ 16777216 ∧ Q (.str (Txt.join a ys)) H) := fun σ v vs H Q h => by
  obtain ⟨G, ps, M, x, xs, s, r1, rs, p⟩ := h
  unfold dJoin at p
  split at p
  · rename_i a d
    split at p
    · rename_i ds hd
      split at p
      · rename_i ys hy
        split at p
        · rename_i hz
          unfold Rep at r1
          subst r1
          obtain ⟨u, e, ru⟩ := rs.one
          subst e
          obtain ⟨q, zs, e2, hs, rr⟩ := asSeq_rep s ru hd
          subst e2
          have ez := strs_rep rr hy
          subst ez
          exact ⟨a, q, ys, rfl, rfl, hs, hz, p G ps H Stp.refl s _ Rep.str_of⟩
        · exact p.elim
      · exact p.elim
    · exact p.elim
  · exact p.elim
theorem de_join (ho : DE X W o' o) (ha : DA X W [b] g) (hbase : attributeBase o' "join" X.env (eval o' X.env) = eval o' X.env := by rfl)
    (hfew : ((backTo cpos (starEach [b] X.env)).all (fun x => !x.1) && (backToKw cpos (keywordEach [] X.env)).all (fun x => x.1.isSome)
      && decide ([b].length + ([] : List Keyword).length + (if ([] : List Keyword).isEmpty then 0 else 1) < 30)) = true := by rfl)
    (hline : (apos.endLine == cpos.line) = true := by rfl) (hs : starEach [b] X.env = (false, eval b X.env) :: starEach [] X.env := by rfl) (hplain : (backTo cpos (starEach [] X.env)).any (·.1) = false := by rfl) :
    DE X W (.Call (.Attribute o' "join" apos) [b] [] cpos) (mB "str" dJoin o g) :=
  de_bm PySem.F.plainAttrs_str PySem.F.slot_str_join PySem.F.type_str_join mt_join join_D ho ha (by simp) hbase hfew hline hs hplain
end
/-! ### a def that calls itself, to a depth -/
/-- so many levels of calls -/
def recN (n np : Nat) (B : (List D → C D) → SF) : Nat → List D → C D
  | 0 => fun _ => C.bad
  | k + 1 => dDef n np (B (recN n np B k))
section
variable {P : Program} {w : World} {K : PySem.W.Frag} {mg : Str → Option Value} {base : Heap}
theorem fn_none {k : Nat} {f : Addr} {fd : FuncData} {ps : List Str} : FnG P w K mg base k f fd ps (fun _ => C.bad) :=
  ⟨fun ds M h => (h rfl).elim, fun A outer s H args us vs Q E _ _ _ _ _ h => by
    obtain ⟨G, sp, M, ds, s0, rr, p⟩ := h
    exact p.elim⟩
theorem fn_rec {x : Str} {st : Stmt} {f : Addr} {fd : FuncData} {N ps : List Str} {j : Nat} {B : (List D → C D) → SF} (F : Fun K x x st f fd) (S : FnScope N ps (defScope st)) (hm : mg x = some (.ref f)) (hb : Binds K fd ps [])
    (hbody : ∀ (k : Nat) (G : List D → C D), FnAt P w K mg base (j + k) st x ps G → ∀ (cdv : Value) (A : Around) (outer : List PySem.Env) (s : Shared) (H : Hp) (E : XK), Ctx (cxOf (L2.CX P w) P w K mg base N x (defScope st) f cdv A outer s H E) (fun c d _ H' => E c d H') (j + k) →
      DSs (cxOf (L2.CX P w) P w K mg base N x (defScope st) f cdv A outer s H E) (fun c d _ H' => E c d H') (defBody st) (B G)) {n np : Nat} (hn : N.length = n := by rfl) (hp : ps.length = np := by rfl) : ∀ k, FnG P w K mg base (j + k) f fd ps (recN n np B k)
  | 0 => fn_none
  | k + 1 => fn_def (k := j + k) F S (hbody k _ ⟨f, fd, hm, F, hb, fn_rec F S hm hb hbody hn hp k⟩) (hn := hn) (hp := hp)
end
end DL
end
section
set_option Elab.async false
set_option linter.all false
set_option maxRecDepth 100000
set_option maxHeartbeats 2000000
namespace DL
open PySem PySem.Spec PyProof.Rows L2
/-! ### a comprehension whose list may change -/
theorem Sto0.adopt {K : PySem.W.Frag} {G : Hp} {ps : List Addr} {M : Sto} {H : Hp} {p : Addr} {xs : List V} {ds : List D} (s : Sto0 K G ps M H) (h : H p = some (.lst xs)) (hp : p ∉ ps) (hg : G p = none) (r : Reps K G ps ds xs) : Sto0 K G (ps ++ [p]) (M ++ [.lst ds]) H where
  sub := s.sub
  mem := fun n mo e => by
    by_cases z : n < M.length
    · rw [List.getElem?_append_left z] at e
      exact (s.mem n mo e).mono ext_ptr (fun _ _ g => g) (fun a u e2 q => q)
    · have e' : n = M.length := by
        have := (List.getElem?_eq_some_iff.mp e).1
        rw [List.length_append, List.length_singleton] at this
        omega
      subst e'
      rw [List.getElem?_append_right (Nat.le_refl _), Nat.sub_self] at e
      have e2 : MO.lst ds = mo := by simpa using e
      subst e2
      exact ⟨p, xs, by rw [← s.len, List.getElem?_append_right (Nat.le_refl _), Nat.sub_self]; rfl, hg, h, r.mono ext_ptr⟩
  nd := by
    rw [List.nodup_append]
    refine ⟨s.nd, by simp, fun a ha b hb => ?_⟩
    have hb' : b = p := by simpa using hb
    subst hb'
    exact fun z => hp (z ▸ ha)
  len := by rw [List.length_append, List.length_append, s.len]; rfl
  old := fun n a e => by
    rcases List.mem_append.mp (List.mem_of_getElem? e) with q | q
    · obtain ⟨i, hi⟩ := List.getElem?_of_mem q
      exact s.old i a hi
    · have e' : a = p := by simpa using q
      rw [e', h]; simp
def dLcM (it : Env → C (List D)) (q : Pat) (t : Env → C Bool) (e : Env → C D) (vs : List Nat) : Env → C D := fun ρ => C.bind (it ρ) fun ds => C.bind (lcS q t e (wipeE ρ vs) ds []) fun acc => allocL acc
section
variable {X : Cx} {W : WX} {it : Env → C (List D)}
theorem lc_impM {q : Pat} {t : Env → C Bool} {vs : List Nat} {wi : TI} {fe : Env → C D} (hwi : ∀ σ H R, TDp X.K W (fun ds G ps _ H' => ∀ J, Walks X.K G ps J ds → R J H') it σ H → wi σ H R) (hq : ∀ i ∈ q.slots, i ∈ vs) :
    ∀ σ H Q, TD X.K W (dLcM it q t fe vs) σ H Q → tLc wi (gD X.K q) (TB X.K W0 t) (TD X.K W0 fe) vs σ H Q := fun σ H Q h => by
  obtain ⟨ρ, G, ps, M, s, sl, p⟩ := h
  refine hwi σ H _ ⟨ρ, G, ps, M, s, sl, post_bind (k := fun ds => C.bind (lcS q t fe (wipeE ρ vs) ds []) fun acc => allocL acc) p fun ds M1 G1 ps1 H1 _ st1 s1 p1 J hJ D hD => ?_⟩
  have slw := (sl.mono st1.ext).wipe vs
  refine ⟨fun i m H => m = ds.length - i ∧ ∃ G' ps' M acc xs, Ext G1 ps1 G' ps' ∧ Sto0 X.K G' ps' M H ∧ H D = some (.lst xs) ∧ D ∉ ps' ∧ G' D = none ∧ Reps X.K G' ps' acc xs ∧ Post X.K W σ (PD X.K Q) G' ps' (hid H D) ((C.bind (lcS q t fe (wipeE ρ vs) (ds.drop i) acc) fun acc => allocL acc) M), ⟨_, rfl, G1, ps1, M1, [], [], Ext.refl, s1.junk hD, upd_same, fun hm => ?_, s1.gnone hD, Reps.nil, ?_⟩, ?_⟩
  · obtain ⟨j, hj⟩ := List.getElem?_of_mem hm
    exact s1.old j D hj hD
  · rw [hid_upd, hid_none hD, List.drop_zero]
    exact p1
  · rintro i m H ⟨em, G', ps', M, acc, xs, x, s, hDx, hDp, hDg, ra, p⟩
    obtain ⟨w1, w2⟩ := hJ i G' ps' M H x s
    cases z : ds[i]? with
    | none =>
      have hl : ds.length ≤ i := List.getElem?_eq_none_iff.mp z
      rw [List.drop_eq_nil_of_le hl] at p
      refine .inl ⟨w1 hl, ?_⟩
      have p : Post X.K W σ (PD X.K Q) G' ps' (hid H D) (.ok (.ptr M.length) (M ++ [.lst acc])) := p
      refine p G' (ps' ++ [D]) H ⟨⟨fun _ _ h => h, [D], rfl⟩, fun a o e _ => (hid_some e).1, fun a h => ?_, fun a o e => .inl e⟩ (s.adopt hDx hDp hDg ra) _ ?_
      · rcases List.mem_append.mp h with z | z
        · exact .inl z
        · have e : a = D := by simpa using z
          subst e
          exact .inr (by unfold hid; rw [if_pos rfl])
      · unfold Rep
        exact ⟨D, rfl, by rw [← s.len, List.getElem?_append_right (Nat.le_refl _), Nat.sub_self]; rfl⟩
    | some d =>
      obtain ⟨hi, e⟩ := List.getElem?_eq_some_iff.mp z
      obtain ⟨hgo, hy⟩ := w2 d z
      rw [List.drop_eq_getElem_cons hi, e] at p
      refine .inr ⟨hgo, fun H' => ∃ G' ps' M acc xs, Ext G1 ps1 G' ps' ∧ Sto0 X.K G' ps' M H' ∧ H' D = some (.lst xs) ∧ D ∉ ps' ∧ G' D = none ∧ Reps X.K G' ps' acc xs ∧ Post X.K W σ (PD X.K Q) G' ps' (hid H' D) ((C.bind (lcS q t fe (wipeE ρ vs) (ds.drop (i + 1)) acc) fun acc => allocL acc) M), fun H' hn => ⟨ds.length - (i + 1), by omega, rfl, hn⟩, fun v H' y => ?_⟩
      obtain ⟨G2, st2, s2, r2⟩ := hy v H' y
      have hD2 : H' D = some (.lst xs) := st2.keep D _ hDx hDp
      have hDg2 : G2 D = none := by
        cases w : G2 D with
        | none => rfl
        | some o => rcases st2.newG D o w with z | z | z
                    · rw [hDg] at z; cases z
                    · rw [hDx] at z; cases z
                    · exact (hDp z).elim
      have ra2 := ra.mono st2.ext
      have xx := x.trans st2.ext
      unfold lcS at p
      cases z2 : q.put M d (wipeE ρ vs) with
      | none =>
        have p : Post X.K W σ (PD X.K Q) G' ps' (hid H D) ((match q.put M d (wipeE ρ vs) with
          | some ρ1 => C.bind (C.ne (t ρ1)) (fun b => if b = true then C.bind (C.ne (fe ρ1)) (fun y => if acc.length < sizeLine then lcS q t fe (wipeE ρ vs) (ds.drop (i + 1)) (acc ++ [y]) else C.bad) else lcS q t fe (wipeE ρ vs) (ds.drop (i + 1)) acc) M
          | none => .bad).bind fun acc => allocL acc) := p
        rw [z2] at p
        exact p.elim
      | some ρ1 =>
        have p : Post X.K W σ (PD X.K Q) G' ps' (hid H D) ((match q.put M d (wipeE ρ vs) with
          | some ρ1 => C.bind (C.ne (t ρ1)) (fun b => if b = true then C.bind (C.ne (fe ρ1)) (fun y => if acc.length < sizeLine then lcS q t fe (wipeE ρ vs) (ds.drop (i + 1)) (acc ++ [y]) else C.bad) else lcS q t fe (wipeE ρ vs) (ds.drop (i + 1)) acc) M
          | none => .bad).bind fun acc => allocL acc) := p
        rw [z2] at p
        have p : Post X.K W σ (PD X.K Q) G' ps' (hid H D) (C.bind (C.bind (C.ne (t ρ1)) (fun b => if b = true then C.bind (C.ne (fe ρ1)) (fun y => if acc.length < sizeLine then lcS q t fe (wipeE ρ vs) (ds.drop (i + 1)) (acc ++ [y]) else C.bad) else lcS q t fe (wipeE ρ vs) (ds.drop (i + 1)) acc)) (fun acc => allocL acc) M) := p
        rw [C.bind_assoc] at p
        have p2 := Post.ext (st2.hid D) p
        refine ⟨wipeE ρ vs, G2, ps', M, d, ρ1, s2, slw.mono xx, r2, z2, fun σ2 sl2 ag => ⟨(ag.wipe hq).trans (wipe_wipe σ vs), ?_⟩⟩
        refine ⟨ρ1, G2, ps', M, s2, sl2, post_ne p2 fun b M3 G3 ps3 H3 st3 s3 p3 => ?_⟩
        have hD3 : H3 D = some (.lst xs) := st3.keep D _ hD2 hDp
        have hDp3 : D ∉ ps3 := fun hm => (st3.fresh D hm).elim hDp fun z => by rw [hD2] at z; cases z
        have hDg3 : G3 D = none := by
          cases w : G3 D with
          | none => rfl
          | some o => rcases st3.newG D o w with z | z | z
                      · rw [hDg2] at z; cases z
                      · rw [hD2] at z; cases z
                      · exact (hDp z).elim
        cases b with
        | false => exact ⟨G3, ps3, M3, acc, xs, xx.trans st3.ext, s3, hD3, hDp3, hDg3, ra2.mono st3.ext, p3⟩
        | true =>
          simp only [if_true] at p3 ⊢
          rw [C.bind_assoc] at p3
          refine ⟨ρ1, G3, ps3, M3, s3, sl2.mono st3.ext, post_ne p3 fun y M4 G4 ps4 H4 st4 s4 p4 u ru => ?_⟩
          have hD4 : H4 D = some (.lst xs) := st4.keep D _ hD3 hDp3
          have hDp4 : D ∉ ps4 := fun hm => (st4.fresh D hm).elim hDp3 fun z => by rw [hD3] at z; cases z
          have ra4 := (ra2.mono st3.ext).mono st4.ext
          split at p4
          · rename_i hz
            refine ⟨xs, hD4, by rw [← ra4.len]; exact hz, ?_⟩
            have hDg4 : G4 D = none := by
              cases w : G4 D with
              | none => rfl
              | some o => rcases st4.newG D o w with z | z | z
                          · rw [hDg3] at z; cases z
                          · rw [hD3] at z; cases z
                          · exact (hDp3 z).elim
            refine ⟨G4, ps4, M4, acc ++ [y], xs ++ [u], (xx.trans st3.ext).trans st4.ext, s4.aside hDg4 hDp4, upd_same, hDp4, hDg4, ra4.append (Reps.cons ru Reps.nil), ?_⟩
            rw [hid_upd]
            exact p4
          · exact p4.elim
end
section
variable {X : Cx} {W : WX} {elt tg iter : Expr} {ifs : List Expr} {scope : Scope} {own : List (Str × Nat)} {pos spos : Pos} {it : Env → C (List D)} {q : Pat} {t : Env → C Bool} {fe : Env → C D}
theorem de_lcM (hc : X.calm = true) (hN : X.N.Nodup) (hi : DI X W tg iter it) (ok : BlkOk X.N X.env.scope scope own) (hq : ∀ i ∈ q.slots, i ∈ own.map (·.2))
    (hg : ∀ (s : Shared) (H : Hp) (C : Addr) (cl : List (Str × Addr)) (fp : List Addr), DG (X.blk s H scope (compEnvC scope cl C X.env) fp) tg q)
    (ht : ∀ (s : Shared) (H : Hp) (C : Addr) (cl : List (Str × Addr)) (fp : List Addr), DTs (X.blk s H scope (compEnvC scope cl C X.env) fp) W0 ifs t)
    (he : ∀ (s : Shared) (H : Hp) (C : Addr) (cl : List (Str × Addr)) (fp : List Addr), DE (X.blk s H scope (compEnvC scope cl C X.env) fp) W0 elt fe) (hs : ∀ x, foldedSetIterable iter X.env x = pure x := by intro _; rfl) :
    DE X W (.ListComp elt [⟨tg, iter, ifs, 0⟩] scope pos) (dLcM it q t fe (own.map (·.2))) :=
  pe_imp (pe_lc (g := gD X.K q) hc hN hi ok hg ht he hs) (lc_impM (fun _ _ _ h => h) hq)
theorem ds_setLcM (i : Nat) {y : Str} {py : Pos} (hc : X.calm = true) (hN : X.N.Nodup) (hi : DI X W tg iter it) (ok : BlkOk X.N X.env.scope scope own) (hq : ∀ i ∈ q.slots, i ∈ own.map (·.2))
    (hg : ∀ (s : Shared) (H : Hp) (C : Addr) (cl : List (Str × Addr)) (fp : List Addr), DG (X.blk s H scope (compEnvC scope cl C X.env) fp) tg q)
    (ht : ∀ (s : Shared) (H : Hp) (C : Addr) (cl : List (Str × Addr)) (fp : List Addr), DTs (X.blk s H scope (compEnvC scope cl C X.env) fp) W0 ifs t)
    (he : ∀ (s : Shared) (H : Hp) (C : Addr) (cl : List (Str × Addr)) (fp : List Addr), DE (X.blk s H scope (compEnvC scope cl C X.env) fp) W0 elt fe)
    (hsw : swapsWith (.ListComp elt [⟨tg, iter, ifs, 0⟩] scope pos) (some (.Name y py)) spos.line X.env = pure true) (hy : X.N[i]? = some y := by rfl) (hyl : X.env.scope.names.lookup y = some .local := by rfl) (hs : ∀ x, foldedSetIterable iter X.env x = pure x := by intro _; rfl) :
    DS X W (.Assign [.Name y py] (.ListComp elt [⟨tg, iter, ifs, 0⟩] scope pos) spos) (sAsg (dLcM it q t fe (own.map (·.2))) (.nm i)) := by
  have ps := ps_setLc (X := X) (g := gD X.K q) (te := TD X.K W0 fe) (tt := TB X.K W0 t) (spos := spos) (py := py) (pos := pos) hc hN hy hyl hsw hi ok hg ht he hs
  refine ⟨fun pins s σ H Dn I h => ps.run pins s σ H Dn I ?_⟩
  refine lc_impM (fun _ _ _ h => h) hq σ H _ (td_mono (asg_post h) fun v H1 h2 => ?_)
  obtain ⟨ρ, G, ps, M, d, ρ', s0, sl, rd, e, k⟩ := h2
  unfold Pat.put at e
  cases e
  exact k _ (sl.set rd (by rw [I.len]; exact (List.getElem?_eq_some_iff.mp hy).1)) Agree.set
/-! ### FORMS[e] -/
theorem ixK_D2 {ts : List (Str × Tab)} (hT : ∀ x tab, (x, tab) ∈ ts → TabAt X.K X.w x tab) : OpD X W (dIxK ts) (rIxD X.K X.w) := fun σ v u H Q h => by
  obtain ⟨z, d, es, n, u0, v0, e1, e2, KD, e3, r, q⟩ := ixK_D hT σ v u H Q h
  exact ⟨d, z, v0, e1, e2, ⟨es, n, u0, KD.at_, KD.lit, e3, r⟩, q⟩
theorem de_ixK {ts : List (Str × Tab)} (hT : ∀ x tab, (x, tab) ∈ ts → TabAt X.K X.w x tab) {a b : Expr} {f g : Env → C D} (ha : DE X W a f) (hb : DE X W b g) (hs : PlainIx b := by exact fun _ _ => rfl) : DE X W (.Subscript a b pos) (dB (dIxK ts) f g) := pe_imp (pe_ix ix_kdict ha hb hs) (tOp_of (ixK_D2 hT))
end
/-! ### contexts of try -/
theorem Ctx.tr {X : Cx} {W W' : WX} {k : Nat} (c : Ctx X W k) {pn : List (Addr × Obj)} {xe : Value → Shared → Prop} (tk : Takes (X.tr pn xe) W') (po : PassesOwn (model X.prog X.w) X.A X.env xe) : Ctx (X.tr pn xe) W' k :=
  ⟨tk, c.hr, c.hG, c.calm, po⟩
/-! ### an instance made by keywords -/
section
variable {X : Cx} {W : WX} {k : Nat} {x : Str} {ps : List Str} {F : List D → C D} {p pos : Pos}
theorem run_mk {pins : List (Addr × Obj)} {σ : L2.St} {H1 : Hp} {s1 : Shared} {Q : VK} {us : List Value} {vs : List V} {xs : List D} {kw : List (Str × Value)} {us' : List Value} {C f : Addr} {fd : FuncData} (hC : clsAt X.K x = some C) (mk : Mk X.K C f) (hF : FnG X.prog X.w X.K X.mg X.base k f fd ps F)
    (hr : Room (k + 1) X.A) (hG : X.A.guards = some []) (tk : Takes X W) (I1 : L2.Inv X pins σ H1 s1) (r : Vals vs us')
    (hb : ∀ a s, X.K.In s.heap → BindsTo s fd ⟨.ref a :: us, kw⟩ (ps.zip (.ref a :: us')))
    (q1 : ∃ G sps M, Sto0 X.K G sps M H1 ∧ Reps X.K G sps xs vs ∧ Post X.K W σ (PD X.K Q) G sps H1 (dMk x F xs M)) : wpAny (model X.prog X.w) X.A (PySem.call (.ref C) us kw) (EP X pins σ Q) X.xe s1 := by
  obtain ⟨G, sps, M, s0, rr, q2⟩ := q1
  have nx : H1 (s1.heap.objs.size + 1) = none := I1.hok.fresh (Nat.le_succ _)
  have nd : H1 s1.heap.objs.size = none := I1.hok.fresh (Nat.le_refl _)
  have I2 := Inv.made (C := C) I1
  obtain ⟨st, s2⟩ := s0.newI hC nx nd (Nat.ne_of_lt (Nat.lt_succ_self _))
  have rs : Reps X.K (upd G s1.heap.objs.size (.own (s1.heap.objs.size + 1))) (sps ++ [s1.heap.objs.size + 1]) (.ptr M.length :: xs) (V.ref (s1.heap.objs.size + 1) :: vs) := by
    refine Reps.cons ?_ (rr.mono st.ext)
    unfold Rep
    exact ⟨_, rfl, by rw [← s0.len, List.getElem?_append_right (Nat.le_refl _), Nat.sub_self]; rfl⟩
  have sp : spD X.K F (V.ref (s1.heap.objs.size + 1) :: vs) (upd (upd H1 s1.heap.objs.size (.own (s1.heap.objs.size + 1))) (s1.heap.objs.size + 1) (.ins C s1.heap.objs.size [])) (fun v H2 => v = .non ∧ Q (.ref (s1.heap.objs.size + 1)) H2) (fun c d H' => W c d σ H') := by
    refine ⟨_, _, _, _, s2, rs, ?_⟩
    have q3 := Post.ext st q2
    unfold dMk at q3
    cases z : F (.ptr M.length :: xs) (M ++ [.ins x [] []]) with
    | ok d M' =>
      rw [z] at q3
      cases d with
      | non =>
        refine fun G' ps' H' st' s' v hv => ?_
        unfold Rep at hv
        refine ⟨hv, q3 G' ps' H' st' s' _ ?_⟩
        unfold Rep
        exact ⟨_, rfl, st'.ext.ptr (by rw [← s0.len, List.getElem?_append_right (Nat.le_refl _), Nat.sub_self]; rfl)⟩
      | _ => exact q3.elim
    | err y fn es M' => rw [z] at q3; exact q3
    | bad => rw [z] at q3; exact q3.elim
  have rv : Vals (V.ref (s1.heap.objs.size + 1) :: vs) (Value.ref (s1.heap.objs.size + 1) :: us') := .cons rfl r
  refine wpAny_call (make_map (f := f) I1.kIn mk.makes mk.init (beq_iff_eq.mp mk.fn) (codeAny_mono (hF.go _ X.stack _ _ ⟨Value.ref (s1.heap.objs.size + 1) :: us, kw⟩ (Value.ref (s1.heap.objs.size + 1) :: us') _ _ _ hG (hr.make C us kw) (I2.env0.make C us kw) (hb _ _ I2.kIn) rv sp) fun r3 s3 hq => ?_))
  cases r3 with
  | error er => exact pass_of tk (fun _ _ _ h => h) pins _ _ er s3 I2 hq
  | ok fl =>
    cases fl with
    | ret u =>
      obtain ⟨v, H', I3, rv3, ev, q4⟩ := I2.after hq
      subst ev
      exact ⟨rv3, ⟨V.ref (s1.heap.objs.size + 1), H', I3, rfl, q4⟩⟩
    | next => exact False.elim hq
    | brk => exact False.elim hq
    | cont => exact False.elim hq
/-- how keywords bind behind the instance: o tells where each parameter's value stands among the keywords' -/
def KwM (fd : FuncData) (ps ks : List Str) (o : List Nat) : Prop := ∀ (a : Addr) (ws zs : List Value), ws.length = ks.length → pickAll ws o = some zs → bindArgs fd ⟨[.ref a], ks.zip ws⟩ = pure (ps.zip (.ref a :: zs))
structure MkAtK (P : Program) (w : World) (K : PySem.W.Frag) (mg : Str → Option Value) (base : Heap) (k : Nat) (x : Str) (ps ks : List Str) (o : List Nat) (F : List D → C D) : Prop where
  ex : ∃ C f fd, clsAt K x = some C ∧ mg x = some (.ref C) ∧ Mk K C f ∧ KwM fd ps ks o ∧ FnG P w K mg base k f fd ps F
def cMkK (x : Str) (F : List D → C D) (m : Nat) (o : List Nat) (h : Env → C (List D)) : Env → C D := fun ρ => C.bind (h ρ) fun ys => if ys.length = m then (match pickAll ys o with
  | some zs => dMk x F zs
  | none => C.bad) else C.bad
variable {ks : List Str} {kws : List Keyword} {h : Env → C (List D)} {o : List Nat}
theorem de_makeK0 (hF : MkAtK X.prog X.w X.K X.mg X.base k x ps ks o F) (hr : Room (k + 1) X.A) (hG : X.A.guards = some []) (tk : Takes X W) (hkw : DK X W kws h) (hg : Gl X x)
    (hall : (backToKw pos (keywordEach kws X.env)).all (·.1.isSome) = true := by rfl) (hks : (backToKw pos (keywordEach kws X.env)).filterMap (·.1) = ks := by rfl)
    (hdb : (x == ("__debug__" : Str)) = false := by decide) (hpl : (backToKw pos (keywordEach kws X.env)).any (·.1.isNone) = false := by rfl) : DE X W (.Call (.Name x p) [] kws pos) (cMkK x F ks.length o h) := by
  obtain ⟨Cc, f, fd, hC, hm, mk, hb, hF⟩ := hF.ex
  refine ⟨fun pins s σ H Q I q => ?_⟩
  refine wpAny_Call_Name_kw (ld_glob I hg hm ?_ hdb)
  refine PySem.W.callWith_KW0 (h₀ := X.base) I.ok.mod.kin mk.kp hall ?_ hpl
  obtain ⟨ρ, G, sps, M, s0, sl, p⟩ := q
  refine thn (hkw.run pos pins s σ H _ I ⟨ρ, G, sps, M, s0, sl, post_bind (R := PDs X.K fun zs H2 => ∃ G sps M ys, Sto0 X.K G sps M H2 ∧ Reps X.K G sps ys zs ∧ Post X.K W σ (PD X.K Q) G sps H2 ((if ys.length = ks.length then (match pickAll ys o with
      | some zs => dMk x F zs
      | none => C.bad) else C.bad) M)) p fun ys M' G' ps' H' _ y s' p' zs rz => ⟨G', ps', M', ys, s', rz, p'⟩⟩) fun ws s2 ⟨zs, H2, I2, rz, q2⟩ => ?_
  rw [hks]
  obtain ⟨G2, sps2, M2, ys, s3, ry, p2⟩ := q2
  split at p2
  · rename_i hl
    split at p2
    · rename_i es he
      obtain ⟨ts, e1, rt⟩ := pick_reps ry he
      obtain ⟨us', e2, ru⟩ := pick_vals rz e1
      exact ⟨I2.kIn, run_mk (us := []) hC mk hF hr hG tk I2 ru (fun a s _ => .of_eq (hb a ws us' (by rw [← rz.length, ← ry.len]; exact hl) e2)) ⟨G2, sps2, M2, s3, rt, p2⟩⟩
    · exact p2.elim
  · exact p2.elim
end
end DL
end
section
set_option Elab.async false
set_option linter.all false
set_option maxRecDepth 100000
set_option maxHeartbeats 2000000
namespace DL
open PySem PySem.Spec PyProof.Rows L2
/-! ### methods' texts, promises by level, tables by entries -/
/-- the j-th statement of a class's suite -/
def mthS (st : Stmt) (j : Nat) : Stmt := match st with
  | .ClassDef (body := b) .. => b.getD j (.Pass ⟨0, 0, 0, 0⟩)
  | _ => .Pass ⟨0, 0, 0, 0⟩
section
variable {P : Program} {w : World} {K : PySem.W.Frag} {mg : Str → Option Value} {base : Heap}
/-- a def with another full name keeps the promise that its body tells -/
theorem fn_defQ {x qual : Str} {st : Stmt} {f : Addr} {fd : FuncData} {N ps : List Str} {k : Nat} {b : SF} (F : Fun K x qual st f fd) (S : FnScope N ps (defScope st))
    (hbody : ∀ (cdv : Value) (A : Around) (outer : List PySem.Env) (s : Shared) (H : Hp) (E : XK), Ctx (cxOf (L2.CX P w) P w K mg base N qual (defScope st) f cdv A outer s H E) (fun c d _ H' => E c d H') k →
      DSs (cxOf (L2.CX P w) P w K mg base N qual (defScope st) f cdv A outer s H E) (fun c d _ H' => E c d H') (defBody st) b) {n np k' : Nat} {F' : List D → C D} (hF : F' = dDef n np b := by rfl) (hn : N.length = n := by rfl) (hp : ps.length = np := by rfl) (hk : k + 1 = k' := by rfl) : FnG P w K mg base k' f fd ps F' := by
  subst hn hp hk hF
  obtain ⟨oc, od, kV, doc, pm, an, cdv, ct, osl, rfl, lk, hcd⟩ := F.ex
  refine ⟨fun ds M h => ?_, fun A outer s H args us vs Q E hg hr e0 hb r hsp => ?_⟩
  · unfold dDef at h
    by_cases z : ds.length = ps.length
    · exact z
    · rw [if_neg z] at h; exact (h rfl).elim
  obtain ⟨G, sp, M, ds, s0, rr, p⟩ := hsp
  have hld : ds.length = ps.length := by
    by_cases z : ds.length = ps.length
    · exact z
    · unfold dDef at p; rw [if_neg z] at p; exact p.elim
  have hl : vs.length = ps.length := by rw [← rr.len]; exact hld
  have KX : K.In s.heap := e0.mod.kin.keeps fun b o e => (e0.bs b o e).1
  have lim : s.heap.NoLimit := e0.mod.nolimit.keeps fun b o e => (e0.bs b o e).1
  have hkind : ∀ y ∈ ps.zip us, (defScope st).names.lookup y.1 = some .local ∨ ((defScope st).names.lookup y.1 = some .cell ∧ ((cellsFrom (s.heap.objs.size + 1) (defScope st).names []).lookup y.1).isSome = true) := fun ⟨n, v⟩ hy =>
    (S.par n (List.of_mem_zip hy).1).elim .inl fun q => .inr ⟨q, PySem.W.cellsFrom_some _ _ _ (.inl q)⟩
  refine codeAny_call_function hr.depth (KX _ _ lk) rfl S.co S.gen rfl (PySem.W.codeRec_of KX hcd) (hb _ _ _ _ ?_)
  refine wpAny_newFunctionEnv_cells S.kind hkind fun env he s1 x1 => ?_
  subst he
  refine ⟨lim.keeps x1.toInCall.keep, codeAny_func ?_⟩
  have ctx : Ctx (cxOf (L2.CX P w) P w K mg base N qual (defScope st) f cdv A outer s H E) (fun c d _ H' => E c d H') k := ⟨takes_of rfl rfl rfl rfl, hr.deeper _, hg, rfl, passes_of rfl⟩
  have I : L2.Inv (cxOf (L2.CX P w) P w K mg base N qual (defScope st) f cdv A outer s H E) [] (L2.start N vs) H s1 := inv_start S hr.hd e0 hl r x1
  have q : TSD K (fun c d _ H' => E c d H') b { nx := fun _ H' => Q .non H', rt := Q } (L2.start N vs) H := by
    refine ⟨ds.map some ++ List.replicate (N.length - ds.length) none, G, sp, M, s0, slots_start N rr, ?_⟩
    unfold dDef at p
    rw [if_pos hld, ← hld] at p
    cases z : b (ds.map some ++ List.replicate (N.length - ds.length) none) M with
    | ok o M' =>
      rw [z] at p
      cases o with
      | nx ρ => exact fun G' ps' H' st s' σ' _ => p G' ps' H' st s' .non Rep.non_of
      | rt d => exact p
      | ex c fn es ρ => exact fun G' ps' H' st s' σ' C dd hc _ er => p C dd G' ps' H' hc st s' er
      | bk ρ => exact p.elim
      | ct ρ => exact p.elim
    | err c fn es M' => rw [z] at p; exact p.elim
    | bad => rw [z] at p; exact p.elim
  refine wpAny_mono ((hbody cdv A outer s H E ctx).run [] s1 (L2.start N vs) H _ I q) (fun fl s' hs => ?_) fun e s' hs => hs
  have fin : ∀ {σ' : L2.St} {H' : Hp} {v : V} {u : Value}, L2.Inv (cxOf (L2.CX P w) P w K mg base N qual (defScope st) f cdv A outer s H E) [] σ' H' s' → RelV v u → Q v H' → CE outer P w H s Q u s' :=
    fun {σ' H' v u} J rv q => ⟨v, H', J.os, J.bare, J.base, J.hok, rv, q⟩
  cases fl with
  | ret u => obtain ⟨v, σ', H', J, rv, q⟩ := hs; exact fin J rv q
  | next => obtain ⟨σ', H', J, q⟩ := hs; exact fin (v := V.non) (u := Value.none) J rfl q
  | brk => obtain ⟨_, _, _, q⟩ := hs; exact False.elim q
  | cont => obtain ⟨_, _, _, q⟩ := hs; exact False.elim q
variable {j k : Nat} {x m : Str} {ps ks : List Str} {o : List Nat} {F : List D → C D} {T : KT}
theorem MkAt.mono (h : MkAt P w K mg base j x ps F) (hl : j ≤ k) : MkAt P w K mg base k x ps F := by
  obtain ⟨C, f, fd, a, b, c, d, e⟩ := h.ex
  exact ⟨C, f, fd, a, b, c, d, e.mono hl⟩
theorem MkAtK.mono (h : MkAtK P w K mg base j x ps ks o F) (hl : j ≤ k) : MkAtK P w K mg base k x ps ks o F := by
  obtain ⟨C, f, fd, a, b, c, d, e⟩ := h.ex
  exact ⟨C, f, fd, a, b, c, d, e.mono hl⟩
theorem MtAt.mono (h : MtAt P w K mg base j x m ps F) (hl : j ≤ k) : MtAt P w K mg base k x m ps F := by
  obtain ⟨C, f, fd, a, b, c, d, e⟩ := h.ex
  exact ⟨C, f, fd, a, b, c, d, e.mono hl⟩
theorem EqAt.mono (h : EqAt P w K mg base T j x F) (hl : j ≤ k) : EqAt P w K mg base T k x F := by
  obtain ⟨C, f, fd, ps, a, b, c, d, e, g⟩ := h.ex
  exact ⟨C, f, fd, ps, a, b, c, d, e.mono hl, g⟩
theorem ErAt.mono {fs : List Str} (h : ErAt P w K mg base j x fs) (hl : j ≤ k) : ErAt P w K mg base k x fs := by
  obtain ⟨C, f, fd, ps, a, b, c, d, e, g, i⟩ := h.ex
  exact ⟨C, f, fd, ps, a, b, c, d, e, g.mono hl, i⟩
end
section
variable {K : PySem.W.Frag}
theorem clsAt_of {x : Str} {C : Addr} (h : PySem.W.nsIn K mainGlobals x = some (some (.ref C))) : clsAt K x = some C := by
  unfold clsAt; rw [h]
/-- a table of pairs by its entries -/
theorem tab_ok {R : Value → Value → Option Bool} {l : List ((Str × Str) × Bool)} (h : ∀ p ∈ l, ∃ C D, clsAt K p.1.1 = some C ∧ clsAt K p.1.2 = some D ∧ R (.ref C) (.ref D) = some p.2) {x y : Str} {b : Bool} {C D : Addr} (e : l.lookup (x, y) = some b) (hC : clsAt K x = some C) (hD : clsAt K y = some D) : R (.ref C) (.ref D) = some b := by
  have hm : ((x, y), b) ∈ l := by
    induction l with
    | nil => cases e
    | cons p r ih =>
      obtain ⟨q, c⟩ := p
      by_cases z : (x, y) = q
      · subst z
        simp [List.lookup] at e
        subst e
        exact List.mem_cons_self
      · have z2 : ((x, y) == q) = false := by simpa using z
        simp only [List.lookup, z2] at e
        exact List.mem_cons_of_mem _ (ih (fun p hp => h p (List.mem_cons_of_mem _ hp)) e)
  obtain ⟨C', D', h1, h2, h3⟩ := h _ hm
  cases h1.symm.trans hC
  cases h2.symm.trans hD
  exact h3
theorem at_cls {x : Str} {C D : Addr} {Q : Addr → Prop} (h : clsAt K x = some C) (q : Q C) (hD : clsAt K x = some D) : Q D := by
  cases h.symm.trans hD; exact q
theorem all_eq {α : Type} {l : List α} {r : α → Option (Option Value)} (h : (l.all fun a => (r a).any Option.isNone) = true) : ∀ a ∈ l, r a = some none := fun a ha => by
  have q := List.all_eq_true.mp h a ha
  cases z : r a with
  | none => rw [z] at q; cases q
  | some o => cases o with
    | none => rfl
    | some _ => rw [z] at q; cases q
theorem all_eqB {α : Type} {l : List α} {r : α → Option Bool} (h : (l.all fun a => (r a).any (!·)) = true) : ∀ a ∈ l, r a = some false := fun a ha => by
  have q := List.all_eq_true.mp h a ha
  cases z : r a with
  | none => rw [z] at q; cases q
  | some o => cases o with
    | false => rfl
    | true => rw [z] at q; cases q
end
/-! ### dicts of the text by what the written part says -/
section
variable {K : PySem.W.Frag} {P : Params} {d : Addr} {ks : List Str} {z : Str}
theorem keys_of : ∀ {l : List DictEntry} {ks : List Str}, l.map He.keyOf = He.keysIn P ks → ∀ e ∈ l, ∃ x t, e.key = .str x t ∧ x ∈ ks
  | [], _, _, e, he => by cases he
  | e0 :: r, [], h, e, he => by cases h
  | e0 :: r, k :: ks, h, e, he => by
    have h1 : He.keyOf e0 :: r.map He.keyOf = some (k, PyData.keyHash P k) :: He.keysIn P ks := h
    injection h1 with h2 h3
    rcases List.mem_cons.mp he with q | q
    · subst q
      unfold He.keyOf at h2
      split at h2
      · rename_i x t q
        have h4 := Option.some.inj h2
        obtain ⟨h5, h6⟩ := Prod.mk.inj h4
        exact ⟨x, t, q, by rw [h5]; exact List.mem_cons_self⟩
      · cases h2
    · obtain ⟨x, t, h5, h6⟩ := keys_of h3 e q
      exact ⟨x, t, h5, List.mem_cons_of_mem _ h6⟩
theorem nsIn_no (h : He.dicW K d = some (He.keysIn P ks)) (hz : z ∉ ks) : PySem.W.nsIn K d z = some none := by
  unfold He.dicW at h
  unfold PySem.W.nsIn
  cases q : K.lookup d with
  | none => rw [q] at h; cases h
  | some o =>
    obtain ⟨oc, od, dt, osl⟩ := o
    rw [q] at h
    cases oc with
    | type c =>
      cases od with
      | none =>
        cases dt with
        | dict es n =>
          dsimp only at h ⊢
          split at h
          · have h2 := keys_of (Option.some.inj h)
            have e1 : es.toList.find? (fun e => e.key.isStr z) = none := List.find?_eq_none.mpr fun e he => by
              obtain ⟨x, t, h3, h4⟩ := h2 e he
              rw [h3]
              intro w
              have : x = z := by simpa [Value.isStr] using w
              exact hz (this ▸ h4)
            have e2 : (es.toList.any fun e => e.refKey) = false := by
              rw [List.any_eq_false]
              intro e he
              obtain ⟨x, t, h3, h4⟩ := h2 e he
              simp [DictEntry.refKey, h3]
            rw [e1]
            dsimp only
            rw [e2]
            rfl
          · cases h
        | _ => cases h
      | some b => cases dt <;> cases h
    | _ => cases od <;> cases dt <;> cases h
theorem lookup_no {α : Type} {z : Str} : ∀ {l : List (Str × α)}, l.lookup z = none → z ∉ l.map (·.1)
  | [], _ => by simp
  | (y, a) :: r, h => by
    by_cases e : z = y
    · subst e; simp [List.lookup] at h
    · have q : (z == y) = false := by simpa using e
      simp only [List.lookup, q] at h
      simp only [List.map_cons, List.mem_cons, not_or]
      exact ⟨e, lookup_no h⟩
theorem tabAt_of {w : World} {x : Str} {tab : Tab} (hx : clsAt K x = some d) (h : He.dicW K d = some (He.keysIn w.params (tab.map (·.1)))) (hv : ∀ p ∈ tab, ∃ t, PySem.W.nsIn K d p.1 = some (some (.ref t)) ∧ ∀ G ps, Rep K G ps (.ft p.2) (.ref t)) : TabAt K w x tab := by
  obtain ⟨es, n, kd⟩ := He.dicW_ok h
  exact ⟨d, es, n, hx, kd, fun z hz => nsIn_no h (lookup_no hz), fun z ds hz => hv _ (lookup_mem hz)⟩
end
end DL
end
section
set_option Elab.async false
set_option linter.all false
set_option maxRecDepth 100000
set_option maxHeartbeats 2000000
namespace DL
open PySem PySem.Spec PyProof.Rows L2
/-! ### short forms for what a text's generator prints -/
section
variable {X : Cx} {x n : Str} {i : Nat} {fs : SF} {b₀ : Stmt} {suite : List Stmt} {np p1 : Pos} {hds : List ExceptHandler} {l : List DCl}
theorem cl_nil : ClD X [] [] := .nil
theorem cl_named (hx : ∃ C, X.mg x = some (.ref C) ∧ clsAt X.K x = some C) (hsu : ∀ a pn, DSs (X.suite a pn) W0 (b₀ :: suite) fs) (r : ClD X hds l) (hi : X.N[i]? = some n := by rfl) (hln : X.env.kindOf n = some .local := by rfl) (hg : Gl X x := by rfl) (hdb : (x == ("__debug__" : Str)) = false := by decide) :
    ClD X (.ExceptHandler (some (.Name x np)) (some n) (b₀ :: suite) p1 :: hds) ((x, some i, fs) :: l) := by
  obtain ⟨C, h1, h2⟩ := hx
  exact .named hi hln h2 ⟨hg, hdb, .inl h1⟩ hsu r
theorem cl_plain (hx : ∃ C, X.mg x = some (.ref C) ∧ clsAt X.K x = some C) (hsu : ∀ a pn, DSs (X.suite a pn) W0 (b₀ :: suite) fs) (r : ClD X hds l) (hg : Gl X x := by rfl) (hdb : (x == ("__debug__" : Str)) = false := by decide) :
    ClD X (.ExceptHandler (some (.Name x np)) none (b₀ :: suite) p1 :: hds) ((x, none, fs) :: l) := by
  obtain ⟨C, h1, h2⟩ := hx
  exact .plain h2 ⟨hg, hdb, .inl h1⟩ hsu r
end
section
variable {P : Program} {w : World} {K : PySem.W.Frag} {mg : Str → Option Value} {base : Heap} {qual x f g : Str} {st : Stmt} {fI C : Addr} {fd : FuncData}
theorem erAt1 (F : Fun K "__init__" qual st fI fd) (S : FnScope ["self", f] ["self", f] (defScope st)) (T : OexC K C) (hno : PySem.W.findIn K (.ref C) f = some none) (hC : clsAt K x = some C) (hm : mg x = some (.ref C)) (iC : PySem.W.findIn K (.ref C) "__init__" = some (some (.ref fI))) (tI : PySem.W.typeIn K (.ref fI) = some (.type "function")) (hbd : Binds K fd ["self", f] [])
    (hb : ∀ (cdv : Value) (A : Around) (outer : List PySem.Env) (s : Shared) (H : Hp) (E : XK), PSs (cxOf CX0 P w K mg base ["self", f] qual (defScope st) fI cdv A outer s H E).nox (defBody st) (tOst K f (tVar 0) (tVar 1))) : ErAt P w K mg base 1 x [f] :=
  ⟨C, fI, fd, _, hC, hm, T, iC, tI, init1 F S T hno hb, hbd⟩
theorem erAt2 (F : Fun K "__init__" qual st fI fd) (S : FnScope ["self", f, g] ["self", f, g] (defScope st)) (T : OexC K C) (hno : PySem.W.findIn K (.ref C) f = some none) (hno2 : PySem.W.findIn K (.ref C) g = some none) (hC : clsAt K x = some C) (hm : mg x = some (.ref C)) (iC : PySem.W.findIn K (.ref C) "__init__" = some (some (.ref fI))) (tI : PySem.W.typeIn K (.ref fI) = some (.type "function")) (hbd : Binds K fd ["self", f, g] [])
    (hb : ∀ (cdv : Value) (A : Around) (outer : List PySem.Env) (s : Shared) (H : Hp) (E : XK), PSs (cxOf CX0 P w K mg base ["self", f, g] qual (defScope st) fI cdv A outer s H E).nox (defBody st) (fun D σ H => tOst K f (tVar 0) (tVar 1) { D with nx := tOst K g (tVar 0) (tVar 2) D } σ H)) : ErAt P w K mg base 1 x [f, g] :=
  ⟨C, fI, fd, _, hC, hm, T, iC, tI, init2 F S T hno hno2 hb, hbd⟩
end
theorem nsOk_of {K : PySem.W.Frag} {N : Addr} {c : Value} {d : Option Addr} {es : Array DictEntry} {n : Nat} {sl : Array (Option Value)} (h : K.lookup N = some ⟨c, d, .dict es n, sl⟩) (e : (es.toList.all fun e => match e.key with | .str _ _ => true | _ => false) = true) : PySem.W.nsOkIn K N = true := by
  unfold PySem.W.nsOkIn
  rw [h]
  dsimp only
  rw [← Array.all_toList]
  exact e
end DL
end
section
set_option Elab.async false
set_option linter.all false
set_option maxRecDepth 100000
set_option maxHeartbeats 2000000
namespace DL
open PySem PySem.Spec PyProof.Rows L2
/-! ### a comprehension over a list that may change, but does not while it is walked -/
def Gd (g : Option Nat) (all : List D) (M : Sto) : Prop := ∀ n, g = some n → M[n]? = some (.lst all)
def itemsG : D → C (List D × Option Nat)
  | .ptr n => fun M => match M[n]? with
    | some (.lst ds) => .ok (ds, some n) M
    | _ => .bad
  | d => C.bind (items d) fun ds => C.pure (ds, none)
open Classical in
noncomputable def lcSG (g : Option Nat) (all : List D) (q : Pat) (t : Env → C Bool) (e : Env → C D) (ρ : Env) : List D → List D → C (List D)
  | [], acc => fun M => if Gd g all M then .ok acc M else .bad
  | d :: ds, acc => fun M => if Gd g all M then (match q.put M d ρ with
    | some ρ1 => C.bind (C.ne (t ρ1)) (fun b => if b = true then C.bind (C.ne (e ρ1)) (fun y => if acc.length < sizeLine then lcSG g all q t e ρ ds (acc ++ [y]) else C.bad) else lcSG g all q t e ρ ds acc) M
    | none => .bad) else .bad
noncomputable def dLcG (f : Env → C D) (q : Pat) (t : Env → C Bool) (e : Env → C D) (vs : List Nat) : Env → C D := fun ρ => C.bind (C.bind (f ρ) itemsG) fun pr => C.bind (lcSG pr.2 pr.1 q t e (wipeE ρ vs) pr.1 []) fun acc => C.pure (.lst acc)
section
variable {g : Option Nat} {all : List D} {q : Pat} {t : Env → C Bool} {e : Env → C D} {ρ : Env} {M : Sto} {acc ds : List D} {d : D}
theorem lcSG_bad (h : ¬ Gd g all M) : lcSG g all q t e ρ ds acc M = .bad := by
  cases ds <;> (unfold lcSG; rw [if_neg h])
theorem lcSG_nil (h : Gd g all M) : lcSG g all q t e ρ [] acc M = .ok acc M := by
  unfold lcSG; rw [if_pos h]
theorem lcSG_cons (h : Gd g all M) : lcSG g all q t e ρ (d :: ds) acc M = (match q.put M d ρ with
    | some ρ1 => C.bind (C.ne (t ρ1)) (fun b => if b = true then C.bind (C.ne (e ρ1)) (fun y => if acc.length < sizeLine then lcSG g all q t e ρ ds (acc ++ [y]) else C.bad) else lcSG g all q t e ρ ds acc) M
    | none => .bad) := by
  conv => lhs; unfold lcSG
  rw [if_pos h]
theorem bind_congr {α β : Type} {f f' : C α} {k : α → C β} (h : f M = f' M) : C.bind f k M = C.bind f' k M := by
  unfold C.bind; rw [h]
end
def WalksG (K : PySem.W.Frag) (G : Hp) (ps : List Addr) (J : It) (g : Option Nat) (ds : List D) : Prop :=
  ∀ (i : Nat) G' ps' (M' : Sto) H', Ext G ps G' ps' → Sto0 K G' ps' M' H' → Gd g ds M' → (ds.length ≤ i → J.stop i H') ∧
    ∀ d, ds[i]? = some d → J.go i H' ∧ ∀ x H'', J.yld i H' x H'' → ∃ G'', Stp G' ps' H' G'' ps' H'' ∧ Sto0 K G'' ps' M' H'' ∧ Rep K G'' ps' d x
theorem Walks.g {K : PySem.W.Frag} {G : Hp} {ps : List Addr} {J : It} {ds : List D} (h : Walks K G ps J ds) {g : Option Nat} : WalksG K G ps J g ds := fun i G' ps' M' H' x s _ => h i G' ps' M' H' x s
abbrev DIG (X : Cx) (W : WX) (tg iter : Expr) (f : Env → C D) : Prop := PI X tg iter fun σ H R => TDp X.K W (fun (pr : List D × Option Nat) G ps _ H' => ∀ J, WalksG X.K G ps J pr.2 pr.1 → R J H') (fun ρ => C.bind (f ρ) itemsG) σ H
theorem walksG_ptr {K : PySem.W.Frag} {G : Hp} {ps : List Addr} {a : Addr} {n : Nat} {ds : List D} (hp : ps[n]? = some a) : WalksG K G ps (Itl K a) (some n) ds := fun i G' ps' M' H' x s hg => by
  obtain ⟨a', xs, e1, _, hH, r⟩ := s.mem n _ (hg n rfl)
  have : a' = a := Option.some.inj (e1.symm.trans (x.ptr hp))
  subst this
  have hs : SqL K H' a' xs := .inl (.inl hH)
  refine ⟨fun hl => ⟨xs, hs, by rw [← r.len]; exact hl⟩, fun d e => ?_⟩
  obtain ⟨v, e2, rv⟩ := r.get e
  refine ⟨⟨xs, v, hs, e2⟩, fun y H'' z => ?_⟩
  obtain ⟨z1, z2⟩ := z
  subst z1
  have := z2 xs hs
  rw [e2] at this
  cases this
  exact ⟨G', Stp.refl, s, rv⟩
section
variable {X : Cx} {W : WX} {tg iter e : Expr} {f : Env → C D}
theorem di_seqG (he : DE X W e f) : DIG X W tg e f := pi_imp (pi_or (pi_list he) (pi_tup he)) fun σ H R h => by
  obtain ⟨ρ, G, ps, M, s, sl, p⟩ := h
  have p : Post X.K W σ (fun (pr : List D × Option Nat) G ps _ H' => ∀ J, WalksG X.K G ps J pr.2 pr.1 → R J H') G ps H ((f ρ M).bind itemsG) := p
  cases q : f ρ M with
  | bad => rw [q] at p; exact p.elim
  | err c fn ds M' => exact .inl ⟨ρ, G, ps, M, s, sl, by rw [q] at p ⊢; exact p⟩
  | ok d M' =>
    rw [q] at p
    have p : Post X.K W σ (fun (pr : List D × Option Nat) G ps _ H' => ∀ J, WalksG X.K G ps J pr.2 pr.1 → R J H') G ps H (itemsG d M') := p
    cases d with
    | lst ds => exact .inl ⟨ρ, G, ps, M, s, sl, by
        rw [q]
        intro G' ps' H' st s' v r
        unfold Rep at r
        obtain ⟨a, xs, e, g, rr⟩ := r
        exact ⟨a, e, ⟨xs, .inl (.inl (s'.sub _ _ g))⟩, p G' ps' H' st s' _ (walks_lst (.inl (.inl g)) rr).g⟩⟩
    | fz ds => exact .inl ⟨ρ, G, ps, M, s, sl, by
        rw [q]
        intro G' ps' H' st s' v r
        unfold Rep at r
        obtain ⟨a, xs, e, g, rr⟩ := r
        exact ⟨a, e, ⟨xs, s'.seqL g⟩, p G' ps' H' st s' _ (walks_lst g rr).g⟩⟩
    | tup ds => exact .inr ⟨ρ, G, ps, M, s, sl, by
        rw [q]
        intro G' ps' H' st s' v r
        unfold Rep at r
        obtain ⟨a, xs, e, g, rr⟩ := r
        exact ⟨a, e, ⟨xs, .inl (.inl (s'.sub _ _ g))⟩, p G' ps' H' st s' _ (walks_tup (.inl (.inl g)) rr).g⟩⟩
    | ft ds => exact .inr ⟨ρ, G, ps, M, s, sl, by
        rw [q]
        intro G' ps' H' st s' v r
        unfold Rep at r
        obtain ⟨a, xs, e, g, rr⟩ := r
        exact ⟨a, e, ⟨xs, s'.seqT g⟩, p G' ps' H' st s' _ (walks_tup g rr).g⟩⟩
    | ptr n =>
      unfold itemsG at p
      dsimp only at p
      split at p
      · rename_i ds hm
        exact .inl ⟨ρ, G, ps, M, s, sl, by
          rw [q]
          intro G' ps' H' st s' v r
          unfold Rep at r
          obtain ⟨a, e, hp⟩ := r
          obtain ⟨a', xs, e1, _, hH, _⟩ := s'.mem n _ hm
          have : a' = a := Option.some.inj (e1.symm.trans hp)
          subst this
          exact ⟨a', e, ⟨xs, .inl (.inl hH)⟩, p G' ps' H' st s' _ (walksG_ptr hp)⟩⟩
      · exact p.elim
    | _ => exact p.elim
end
section
variable {X : Cx} {W : WX} {f : Env → C D}
theorem lc_impG {q : Pat} {t : Env → C Bool} {vs : List Nat} {wi : TI} {fe : Env → C D} (hwi : ∀ σ H R, TDp X.K W (fun (pr : List D × Option Nat) G ps _ H' => ∀ J, WalksG X.K G ps J pr.2 pr.1 → R J H') (fun ρ => C.bind (f ρ) itemsG) σ H → wi σ H R) (hq : ∀ i ∈ q.slots, i ∈ vs) :
    ∀ σ H Q, TD X.K W (dLcG f q t fe vs) σ H Q → tLc wi (gD X.K q) (TB X.K W0 t) (TD X.K W0 fe) vs σ H Q := fun σ H Q h => by
  obtain ⟨ρ, G, ps, M, s, sl, p⟩ := h
  refine hwi σ H _ ⟨ρ, G, ps, M, s, sl, post_bind (k := fun pr : List D × Option Nat => C.bind (lcSG pr.2 pr.1 q t fe (wipeE ρ vs) pr.1 []) fun acc => C.pure (DL.D.lst acc)) p fun pr M1 G1 ps1 H1 _ st1 s1 p1 J hJ D hD => ?_⟩
  obtain ⟨ds, gg⟩ := pr
  dsimp only at hJ p1
  have slw := (sl.mono st1.ext).wipe vs
  refine ⟨fun i m H => m = ds.length - i ∧ ∃ G' ps' M acc xs, Ext G1 ps1 G' ps' ∧ Sto0 X.K G' ps' M H ∧ H D = some (.lst xs) ∧ D ∉ ps' ∧ G' D = none ∧ Reps X.K G' ps' acc xs ∧ Post X.K W σ (PD X.K Q) G' ps' (hid H D) ((C.bind (lcSG gg ds q t fe (wipeE ρ vs) (ds.drop i) acc) fun acc => C.pure (DL.D.lst acc)) M), ⟨_, rfl, G1, ps1, M1, [], [], Ext.refl, s1.junk hD, upd_same, fun hm => ?_, s1.gnone hD, Reps.nil, ?_⟩, ?_⟩
  · obtain ⟨j, hj⟩ := List.getElem?_of_mem hm
    exact s1.old j D hj hD
  · rw [hid_upd, hid_none hD, List.drop_zero]
    exact p1
  · rintro i m H ⟨em, G', ps', M, acc, xs, x, s, hDx, hDp, hDg, ra, p⟩
    have hG : Gd gg ds M := by
      by_cases z : Gd gg ds M
      · exact z
      · rw [bind_congr (f' := fun _ => Res.bad) (lcSG_bad z)] at p
        exact p.elim
    obtain ⟨w1, w2⟩ := hJ i G' ps' M H x s hG
    cases z : ds[i]? with
    | none =>
      have hl : ds.length ≤ i := List.getElem?_eq_none_iff.mp z
      rw [List.drop_eq_nil_of_le hl, bind_congr (f' := fun M => .ok acc M) (lcSG_nil hG)] at p
      refine .inl ⟨w1 hl, ?_⟩
      have p : Post X.K W σ (PD X.K Q) G' ps' (hid H D) (.ok (DL.D.lst acc) M) := p
      have xg : Ext G' ps' (upd G' D (.lst xs)) ps' := ⟨fun a o e => by
        by_cases w : a = D
        · subst w; rw [upd_same]; rw [s.sub _ _ e] at hDx; exact hDx.symm ▸ rfl
        · rw [upd_ne w]; exact e, [], by simp⟩
      refine p (upd G' D (.lst xs)) ps' H ⟨xg, fun a o e _ => (hid_some e).1, fun a h => .inl h, fun a o e => by
        by_cases w : a = D
        · subst w; exact .inr (.inl (by unfold hid; rw [if_pos rfl]))
        · rw [upd_ne w] at e; exact .inl e⟩ ⟨fun a o e => ?_, fun n mo e => (s.mem n mo e).mono xg (fun a e2 g => ?_) (fun _ _ _ h => h), s.nd, s.len, s.old⟩ _ (by unfold Rep; exact ⟨D, xs, rfl, upd_same, ra.mono xg⟩)
      · by_cases w : a = D
        · subst w; rw [upd_same] at e; cases e; exact hDx
        · rw [upd_ne w] at e; exact s.sub a o e
      · rw [upd_ne fun w => hDp (by rw [← w]; exact List.mem_of_getElem? e2)]; exact g
    | some d =>
      obtain ⟨hi, e⟩ := List.getElem?_eq_some_iff.mp z
      obtain ⟨hgo, hy⟩ := w2 d z
      rw [List.drop_eq_getElem_cons hi, e] at p
      refine .inr ⟨hgo, fun H' => ∃ G' ps' M acc xs, Ext G1 ps1 G' ps' ∧ Sto0 X.K G' ps' M H' ∧ H' D = some (.lst xs) ∧ D ∉ ps' ∧ G' D = none ∧ Reps X.K G' ps' acc xs ∧ Post X.K W σ (PD X.K Q) G' ps' (hid H' D) ((C.bind (lcSG gg ds q t fe (wipeE ρ vs) (ds.drop (i + 1)) acc) fun acc => C.pure (DL.D.lst acc)) M), fun H' hn => ⟨ds.length - (i + 1), by omega, rfl, hn⟩, fun v H' y => ?_⟩
      obtain ⟨G2, st2, s2, r2⟩ := hy v H' y
      have hD2 : H' D = some (.lst xs) := st2.keep D _ hDx hDp
      have hDg2 : G2 D = none := by
        cases w : G2 D with
        | none => rfl
        | some o => rcases st2.newG D o w with z | z | z
                    · rw [hDg] at z; cases z
                    · rw [hDx] at z; cases z
                    · exact (hDp z).elim
      have ra2 := ra.mono st2.ext
      have xx := x.trans st2.ext
      rw [bind_congr (f' := fun M => match q.put M d (wipeE ρ vs) with
          | some ρ1 => C.bind (C.ne (t ρ1)) (fun b => if b = true then C.bind (C.ne (fe ρ1)) (fun y => if acc.length < sizeLine then lcSG gg ds q t fe (wipeE ρ vs) (ds.drop (i + 1)) (acc ++ [y]) else C.bad) else lcSG gg ds q t fe (wipeE ρ vs) (ds.drop (i + 1)) acc) M
          | none => .bad) (lcSG_cons hG)] at p
      cases z2 : q.put M d (wipeE ρ vs) with
      | none =>
        have p : Post X.K W σ (PD X.K Q) G' ps' (hid H D) ((match q.put M d (wipeE ρ vs) with
          | some ρ1 => C.bind (C.ne (t ρ1)) (fun b => if b = true then C.bind (C.ne (fe ρ1)) (fun y => if acc.length < sizeLine then lcSG gg ds q t fe (wipeE ρ vs) (ds.drop (i + 1)) (acc ++ [y]) else C.bad) else lcSG gg ds q t fe (wipeE ρ vs) (ds.drop (i + 1)) acc) M
          | none => .bad).bind fun acc => C.pure (DL.D.lst acc)) := p
        rw [z2] at p
        exact p.elim
      | some ρ1 =>
        have p : Post X.K W σ (PD X.K Q) G' ps' (hid H D) ((match q.put M d (wipeE ρ vs) with
          | some ρ1 => C.bind (C.ne (t ρ1)) (fun b => if b = true then C.bind (C.ne (fe ρ1)) (fun y => if acc.length < sizeLine then lcSG gg ds q t fe (wipeE ρ vs) (ds.drop (i + 1)) (acc ++ [y]) else C.bad) else lcSG gg ds q t fe (wipeE ρ vs) (ds.drop (i + 1)) acc) M
          | none => .bad).bind fun acc => C.pure (DL.D.lst acc)) := p
        rw [z2] at p
        have p : Post X.K W σ (PD X.K Q) G' ps' (hid H D) (C.bind (C.bind (C.ne (t ρ1)) (fun b => if b = true then C.bind (C.ne (fe ρ1)) (fun y => if acc.length < sizeLine then lcSG gg ds q t fe (wipeE ρ vs) (ds.drop (i + 1)) (acc ++ [y]) else C.bad) else lcSG gg ds q t fe (wipeE ρ vs) (ds.drop (i + 1)) acc)) (fun acc => C.pure (DL.D.lst acc)) M) := p
        rw [C.bind_assoc] at p
        have p2 := Post.ext (st2.hid D) p
        refine ⟨wipeE ρ vs, G2, ps', M, d, ρ1, s2, slw.mono xx, r2, z2, fun σ2 sl2 ag => ⟨(ag.wipe hq).trans (wipe_wipe σ vs), ?_⟩⟩
        refine ⟨ρ1, G2, ps', M, s2, sl2, post_ne p2 fun b M3 G3 ps3 H3 st3 s3 p3 => ?_⟩
        have hD3 : H3 D = some (.lst xs) := st3.keep D _ hD2 hDp
        have hDp3 : D ∉ ps3 := fun hm => (st3.fresh D hm).elim hDp fun z => by rw [hD2] at z; cases z
        have hDg3 : G3 D = none := by
          cases w : G3 D with
          | none => rfl
          | some o => rcases st3.newG D o w with z | z | z
                      · rw [hDg2] at z; cases z
                      · rw [hD2] at z; cases z
                      · exact (hDp z).elim
        cases b with
        | false => exact ⟨G3, ps3, M3, acc, xs, xx.trans st3.ext, s3, hD3, hDp3, hDg3, ra2.mono st3.ext, p3⟩
        | true =>
          simp only [if_true] at p3 ⊢
          rw [C.bind_assoc] at p3
          refine ⟨ρ1, G3, ps3, M3, s3, sl2.mono st3.ext, post_ne p3 fun y M4 G4 ps4 H4 st4 s4 p4 u ru => ?_⟩
          have hD4 : H4 D = some (.lst xs) := st4.keep D _ hD3 hDp3
          have hDp4 : D ∉ ps4 := fun hm => (st4.fresh D hm).elim hDp3 fun z => by rw [hD3] at z; cases z
          have ra4 := (ra2.mono st3.ext).mono st4.ext
          split at p4
          · rename_i hz
            refine ⟨xs, hD4, by rw [← ra4.len]; exact hz, ?_⟩
            have hDg4 : G4 D = none := by
              cases w : G4 D with
              | none => rfl
              | some o => rcases st4.newG D o w with z | z | z
                          · rw [hDg3] at z; cases z
                          · rw [hD3] at z; cases z
                          · exact (hDp3 z).elim
            refine ⟨G4, ps4, M4, acc ++ [y], xs ++ [u], (xx.trans st3.ext).trans st4.ext, s4.aside hDg4 hDp4, upd_same, hDp4, hDg4, ra4.append (Reps.cons ru Reps.nil), ?_⟩
            rw [hid_upd]
            exact p4
          · exact p4.elim
end
section
variable {X : Cx} {W : WX} {elt tg iter : Expr} {ifs : List Expr} {scope : Scope} {own : List (Str × Nat)} {pos spos : Pos} {f : Env → C D} {q : Pat} {t : Env → C Bool} {fe : Env → C D}
theorem de_lcG (hc : X.calm = true) (hN : X.N.Nodup) (hi : DIG X W tg iter f) (ok : BlkOk X.N X.env.scope scope own) (hq : ∀ i ∈ q.slots, i ∈ own.map (·.2))
    (hg : ∀ (s : Shared) (H : Hp) (C : Addr) (cl : List (Str × Addr)) (fp : List Addr), DG (X.blk s H scope (compEnvC scope cl C X.env) fp) tg q)
    (ht : ∀ (s : Shared) (H : Hp) (C : Addr) (cl : List (Str × Addr)) (fp : List Addr), DTs (X.blk s H scope (compEnvC scope cl C X.env) fp) W0 ifs t)
    (he : ∀ (s : Shared) (H : Hp) (C : Addr) (cl : List (Str × Addr)) (fp : List Addr), DE (X.blk s H scope (compEnvC scope cl C X.env) fp) W0 elt fe) (hs : ∀ x, foldedSetIterable iter X.env x = pure x := by intro _; rfl) :
    DE X W (.ListComp elt [⟨tg, iter, ifs, 0⟩] scope pos) (dLcG f q t fe (own.map (·.2))) :=
  pe_imp (pe_lc (g := gD X.K q) hc hN hi ok hg ht he hs) (lc_impG (fun _ _ _ h => h) hq)
end
end DL
end
section
set_option Elab.async false
set_option linter.all false
set_option maxRecDepth 100000
set_option maxHeartbeats 2000000
/-! x, *y = a tuple -/
namespace DL
open PySem PySem.Spec PyProof.Rows L2
theorem walks_shift {prog : Program} {w : World} {A : Around} {I : Addr} {fp wr : List Addr} {n : Nat} {P : Nat → Value → Prop} {St : Nat → Heap → Prop} (W : PySem.Walks prog w A I fp wr n P St) {k : Nat} (hk : k ≤ n) :
    PySem.Walks prog w A I fp wr (n - k) (fun i v => P (i + k) v) (fun i h => St (i + k) h) where
  sub := W.sub
  frame := fun i h h' st e => W.frame (i + k) h h' st e
  item := fun i s Q E hi st hQ => W.item (i + k) s Q E (by omega) st fun v h' tk hP hS hk' => hQ v h' tk hP (by rw [show i + 1 + k = i + k + 1 by omega]; exact hS) hk'
  done := fun s Q E st hQ => W.done s Q E (by rw [show n - k + k = n by omega] at st; exact st) hQ
  self := fun i s Q E st hQ => W.self (i + k) s Q E st hQ
section
variable {prog : Program} {w : World} {A : Around} {E : Value → Shared → Prop} {s : Shared}
theorem unpack_star1 {t : Addr} {x : Value} {xs : List Value} {Q : List Value → Shared → Prop} (hh : A.handled = none) (ht : IsTup s.heap t (x :: xs).toArray) (hz : xs.length ≤ sizeLine)
    (hQ : ∀ (h' : Heap) (tk : Nat), (∀ b o, s.heap.get? b = some o → h'.get? b = some o) → Q [x, .ref h'.objs.size] { s with heap := h'.push { cls := .type "list", data := .seq xs.toArray }, toks := tk }) :
    wpAny (model prog w) A (unpackItems (.ref t) 2 (some 1)) Q E s := by
  have hlt : t ≠ s.heap.objs.size := by obtain ⟨o, ho, _⟩ := ht; exact Nat.ne_of_lt (Heap.lt_size ho)
  unfold unpackItems
  refine wpAny_bind ?_
  unfold notIterableAtAll
  refine wpAny_bind (wpAny_specialOf ht.typeIs slot_tuple_iter.lookup ?_)
  refine wpAny_pure ?_
  simp only [Bool.false_eq_true, if_false]
  refine wpAny_bind (wpAny_holding (iter_tuple ht ?_))
  refine wpAny_bind (wpAny_holding (draw_tuple hlt 1 0 _ _ ⟨_, Heap.get?_push_size _ rfl, rfl, rfl⟩ (ht.push _) (by simp) fun h₁ hit₁ hs₁ => ?_))
  have e1 : List.take 1 (List.drop 0 (x :: xs).toArray.toList) = [x] := rfl
  rw [e1, if_neg (by simp)]
  have ht₁ : IsTup h₁ t (x :: xs).toArray := (ht.push _).extBut hs₁.extBut hlt
  have W := (walks_shift (PySem.Walks.tuple (prog := prog) (w := w) (A := A.in1) hh s.heap.objs.size t hlt (x :: xs).toArray) (k := 1) (by simp)).toS
  refine wpAny_bind (wpAny_holding (wpAny_collect_iter (T := "tuple_iterator") (by simp) W (fun i s' st => Heap.IsTupleIter.typeIs (s := s') st.1) ⟨hit₁, ht₁⟩ (fun b hb => ?_) (by simp) (fun s' acc hm hacc => ?_) (by simp; omega)))
  · have h1 : s.heap.objs.size < h₁.objs.size := by
      obtain ⟨o, ho, _⟩ := hit₁
      exact Heap.lt_size ho
    simp only [List.mem_cons, List.not_mem_nil, or_false] at hb
    rcases hb with rfl | rfl
    · exact h1
    · obtain ⟨o, ho, _⟩ := ht₁
      exact Heap.lt_size ho
  · have ea : acc.toList = xs := by
      obtain ⟨h1, h2⟩ := hacc
      have h1 : acc.size = xs.length := by rw [h1]; simp
      refine List.ext_getElem? fun j => ?_
      by_cases hj : j < xs.length
      · have hj2 : j < acc.size := by omega
        have h3 := h2 j acc[j] (by simp [hj2])
        have h4 : xs[j]? = some acc[j] := by simpa using h3
        rw [h4]
        simp [hj2]
      · rw [List.getElem?_eq_none (by simp; omega), List.getElem?_eq_none (by omega)]
    rw [ea, if_neg (by simp)]
    have e2 : xs.length - (2 - 1 - 1) = xs.length := by omega
    simp only [e2, List.take_length, List.drop_length, List.append_nil]
    refine wpAny_bind (wpAny_newList ?_ hz)
    refine wpAny_pure ?_
    have hk : ∀ b o, s.heap.get? b = some o → s'.heap.get? b = some o := fun b o e => by
      have hb : b ≠ s.heap.objs.size := Nat.ne_of_lt (Heap.lt_size e)
      exact hm.heap b o (by simpa using hb) (hs₁.extBut b o hb (Heap.get?_push_of_some _ e))
    rw [Moved.eq_with hm]
    exact hQ s'.heap s'.toks hk
end
/-! the statement -/
section
variable {X : Cx} {pos spos : Pos} {k : Nat}
def gHd (K : PySem.W.Frag) (t : TGs) : TG := fun v σ H Q => ∃ a y ys, v = .ref a ∧ SqT K H a (y :: ys) ∧ ys.length ≤ sizeLine ∧ ∀ l, H l = none → t [y, .ref l] σ (upd H l (.lst ys)) Q
theorem pgs_one_star {e : Expr} {t : TG} (h : PG X e t) : PGs X [.Starred e spos] (gCons t gNil) := by
  refine ⟨fun pins s σ H vs us Q I r h' => ?_⟩
  obtain ⟨v, vr, e1, h'⟩ := h'
  subst e1
  cases r with
  | cons r rr =>
    have hs : (assignEach [.Starred e spos] X.env).map (·.2) = [assign e X.env] := rfl
    rw [hs]
    refine assignInOrder_cons (thn (h.run pins s σ H _ _ _ I r h') fun _ s1 ⟨σ1, H1, I1, q1⟩ => ?_)
    exact pgs_nil.run pins s1 σ1 H1 _ _ Q I1 rr q1
theorem pg_hd {e1 e2 : Expr} {t : TGs} (hc : X.calm = true) (h : PGs X [e1, .Starred e2 spos] t) (hst : (assignEach [e1, .Starred e2 spos] X.env).findIdx? (·.1) = some 1 := by rfl) (hn : (assignEach [e1, .Starred e2 spos] X.env).length = 2 := by rfl) :
    PG X (.Tuple [e1, .Starred e2 spos] k pos) (gHd X.K t) := by
  refine ⟨fun pins s σ H v u Q I r hw => ?_⟩
  obtain ⟨a, y, ys, ev, hq, hl, hw⟩ := hw
  subst ev
  cases r
  obtain ⟨its, rv, ht, hz⟩ := I.tuple hq
  cases rv with
  | cons r1 rr =>
    rename_i u1 us
    have hl2 : us.length ≤ sizeLine := by rw [← rr.length]; exact hl
    rw [PyProof.Rows.assign_Tuple]
    refine wpAny_bind (wpAny_standAt ?_)
    unfold unpack
    rw [hn, hst]
    refine wpAny_bind (wpAny_holding (unpack_star1 (I.ok.hd hc) ht hl2 fun h' tk hk => ?_))
    have I1 : Inv X pins σ H { s with heap := h', toks := tk } := I.kept hk
    have hf : H h'.objs.size = none := I1.hok.fresh (Nat.le_refl _)
    have I2 : Inv X pins σ (upd H h'.objs.size (.lst ys)) { s with heap := h'.push { cls := .type "list", data := .seq us.toArray }, toks := tk } := I1.laid (fun b o e => Heap.get?_push_of_some _ e) (Nat.le_refl _) ⟨hl, us, 0, rr, Heap.get?_push_size _ rfl⟩
    exact h.run pins _ σ _ [y, .ref h'.objs.size] _ Q I2 (.cons r1 (.cons rfl .nil)) (hw _ hf)
/-- x, *y = e, e a tuple -/
def sHd (f : Env → C D) (i j : Nat) : SF := lift f fun ρ d => match d with
  | .tup (d :: ds) => if ds.length ≤ sizeLine then C.pure (.nx ((ρ.set i (some d)).set j (some (.lst ds)))) else C.bad
  | _ => C.bad
theorem ds_hd {W : WX} (i j : Nat) {x y : Str} {e : Expr} {f : Env → C D} {px py sp pt : Pos} {kt} (hc : X.calm = true) (hN : X.N.Nodup) (he : DE X W e f) (hi : X.N[i]? = some x := by rfl) (hj : X.N[j]? = some y := by rfl)
    (hx : Loc X.env.scope x := by first | exact Or.inl rfl | exact Or.inr rfl) (hy : Loc X.env.scope y := by first | exact Or.inl rfl | exact Or.inr rfl)
    (hfx : X.fn x = true ∨ X.env.scope.names.lookup x = some .local := by first | exact .inl rfl | exact .inr rfl) (hfy : X.fn y = true ∨ X.env.scope.names.lookup y = some .local := by first | exact .inl rfl | exact .inr rfl)
    (hs : swapsWithSole [.Tuple [.Name x px, .Starred (.Name y py) sp] kt pt] e pos.line X.env = pure false := by rfl) (hw : swappedStores [.Tuple [.Name x px, .Starred (.Name y py) sp] kt pt] e X.env = pure none := by rfl) :
    DS X W (.Assign [.Tuple [.Name x px, .Starred (.Name y py) sp] kt pt] e pos) (sHd f i j) := by
  have ps := ps_asg (X := X) (pos := pos) he (pg_hd (k := kt) (pos := pt) hc (pgs_cons (pg_name hN hi hx hfx) (pgs_one_star (spos := sp) (pg_name hN hj hy hfy)))) hs hw rfl
  refine ⟨fun pins s σ H Dn I h => ps.run pins s σ H Dn I ?_⟩
  have hli := (List.getElem?_eq_some_iff.mp hi).1
  have hlj := (List.getElem?_eq_some_iff.mp hj).1
  refine lift_post h fun ρ d G ps M H' s sl p v r => ?_
  split at p
  · rename_i d ds
    split at p
    · rename_i hz
      unfold Rep at r
      obtain ⟨a, xs, e, g, rr⟩ := r
      obtain ⟨y, ys, e2, r1, r2⟩ := rr.uncons
      subst e2
      refine ⟨a, y, ys, e, .inl (.inl (s.sub _ _ g)), by rw [← r2.len]; exact hz, fun l hl => ?_⟩
      have z := s.stp (o := .lst ys) hl
      exact ⟨y, [.ref l], rfl, .ref l, [], rfl, rfl, p _ ps _ z (s.new hl) _ (((sl.mono z.ext).set (r1.mono z.ext) (by rw [I.len]; exact hli)).set (by unfold Rep; exact ⟨l, _, rfl, upd_same, r2.mono z.ext⟩) (by rw [List.length_set, I.len]; exact hlj))⟩
    · exact p.elim
  · exact p.elim
end
/-! *e among arguments -/
def withSeqL (d : D) (k : List D → C (List D)) : C (List D) := fun M => match asSeq M d with
  | some ds => k ds M
  | none => .bad
def aStar (f : Env → C D) (g : Env → C (List D)) : Env → C (List D) := fun ρ => C.bind (f ρ) fun x => withSeqL x fun xs => C.bind (g ρ) fun ys => C.pure (xs ++ ys)
end DL
end
section
set_option Elab.async false
set_option linter.all false
set_option maxRecDepth 100000
set_option maxHeartbeats 2000000
/-! defs with a star parameter, star arguments, defs read off a class -/
namespace DL
open PySem PySem.Spec PyProof.Rows L2
section
variable {X : Cx} {W : WX} {e : Expr} {es : List Expr} {f : Env → C D} {g : Env → C (List D)} {p : Pos}
theorem da_star (he : DE X W e f) (hr : DA X W es g) (hs : starEach (.Starred e p :: es) X.env = (true, eval e X.env) :: starEach es X.env := by rfl) : DA X W (.Starred e p :: es) (aStar f g) :=
  pa_imp (StX.pa_star he hr hs) fun σ H Q h => td_mono (seq1 (k := fun ρ x => withSeqL x fun xs => C.bind (g ρ) fun ys => C.pure (xs ++ ys)) h) fun v H1 h2 => by
    obtain ⟨ρ, G, ps, M, x, s, sl, r, q⟩ := h2
    unfold withSeqL at q
    dsimp only at q
    split at q
    · rename_i xs hx
      obtain ⟨a, ys, e1, hs, rr⟩ := asSeq_rep s r hx
      refine ⟨a, ys, e1, hs.symm, ρ, G, ps, M, s, sl, post_bind (k := fun ys => C.pure (xs ++ ys)) q fun zs M' G' ps' H' _ st s' p' vs rs => ?_⟩
      exact p' G' ps' H' Stp.refl s' _ ((rr.mono st.ext).append rs)
    · exact q.elim
end
/-! ### what can be called by places alone -/
structure Cal (P : Program) (w : World) (K : PySem.W.Frag) (mg : Str → Option Value) (base : Heap) (k : Nat) (f : Addr) (F : List D → C D) : Prop where
  go : ∀ (A : Around) (outer : List PySem.Env) (s : Shared) (H : Hp) (us : List Value) (vs : List V) (Q : VK) (E : XK), A.guards = some [] → Room k A → Env0 P w K mg base A outer s H → Vals vs us → spD K F vs H Q E →
    codeAny (model P w) A (.call (.ref f) ⟨us, []⟩) (CR (L2.CX P w) outer P w H s Q E) s
section
variable {P : Program} {w : World} {K : PySem.W.Frag} {mg : Str → Option Value} {base : Heap} {j k : Nat} {f : Addr} {F : List D → C D}
theorem Cal.mono (h : Cal P w K mg base j f F) (hl : j ≤ k) : Cal P w K mg base k f F := ⟨fun A outer s H us vs Q E hg hr => h.go A outer s H us vs Q E hg (hr.mono hl)⟩
theorem cal_of {fd : FuncData} {ps : List Str} (hb : Binds K fd ps []) (h : FnG P w K mg base k f fd ps F) : Cal P w K mg base k f F := ⟨fun A outer s H us vs Q E hg hr e0 r sp => by
  have KX : K.In s.heap := e0.mod.kin.keeps fun b o e => (e0.bs b o e).1
  have hl := h.lens sp
  have hb1 := hb s us KX (by rw [List.append_nil, ← r.length]; exact hl)
  rw [List.append_nil] at hb1
  exact h.go A outer s H ⟨us, []⟩ us vs Q E hg hr e0 hb1 r sp⟩
/-- what is left over goes into a tuple -/
def FS (n : Nat) (F : List D → C D) : List D → C D := fun ds => if n ≤ ds.length ∧ (ds.drop n).length ≤ sizeLine then F (ds.take n ++ [.tup (ds.drop n)]) else C.bad
theorem Reps.splitAt {G : Hp} {sp : List Addr} {ds : List D} {vs : List V} (r : Reps K G sp ds vs) (n : Nat) : Reps K G sp (ds.take n) (vs.take n) ∧ Reps K G sp (ds.drop n) (vs.drop n) := ⟨r.take n, r.drop n⟩
theorem cal_star {x qual pv : Str} {st : Stmt} {fd : FuncData} {N ps : List Str} {b : SF} (Fx : Fun K x qual st f fd) (S : FnScope N (ps ++ [pv]) (defScope st))
    (hb : ∀ (kV doc pm : Value) (an : Option Addr) (cdv ct : Value) (us rest : List Value), us.length = ps.length → bindArgs (PySem.W.fnOf x qual (defArgs st) (defBody st) (defScope st) .none kV doc pm an cdv ct) ⟨us ++ rest, []⟩ = (newTuple rest >>= fun t => pure (ps.zip us ++ [(pv, t)])))
    (hbody : ∀ (cdv : Value) (A : Around) (outer : List PySem.Env) (s : Shared) (H : Hp) (E : XK), Ctx (cxOf (L2.CX P w) P w K mg base N qual (defScope st) f cdv A outer s H E) (fun c d _ H' => E c d H') k →
      DSs (cxOf (L2.CX P w) P w K mg base N qual (defScope st) f cdv A outer s H E) (fun c d _ H' => E c d H') (defBody st) b) {n np m k' : Nat} {F' : List D → C D} (hF : F' = FS m (dDef n np b) := by rfl) (hn : N.length = n := by rfl) (hp : ps.length + 1 = np := by rfl) (hm : ps.length = m := by rfl) (hk : k + 1 = k' := by rfl) : Cal P w K mg base k' f F' := by
  subst hn hp hk hF hm
  obtain ⟨oc, od, kV, doc, pm, an, cdv, ct, osl, rfl, lk, hcd⟩ := Fx.ex
  refine ⟨fun A outer s H us vs Q E hg hr e0 r hsp => ?_⟩
  obtain ⟨G, sp, M, ds, s0, rr, p⟩ := hsp
  unfold FS at p
  split at p
  · rename_i hz
    obtain ⟨hz1, hz2⟩ := hz
    obtain ⟨r1, r2⟩ := rr.splitAt ps.length
    obtain ⟨u1, u2, eu, v1, v2⟩ := StX.vals_split (ws := vs.take ps.length) (rest := vs.drop ps.length) (us := us) (by rw [List.take_append_drop]; exact r)
    subst eu
    have hlv : (vs.take ps.length).length = ps.length := by rw [← r1.len, List.length_take]; omega
    have hl1 : u1.length = ps.length := by rw [← v1.length]; exact hlv
    have hl2 : u2.length ≤ sizeLine := by rw [← v2.length, ← r2.len]; exact hz2
    have hn : H s.heap.objs.size = Option.none := e0.hok.fresh (Nat.le_refl _)
    refine StX.run_bnd lk hcd S hr e0 (G := fun xs H2 => ∃ p, H p = Option.none ∧ xs = vs.take ps.length ++ [V.ref p] ∧ H2 = upd H p (.tup (vs.drop ps.length))) (fun A' Ex Q' h => ?_) fun s2 H2 xs ⟨q, hq, ex, eH⟩ hr' => ?_
    · rw [hb kV doc pm an cdv ct u1 u2 hl1]
      refine wpAny_bind (wpAny_newTuple (wpAny_pure ?_) hl2)
      have new : ObjOk P w (upd H s.heap.objs.size (.tup (vs.drop ps.length))) (s.heap.push ({ cls := .type "tuple", data := .seq u2.toArray } : Obj)) s.heap.objs.size (.tup (vs.drop ps.length)) := ⟨by rw [← r2.len]; exact hz2, u2, v2, ⟨_, Heap.get?_push_size _ rfl, rfl, _, rfl⟩⟩
      have un := StX.un_laid (fs := frs outer) (s := s) (o := ({ cls := .type "tuple", data := .seq u2.toArray } : Obj)) (u := .tup (vs.drop ps.length)) hn
      have z := h _ _ (vs.take ps.length ++ [V.ref s.heap.objs.size]) (u1 ++ [Value.ref s.heap.objs.size]) (StX.env0_laid e0 new) un rfl (fun e s' => StX.cxUp outer s H _ _ E e s' un (fun b o q => Heap.get?_push_of_some _ q) rfl) (v1.append (.cons rfl .nil))
        (by rw [List.length_append, List.length_append, hlv] <;> rfl) ⟨_, hn, rfl, rfl⟩
      rw [List.zip_append hl1.symm] at z
      exact z
    · subst ex eH
      have ctx : Ctx (cxOf (L2.CX P w) P w K mg base N qual (defScope st) f cdv A outer s2 (upd H q (.tup (vs.drop ps.length))) E) (fun c d _ H' => E c d H') k := ⟨takes_of rfl rfl rfl rfl, hr', hg, rfl, passes_of rfl⟩
      refine ⟨_, hbody cdv A outer s2 _ E ctx, ?_⟩
      have z := s0.stp (o := .tup (vs.drop ps.length)) hq
      have rr2 : Reps K _ sp (ds.take ps.length ++ [D.tup (ds.drop ps.length)]) (vs.take ps.length ++ [V.ref q]) := (r1.mono z.ext).append (Reps.cons (by unfold Rep; exact ⟨q, _, rfl, upd_same, r2.mono z.ext⟩) Reps.nil)
      have p2 := Post.ext z p
      have hld : (ds.take ps.length ++ [D.tup (ds.drop ps.length)]).length = ps.length + 1 := by rw [List.length_append, List.length_take]; simp; omega
      generalize ds.take ps.length ++ [D.tup (ds.drop ps.length)] = ds' at rr2 p2 hld
      refine ⟨ds'.map some ++ List.replicate (N.length - ds'.length) none, _, sp, M, s0.new hq, slots_start N rr2, ?_⟩
      unfold dDef at p2
      rw [if_pos hld, ← hld] at p2
      cases z : b (ds'.map some ++ List.replicate (N.length - ds'.length) none) M with
      | ok o M' =>
        rw [z] at p2
        cases o with
        | nx ρ => exact fun G' ps' H' st s' σ' _ => p2 G' ps' H' st s' .non Rep.non_of
        | rt d => exact p2
        | ex c fn es ρ => exact fun G' ps' H' st s' σ' C dd hc _ er => p2 C dd G' ps' H' hc st s' er
        | bk ρ => exact p2.elim
        | ct ρ => exact p2.elim
      | err c fn es M' => rw [z] at p2; exact p2.elim
      | bad => rw [z] at p2; exact p2.elim
  · exact p.elim
end
/-! ### C.m(..): a def or a staticmethod read off a class of the module -/
structure CcAt (P : Program) (w : World) (K : PySem.W.Frag) (mg : Str → Option Value) (base : Heap) (k : Nat) (x m : Str) (F : List D → C D) : Prop where
  ex : ∃ (C g : Addr) (mc : Value), mg x = some (.ref C) ∧ ClX.CRead K C mc ∧ (PySem.W.findCls K (.ref C) mc m = some (.val (.ref g)) ∨ ∃ q rest, PySem.W.findCls K (.ref C) mc m = some (.get (.builtin "staticmethod.__get__") (.ref q) .none (.ref C)) ∧ PySem.W.recIn K q "staticmethod" = some (.ref g :: rest)) ∧
    PySem.W.keepIn K (.ref g) = true ∧ Cal P w K mg base k g F
section
variable {X : Cx} {W : WX} {k : Nat} {x m : Str} {F : List D → C D} {p apos pos : Pos} {e : Expr} {es : List Expr} {g : Env → C (List D)}
theorem CcAt.mono {P : Program} {w : World} {K : PySem.W.Frag} {mg : Str → Option Value} {base : Heap} {j : Nat} (h : CcAt P w K mg base j x m F) (hl : j ≤ k) : CcAt P w K mg base k x m F := by
  obtain ⟨C, g, mc, a, b, c, d, e⟩ := h.ex
  exact ⟨C, g, mc, a, b, c, d, e.mono hl⟩
theorem run_cal {pins : List (Addr × Obj)} {σ : L2.St} {H : Hp} {s : Shared} {Q : VK} {us : List Value} {vs : List V} {f : Addr} (hF : Cal X.prog X.w X.K X.mg X.base k f F) (hr : Room k X.A) (hG : X.A.guards = some []) (tk : Takes X W)
    (I : L2.Inv X pins σ H s) (r : Vals vs us) (h : spD X.K F vs H Q (fun c d H' => W c d σ H')) : wpAny (model X.prog X.w) X.A (PySem.call (.ref f) us) (EP X pins σ Q) X.xe s := by
  refine wpAny_call (codeAny_mono (hF.go X.A X.stack s H us vs Q _ hG hr I.env0 r h) fun q s' hq => ?_)
  cases q with
  | error er => exact pass_of tk (fun _ _ _ h => h) pins H s er s' I hq
  | ok fl =>
    cases fl with
    | ret u => exact I.after hq
    | next => exact False.elim hq
    | brk => exact False.elim hq
    | cont => exact False.elim hq
theorem getcc {pins : List (Addr × Obj)} {σ : L2.St} {H : Hp} {s : Shared} {C g : Addr} {mc : Value} {pl : Sem Bool} {Q : Value × List Value → Shared → Prop} {A : Around} {E : Value → Shared → Prop} (I : L2.Inv X pins σ H s) (r : ClX.CRead X.K C mc)
    (h : PySem.W.findCls X.K (.ref C) mc m = some (.val (.ref g)) ∨ ∃ q rest, PySem.W.findCls X.K (.ref C) mc m = some (.get (.builtin "staticmethod.__get__") (.ref q) .none (.ref C)) ∧ PySem.W.recIn X.K q "staticmethod" = some (.ref g :: rest))
    (hq : ∀ s', L2.Inv X pins σ H s' → Q (.ref g, []) s') : wpAny (model X.prog X.w) A (getMethod (.ref C) m pl) Q E s := by
  refine PySem.W.method_cls I.kIn r.ga ?_
  rcases h with h | ⟨q, rest, h1, h2⟩
  · exact PySem.W.cls_value I.kIn r.rd h rfl (hq _ (I.tok _))
  · refine PySem.W.cls_bind I.kIn r.rd h1 ?_
    exact wpAny_call (PySem.W.sm_get (s := { s with toks := s.toks + 1 }) I.kIn h2 (PySem.W.handed_on rfl (hq _ (I.tok _))))
theorem de_ccall {pl : Sem Bool} (hF : CcAt X.prog X.w X.K X.mg X.base k x m F) (hr : Room k X.A) (hG : X.A.guards = some []) (tk : Takes X W) (ha : DA X W (e :: es) g) (hg : Gl X x) (hdb : (x == ("__debug__" : Str)) = false := by decide)
    (he : starEach (e :: es) X.env = (false, eval e X.env) :: starEach es X.env := by rfl) (hpl : (backTo pos (starEach es X.env)).any (·.1) = false := by rfl)
    (ht : eval (.Call (.Attribute (.Name x p) m apos) (e :: es) [] pos) X.env = (do
      let ov ← eval (.Name x p) X.env
      standAt apos.atName
      let (f, first) ← holding [ov] (getMethod ov m pl)
      callWith pos f first (backTo pos (starEach (e :: es) X.env)) (backToKw pos (keywordEach [] X.env))) := by rfl) : DE X W (.Call (.Attribute (.Name x p) m apos) (e :: es) [] pos) (cB F g) := by
  obtain ⟨C, f, mc, hm, hc, hf, hk, hF⟩ := hF.ex
  refine ⟨fun pins s σ H Q I q => ?_⟩
  refine PySem.W.methodCall_KW (pl := pl) (thn ((pe_glob (v := .ref C) hg hm rfl hdb).run pins s σ H (fun v H1 => v = .ref C ∧ H1 = H) I ⟨rfl, rfl⟩) fun u s1 ⟨v, H1, I1, r1, ev, eH⟩ => ?_) ht
  subst ev eH
  obtain rfl : u = Value.ref C := r1
  refine getcc I1 hc hf fun s2 I2 => ?_
  refine PySem.W.callWith_K (first := []) (h₀ := X.base) I.ok.mod.kin hk (thn (ha.run pos pins s2 σ _ _ I2 (seqL (k := fun _ xs => F xs) q)) fun us s3 ⟨vs, H2, I3, r, q1⟩ => ⟨I3.kIn, ?_⟩) he hpl
  obtain ⟨G, sps, M, xs, s0, rr, q2⟩ := q1.out
  exact run_cal hF hr hG tk I3 r (spD_of (W := W) (F := F) s0 rr q2)
theorem getcc2 {pins : List (Addr × Obj)} {σ : L2.St} {H : Hp} {s : Shared} {C g : Addr} {mc : Value} {b : Bool} {Q : Value → Shared → Prop} {A : Around} {E : Value → Shared → Prop} (I : L2.Inv X pins σ H s) (r : ClX.CRead X.K C mc)
    (h : PySem.W.findCls X.K (.ref C) mc m = some (.val (.ref g)) ∨ ∃ q rest, PySem.W.findCls X.K (.ref C) mc m = some (.get (.builtin "staticmethod.__get__") (.ref q) .none (.ref C)) ∧ PySem.W.recIn X.K q "staticmethod" = some (.ref g :: rest))
    (hq : ∀ s', L2.Inv X pins σ H s' → Q (.ref g) s') : wpAny (model X.prog X.w) A (getAttr (.ref C) m b) Q E s := by
  rcases h with h | ⟨q, rest, h1, h2⟩
  · exact PySem.W.cls_value I.kIn r.rd h rfl (hq _ (I.tok _))
  · refine PySem.W.cls_bind I.kIn r.rd h1 ?_
    exact wpAny_call (PySem.W.sm_get (s := { s with toks := s.toks + 1 }) I.kIn h2 (PySem.W.handed_on rfl (hq _ (I.tok _))))
theorem starcallN_of {M : Model} {A : Around} {E : Value → Shared → Prop} {s : Shared} {env : PySem.Env} {o : Expr} {args : List Expr} {Q : Value → Shared → Prop} (hbase : attributeBase o m env (eval o env) = eval o env)
    (hform : methodCallForm (args.length + ([] : List Keyword).length) (backTo pos (starEach args env)) [] = false)
    (h : wpAny M A (eval o env) (fun ov s₁ => wpAny M A (getAttr ov m true) (fun f s₂ => wpAny M A (callWith pos f [] (backTo pos (starEach args env)) []) Q E s₂) E s₁) E s) :
    wpAny M A (eval (.Call (.Attribute o m apos) args [] pos) env) Q E s := by
  have hke : backToKw pos (keywordEach [] env) = [] := rfl
  have hpos : methodCallPos false o env apos pos = pure pos := rfl
  have hcal : ∀ ov, calleeOf false o env ov m = (getAttr ov m true >>= fun v => pure (v, [])) := fun _ => rfl
  rw [arm_eval_Call, hbase, hke]
  refine wpAny_bind (wpAny_mono h (fun ov s₁ h₁ => ?_) fun _ _ x => x)
  refine wpAny_bind (wpAny_standAt ?_)
  unfold methodCall
  rw [hform, hpos, hcal]
  refine wpAny_bind (wpAny_holding (wpAny_bind (wpAny_mono h₁ (fun f s₂ h₂ => wpAny_pure ?_) fun _ _ x => x)))
  exact wpAny_bind (wpAny_pure h₂)
theorem de_ccallS (hF : CcAt X.prog X.w X.K X.mg X.base k x m F) (hr : Room k X.A) (hG : X.A.guards = some []) (tk : Takes X W) (ha : DA X W (e :: es) g) (hg : Gl X x) (hdb : (x == ("__debug__" : Str)) = false := by decide)
    (he : starEach (e :: es) X.env = (false, eval e X.env) :: starEach es X.env := by rfl) (hst : (backTo pos (starEach es X.env)).any (·.1) = true := by rfl)
    (hbase : attributeBase (.Name x p) m X.env (eval (.Name x p) X.env) = eval (.Name x p) X.env := by rfl) (hform : methodCallForm ((e :: es).length + ([] : List Keyword).length) (backTo pos (starEach (e :: es) X.env)) [] = false := by rfl) : DE X W (.Call (.Attribute (.Name x p) m apos) (e :: es) [] pos) (cB F g) := by
  obtain ⟨C, f, mc, hm, hc, hf, hk, hF⟩ := hF.ex
  refine ⟨fun pins s σ H Q I q => ?_⟩
  refine starcallN_of hbase hform (thn ((pe_glob (v := .ref C) hg hm rfl hdb).run pins s σ H (fun v H1 => v = .ref C ∧ H1 = H) I ⟨rfl, rfl⟩) fun u s1 ⟨v, H1, I1, r1, ev, eH⟩ => ?_)
  subst ev eH
  obtain rfl : u = Value.ref C := r1
  refine getcc2 I1 hc hf fun s2 I2 => ?_
  refine PySem.W.callWith_S2 (first := []) (h₀ := X.base) I.ok.mod.kin hk (thn (ha.run pos pins s2 σ _ _ I2 (seqL (k := fun _ xs => F xs) q)) fun us s3 ⟨vs, H2, I3, r, q1⟩ => ⟨I3.kIn, ?_⟩) he hst
  obtain ⟨G, sps, M, xs, s0, rr, q2⟩ := q1.out
  exact run_cal hF hr hG tk I3 r (spD_of (W := W) (F := F) s0 rr q2)
end
end DL
end
section
set_option Elab.async false
set_option linter.all false
set_option maxRecDepth 100000
set_option maxHeartbeats 2000000
/-! bool(x) of an own instance -/
namespace DL
open PySem PySem.Spec PyProof.Rows L2
section
variable {prog : Program} {w : World} {A : Around} {E : Value → Shared → Prop} {s : Shared} {K : PySem.W.Frag} {x C f : Addr} {ox : Obj} {odd : Option Obj}
theorem bool_own {Q : Value → Shared → Prop} (X : K.In s.heap) (I : PySem.W.InstAt s.heap x ox C odd) (hs : PySem.W.findIn K (.ref C) "__bool__" = some (some (.ref f))) (hf : PySem.W.isFn K (.ref f) = true)
    (h : wpAny (model prog w) A.in1.in1 (call (.ref f) [.ref x]) (fun r s₁ => ∃ b, r = Value.bool b ∧ Q r s₁) E s) : wpAny (model prog w) A (call (.type "bool") [.ref x]) Q E s := by
  refine callType_codes (T := "bool") (Bi := Builtin.«object.__init__») (Q₁ := fun r s₁ => ∃ b, r = Value.bool b ∧ Q r s₁) PySem.F.called_bool (PySem.F.typeCall_bool_1 _) PySem.F.entry_object_init ?_ ?_
  · refine codeAny_of_tree ?_
    show wpAny _ A.in1.in1 (do checkBuiltinCall "bool.__new__" ⟨[.type "bool", .ref x], []⟩; again (.builtin "bool.__new__" ⟨[.type "bool", .ref x], []⟩)) _ _ s
    refine wpAny_bind (wpAny_of_eq (PySem.F.newCall_bool_1 _) (wpAny_pure ⟨plainId_quiet (by decide +kernel) _, codeAny_builtin PySem.F.entry_bool_new ?_⟩))
    rw [Around.under_plainId (by decide +kernel) _]
    unfold Builtin.«bool.__new__»
    refine wpAny_bind (wpAny_of_eq (a := true) (by show isType (.type "bool") = _; rfl) ?_)
    refine PySem.W.KFB.if_not rfl ?_
    refine wpAny_bind (wpAny_of_eq (a := true) PySem.F.conv_sub_bool ?_)
    refine PySem.W.KFB.if_not rfl ?_
    refine wpAny_bind (wpAny_of_eq (a := [Value.ref x]) (by rfl) ?_)
    show wpAny _ _ (truthy (.ref x) >>= fun b => ret (.bool b)) _ _ s
    refine wpAny_bind ?_
    unfold truthy
    refine wpAny_bind (m := callSpecial? (.ref x) (Str.ofString "__bool__")) (PySem.W.special_fn X I hs (beq_iff_eq.mp hf) (wpAny_mono h (fun r s' hr => ?_) fun _ _ y => y))
    obtain ⟨b, rfl, hq⟩ := hr
    exact wpAny_pure (wpAny_pure ⟨b, rfl, hq⟩)
  · rintro obj s₁ ⟨b, rfl, hq⟩
    exact ⟨PySem.typeIs_bool _ _, PySem.F.args_object_init_2 _ _, object_init_meets PySem.F.called_bool.init.lookup PySem.F.called_bool.made (by decide) prog w A.in1 _ s₁ ⟨PySem.typeIs_bool _ _, rfl, hq⟩⟩
end
/-- an own __bool__ (or __str__) -/
structure SpAt (P : Program) (w : World) (K : PySem.W.Frag) (mg : Str → Option Value) (base : Heap) (k : Nat) (m x : Str) (F : List D → C D) : Prop where
  ex : ∃ C f fd ps, clsAt K x = some C ∧ PySem.W.findIn K (.ref C) m = some (some (.ref f)) ∧ PySem.W.isFn K (.ref f) = true ∧ Binds K fd ps [] ∧ FnG P w K mg base k f fd ps F
theorem SpAt.mono {P : Program} {w : World} {K : PySem.W.Frag} {mg : Str → Option Value} {base : Heap} {j k : Nat} {m x : Str} {F : List D → C D} (h : SpAt P w K mg base j m x F) (hl : j ≤ k) : SpAt P w K mg base k m x F := by
  obtain ⟨C, f, fd, ps, a, b, c, d, e⟩ := h.ex
  exact ⟨C, f, fd, ps, a, b, c, d, e.mono hl⟩
def isB : D → C D
  | .bl b => C.pure (.bl b)
  | _ => C.bad
/-- bool(d) -/
def dBoolZ (l : List (Str × (List D → C D))) : List D → C D
  | [d] => fun M => match insOf M d with
    | some (x, _) => match l.lookup x with
      | some F => C.ne (C.bind (F [d]) isB) M
      | none => .bad
    | none => dBool [d] M
  | _ => C.bad
section
variable {X : Cx} {W : WX} {k : Nat} {l : List (Str × (List D → C D))}
def rBoolOwn (X : Cx) (k : Nat) : List V → Hp → VK → Prop := fun xs H Q => ∃ a C dx fs f fd ps F, xs = [.ref a] ∧ H a = some (.ins C dx fs) ∧ PySem.W.findIn X.K (.ref C) "__bool__" = some (some (.ref f)) ∧ PySem.W.isFn X.K (.ref f) = true ∧ Binds X.K fd ps [] ∧ FnG X.prog X.w X.K X.mg X.base k f fd ps F ∧ spD X.K F [.ref a] H (fun v H' => ∃ b, v = .bl b ∧ Q (.bl b) H') (fun _ _ _ => False)
abbrev rBoolA : List V → Hp → VK → Prop := fun xs H Q => (∃ i, xs = [V.int i] ∧ Q (.bl (i != 0)) H) ∨ ∃ k, xs = [V.bl k] ∧ Q (.bl k) H
theorem call_boolZ (hr : Room (k + 2) X.A) (hG : X.A.guards = some []) : CallR X (.type "bool") (fun xs H Q => rBoolOwn X k xs H Q ∨ rBoolA xs H Q) := fun pins s σ H xs us Q I r h => by
  rcases h with h | h
  · obtain ⟨a, C, dx, fs, f, fd, ps, F, rfl, ha, hs, hf, hb, hF, q⟩ := h
    obtain ⟨u, rfl, ru⟩ := r.one
    cases (show u = Value.ref a from ru)
    obtain ⟨mA, O, _⟩ := ins_get I.hok ha
    obtain ⟨od, J, _⟩ := O.look
    have hr2 : Room k X.A.in1.in1 := (show Room (k + 1) X.A.in1 from Room.in1 hr).in1
    refine bool_own I.kIn J hs hf (wpAny_mono (run_quiet (us := [.ref a]) (vs := [.ref a]) hF hr2 hG hb I.env0.in1.in1 I (.cons rfl .nil) q) (fun w s' z => ?_) fun _ _ x => x)
    obtain ⟨z', H', I', rz, b, ez, qz⟩ := z
    subst ez
    cases rz
    exact ⟨b, rfl, .bl b, H', I', rfl, qz⟩
  · exact call_bool1 pins s σ H xs us Q I r h
theorem boolZ_D (hl : ∀ x F, (x, F) ∈ l → SpAt X.prog X.w X.K X.mg X.base k "__bool__" x F) : CallD X W (dBoolZ l) (fun xs H Q => rBoolOwn X k xs H Q ∨ rBoolA xs H Q) := fun σ vs H Q h => by
  obtain ⟨ρ, G, ps, M, xs, s, sl, r, p⟩ := h
  replace p : Post X.K W σ (PD X.K Q) G ps H (dBoolZ l xs M) := p
  unfold dBoolZ at p
  split at p
  · rename_i d
    split at p
    · rename_i x fn hi
      split at p
      · rename_i F hF
        obtain ⟨v, e, r1⟩ := r.one
        subst e
        obtain ⟨a, C, dx, kvs, ev, hC, h1, e2⟩ := pick_ins s r1 hi
        subst ev
        obtain ⟨C', f, fd, qs, hC', hs, hf, hb, hFG⟩ := (hl x F (lookup_mem hF)).ex
        have : C' = C := Option.some.inj (hC'.symm.trans hC)
        subst this
        refine .inl ⟨a, C', dx, kvs, f, fd, qs, F, rfl, h1, hs, hf, hb, hFG, G, ps, M, [d], s, r, ?_⟩
        unfold C.ne at p
        cases z : C.bind (F [d]) isB M with
        | err c fn ds M' => rw [z] at p; exact p.elim
        | bad => rw [z] at p; exact p.elim
        | ok d' M' =>
          rw [z] at p
          unfold C.bind at z
          cases z2 : F [d] M with
          | err c fn ds M' => rw [z2] at z; cases z
          | bad => rw [z2] at z; cases z
          | ok y M2 =>
            rw [z2] at z
            cases y with
            | bl b =>
              cases z
              exact fun G' ps' H' st s' v rv => by
                unfold Rep at rv
                exact ⟨b, rv, p G' ps' H' st s' _ (by unfold Rep; rfl)⟩
            | _ => cases z
      · exact p.elim
    · exact .inr (bool_D σ vs H Q ⟨ρ, G, ps, M, _, s, sl, r, p⟩)
  · exact p.elim
end
/-! ### xs.pop(i), a concatenation that may change -/
def dPopAt : D → List D → C D := fun o es M => match o, es with
  | .ptr n, [.int i] => match M[n]? with
    | some (.lst ds) => if -(2 ^ 63) ≤ i ∧ i < 2 ^ 63 then (match seqIndex? i ds.length with
      | some k => match ds[k]? with
        | some y => .ok y (M.set n (.lst (ds.eraseIdx k)))
        | none => .bad
      | none => .bad) else .bad
    | _ => .bad
  | _, _ => .bad
theorem Reps.erase {K : PySem.W.Frag} {G : Hp} {ps : List Addr} : ∀ {ds : List D} {vs : List V} (k : Nat), Reps K G ps ds vs → Reps K G ps (ds.eraseIdx k) (vs.eraseIdx k)
  | [], vs, k, r => by unfold Reps at r; subst r; simp; exact Reps.nil
  | d :: ds, vs, 0, r => by
    obtain ⟨v, r', e, r1, r2⟩ := r.uncons
    subst e
    exact r2
  | d :: ds, vs, k + 1, r => by
    obtain ⟨v, r', e, r1, r2⟩ := r.uncons
    subst e
    exact Reps.cons r1 (Reps.erase k r2)
section
variable {X : Cx} {W : WX} {o' b : Expr} {o : Env → C D} {g : Env → C (List D)} {apos cpos : Pos}
theorem popAt_D : MtD X W dPopAt rPopAt := fun σ v vs H Q h => by
  obtain ⟨G, ps, M, x, xs, s, r1, rs, p⟩ := h
  unfold dPopAt at p
  split at p
  · rename_i n i
    split at p
    · rename_i ds hm
      split at p
      · rename_i hz
        split at p
        · rename_i k hk
          split at p
          · rename_i y hy
            unfold Rep at r1
            obtain ⟨q, e1, hp⟩ := r1
            subst e1
            obtain ⟨u, e2, ru⟩ := rs.one
            subst e2
            unfold Rep at ru
            subst ru
            obtain ⟨q', ys, e3, g1, h1, rr⟩ := s.mem n _ hm
            have : q' = q := Option.some.inj (e3.symm.trans hp)
            subst this
            obtain ⟨w, hw, rw'⟩ := rr.get hy
            exact ⟨q', ys, i, k, w, rfl, rfl, h1, hz.1, hz.2, by rw [← rr.len]; exact hk, hw, p G ps _ (s.stpS hp) (s.set hm hp (rr.erase k)) _ rw'⟩
          · exact p.elim
        · exact p.elim
      · exact p.elim
    · exact p.elim
  · exact p.elim
theorem de_popAt (ho : DE X W o' o) (ha : DA X W [b] g) (hbase : attributeBase o' "pop" X.env (eval o' X.env) = eval o' X.env := by rfl)
    (hfew : ((backTo cpos (starEach [b] X.env)).all (fun x => !x.1) && (backToKw cpos (keywordEach [] X.env)).all (fun x => x.1.isSome)
      && decide ([b].length + ([] : List Keyword).length + (if ([] : List Keyword).isEmpty then 0 else 1) < 30)) = true := by rfl)
    (hline : (apos.endLine == cpos.line) = true := by rfl) (hs : starEach [b] X.env = (false, eval b X.env) :: starEach [] X.env := by rfl) (hplain : (backTo cpos (starEach [] X.env)).any (·.1) = false := by rfl) :
    DE X W (.Call (.Attribute o' "pop" apos) [b] [] cpos) (mB "list" dPopAt o g) :=
  de_bm PySem.F.plainAttrs_list PySem.F.slot_list_pop PySem.F.type_list_pop mt_popAt popAt_D ho ha (by simp) hbase hfew hline hs hplain
def lstIn (M : Sto) : D → Option (List D)
  | .lst ds => some ds
  | .ptr n => match M[n]? with
    | some (.lst ds) => some ds
    | _ => none
  | _ => none
theorem lstIn_rep {K : PySem.W.Frag} {G : Hp} {ps : List Addr} {M : Sto} {H : Hp} (s : Sto0 K G ps M H) {d : D} {v : V} {ds : List D} (r : Rep K G ps d v) (e : lstIn M d = some ds) : ∃ a xs, v = .ref a ∧ H a = some (.lst xs) ∧ Reps K G ps ds xs := by
  cases d with
  | lst es =>
    cases e
    unfold Rep at r
    obtain ⟨a, xs, e1, g1, q1⟩ := r
    exact ⟨a, xs, e1, s.sub _ _ g1, q1⟩
  | ptr n =>
    unfold Rep at r
    obtain ⟨a, ev, hp⟩ := r
    dsimp only [lstIn] at e
    split at e
    · rename_i es hm
      cases e
      obtain ⟨a', xs, e1, _, h1, rr⟩ := s.mem n _ hm
      have : a' = a := Option.some.inj (e1.symm.trans hp)
      subst this
      exact ⟨a', xs, ev, h1, rr⟩
    · cases e
  | _ => cases e
def dAddM : D → D → C D := fun x y M => match lstIn M x, lstIn M y with
  | some a, some b => if a.length + b.length ≤ sizeLine then allocL (a ++ b) M else .bad
  | _, _ => .bad
theorem op_addMD : OpD X W dAddM (rAddA X.K) := fun σ v u H Q h => by
  obtain ⟨G, ps, M, x, y, s, r1, r2, p⟩ := h.out
  unfold dAddM at p
  split at p
  · rename_i ds es h1 h2
    split at p
    · rename_i hz
      obtain ⟨a, xs, e1, g1, q1⟩ := lstIn_rep s r1 h1
      obtain ⟨b, ys, e2, g2, q2⟩ := lstIn_rep s r2 h2
      refine .inr (.inr (.inl ⟨a, b, xs, ys, e1, e2, g1, g2, by rw [← q1.len, ← q2.len]; exact hz, fun l hl => ?_⟩))
      refine p _ _ _ (s.stpP hl) (s.newM hl (q1.append q2)) _ ?_
      unfold Rep
      refine ⟨l, rfl, ?_⟩
      rw [← s.len, List.getElem?_append_right (Nat.le_refl _), Nat.sub_self]
      rfl
    · exact p.elim
  · exact p.elim
/-! ### x in xs, deep -/
def dInL (neg : Bool) : D → D → C D := fun x y M => match pyM M x, pyM M y with
  | some d, some (.list ds) => if SeqAt.shaped d && SeqAt.shaped (.list ds) then .ok (.bl (if neg then !(ds.any fun z => PyData.eqv z d) else ds.any fun z => PyData.eqv z d)) M else .bad
  | _, _ => .bad
theorem inL_D : OpD X W (dInL false) (rInD X.K) := fun σ v u H Q h => by
  obtain ⟨G, ps, M, x, y, s, r1, r2, p⟩ := h.out
  unfold dInL at p
  split at p
  · rename_i d ds h1 h2
    split at p
    · rename_i hz
      simp only [Bool.and_eq_true] at hz
      exact ⟨d, ds, r1.dpM s h1, r2.dpM s h2, hz.1, hz.2, p G ps H Stp.refl s _ (by unfold Rep; rfl)⟩
    · exact p.elim
  · exact p.elim
theorem notInL_D : OpD X W (dInL true) (rNotInD X.K) := fun σ v u H Q h => by
  obtain ⟨G, ps, M, x, y, s, r1, r2, p⟩ := h.out
  unfold dInL at p
  split at p
  · rename_i d ds h1 h2
    split at p
    · rename_i hz
      simp only [Bool.and_eq_true] at hz
      exact ⟨d, ds, r1.dpM s h1, r2.dpM s h2, hz.1, hz.2, p G ps H Stp.refl s _ (by unfold Rep; rfl)⟩
    · exact p.elim
  · exact p.elim
end
end DL
end
section
set_option Elab.async false
set_option linter.all false
set_option maxRecDepth 100000
set_option maxHeartbeats 2000000
namespace DL
open PySem PySem.Spec PyProof.Rows L2
/-! ### lambdas: their making (with or without a default), their start -/
/-- a lambda's names: captured ones, globals, own parameters that are no names of the def -/
structure LmS (N : List Str) (sc scope : Scope) : Prop where
  kind : scope.kind = .function
  co : scope.isCoroutine = false
  gen : scope.isGenerator = false
  own : ∀ y ∈ scope.names, y.2 ≠ .cell ∧ (y.2 = .local → y.1 ∉ N)
  free : ∀ y ∈ scope.names, y.2 = .free → sc.names.lookup y.1 = some .cell ∨ sc.names.lookup y.1 = some .free
def lmSB (N : List Str) (sc scope : Scope) : Bool :=
  decide (scope.kind = .function) && !scope.isCoroutine && !scope.isGenerator && scope.names.all fun y => !decide (y.2 = .cell) && (!decide (y.2 = .local) || !decide (y.1 ∈ N)) && (!decide (y.2 = .free) || decide (sc.names.lookup y.1 = some .cell) || decide (sc.names.lookup y.1 = some .free))
theorem lmS_by {N : List Str} {sc scope : Scope} (h : lmSB N sc scope = true) : LmS N sc scope := by
  unfold lmSB at h
  simp only [Bool.and_eq_true, Bool.or_eq_true, Bool.not_eq_true', decide_eq_true_eq, decide_eq_false_iff_not, List.all_eq_true] at h
  obtain ⟨⟨⟨h1, h2⟩, h3⟩, h4⟩ := h
  refine ⟨h1, h2, h3, fun y hy => ⟨(h4 y hy).1.1, fun e => ?_⟩, fun y hy e => ?_⟩
  · rcases (h4 y hy).1.2 with z | z
    · exact absurd e z
    · exact z
  · rcases (h4 y hy).2 with (z | z) | z
    · exact absurd e z
    · exact .inl z
    · exact .inr z
/-- what the making of a lambda does to the heap that is told of -/
structure LmStep (G H H1 : Hp) (P c' : Addr) (q : Str) : Prop where
  co : H1 c' = some (LamX.CodeO c' q)
  alt : (H1 = H ∧ G c' = some (LamX.CodeO c' q)) ∨ (H c' = none ∧ ∃ qs more : Array Value, H P = some (.tbl qs) ∧ H1 = upd (upd H P (.tbl (qs ++ more))) c' (LamX.CodeO c' q) ∧ TriplesOk (qs ++ more).toList ∧
    ∀ (pos : Pos) (cv : Value), codeAmong pos (qs ++ more).toList = some cv → (∃ c, cv = .ref c ∧ G c = some (LamX.CodeO c q)) ∨ cv = .ref c')
section
variable {X : Cx} {pins : List (Addr × Obj)} {σ : L2.St} {H G : Hp} {s : Shared}
theorem LmS.has {scope : Scope} (L : LmS X.N X.env.scope scope) (ok : X.Ok) : ∀ y ∈ scope.names, y.2 = .free → ∃ c, X.env.cells.lookup y.1 = some c := fun y hy e => by
  rcases L.free y hy e with k | k
  · exact ok.has _ (.inl k)
  · exact ok.has _ (.inr k)
theorem lm_nofr (I : L2.Inv X pins σ H s) : ∀ f, s.heap.objs.size ≤ f → f ∉ frs X.stack := fun f hf z => by
  rcases List.mem_cons.mp (I.stkSub _ z) with e | e
  · have h1 := I.lt
    rw [← e] at h1
    exact Nat.lt_irrefl _ (Nat.lt_of_lt_of_le h1 hf)
  · exact I.nofs hf e
theorem lm_tail {c P : Addr} {q : Str} {params : Arguments} {body : Expr} {scope : Scope} {pos : Pos} {fl : Nat} {dV : Value} {E : Value → Shared → Prop} {Q : Value → Shared → Prop} (I : L2.Inv X pins σ H s) (TB : LamX.TabB X.base X.mg c P) (hcode : X.env.code = .ref c)
    (hT : ∃ qs : Array Value, H P = some (.tbl qs) ∧ TriplesOk qs.toList ∧ ∀ (pos : Pos) (cv : Value), codeAmong pos qs.toList = some cv → ∃ c, cv = .ref c ∧ G c = some (LamX.CodeO c q)) (hGH : ∀ a o, G a = some o → H a = some o)
    (hfree : ∀ y ∈ scope.names, y.2 = .free → ∃ c, X.env.cells.lookup y.1 = some c)
    (h : ∀ (f c' : Addr) (doc pm ctv : Value) (H1 : Hp) (s' : Shared), L2.Inv X pins σ H1 s' → LmStep G H H1 P c' q → (∀ b o, b ≠ P → s.heap.get? b = some o → s'.heap.get? b = some o) → (∀ b o, s.heap.get? b = some o → H b = none → H1 b = none) →
      s'.heap.get? f = some (PySem.W.kdv_obj "<lambda>" q params (.expr body) scope (cloFrom X.env.cells scope.names []) dV doc pm c' ctv) → H1 f = none → f ∉ frs X.stack → Q (.ref f) s') :
    wpAny (model X.prog X.w) X.A (makeTail "<lambda>" q params (.expr body) scope X.env dV .none none pos fl) Q E s := by
  obtain ⟨ps, hP, ht, ha⟩ := hT
  have bP : s.heap.BuiltinsAt X.mg P := TB.bm.keeps I.bk
  have hP' : s.heap.get? P = some { cls := .none, data := .fields ps } := I.hok P _ hP
  have nofr := lm_nofr I
  cases hc : codeAmong pos ps.toList with
  | none =>
    refine PySem.W.kdv_makeTail (mg := X.mg) (c := c) (P := P) (ps := ps) (closure_ok hfree) I.ok.glob (I.mod.glob.keeps I.bk) hcode (TB.code.keeps I.bk) hP' ht hc TB.gP bP fun c' ctv doc h' tk hx hge hlt hrec htb => ?_
    obtain ⟨c2, oc, vs, t, e2, hoc, hd, hv⟩ := hrec
    cases e2
    have hsz : s.heap.objs.size ≤ h'.objs.size := Nat.le_trans hge (Nat.le_of_lt hlt)
    have nC : H c' = none := I.hok.fresh hge
    have nP : ∀ b, H b = none → b ≠ P := fun b e z => by rw [z, hP] at e; cases e
    have I1 := LamX.inv_table (t' := tk) (more := #[rawInt pos.line, rawInt pos.col, .ref c']) (h' := h'.push (PySem.W.kdv_obj "<lambda>" q params (.expr body) scope (cloFrom X.env.cells scope.names []) dV doc ((X.mg "__name__").getD .none) c' ctv)) (q := q) I hP
      (fun b o hb e => Heap.get?_push_of_some _ (hx b o hb e)) (Heap.get?_push_of_some _ htb) hge ⟨oc, vs, t, Heap.get?_push_of_some _ hoc, hd, hv⟩
    have eL : (ps ++ #[rawInt pos.line, rawInt pos.col, .ref c']).toList = ps.toList ++ [rawInt pos.line, rawInt pos.col, .ref c'] := by simp
    refine h h'.objs.size c' doc ((X.mg "__name__").getD .none) ctv _ _ I1 ⟨upd_same, .inr ⟨nC, ps, _, hP, rfl, ?_, fun p' cv hcv => ?_⟩⟩ (fun b o hb e => Heap.get?_push_of_some _ (hx b o hb e)) (fun b o e n => ?_) (Heap.get?_push_size _ rfl) ?_ (nofr _ hsz)
    · rw [eL]; exact PySem.TriplesOk_snoc _ _ _ _ ht
    · rw [eL] at hcv
      rcases LamX.among_app _ ht hcv with z | z
      · exact .inl (ha p' cv z)
      · exact .inr z
    · have n1 : b ≠ c' := Nat.ne_of_lt (Nat.lt_of_lt_of_le (Heap.lt_size e) hge)
      rw [upd_ne n1, upd_ne (nP b n)]
      exact n
    · have n1 : h'.objs.size ≠ c' := Nat.ne_of_gt hlt
      have n2 : h'.objs.size ≠ P := Nat.ne_of_gt (Nat.lt_of_lt_of_le (Heap.lt_size hP') hsz)
      rw [upd_ne n1, upd_ne n2]
      exact I.hok.fresh hsz
  | some cv =>
    obtain ⟨c', e, hco⟩ := ha pos cv hc
    subst e
    refine PySem.W.kdv_makeTailHit (mg := X.mg) (c := c) (P := P) (ps := ps) (closure_ok hfree) I.ok.glob (I.mod.glob.keeps I.bk) hcode (TB.code.keeps I.bk) hP' ht hc bP fun ctv doc h' tk hx hsz => ?_
    have I1 : L2.Inv X pins σ H { s with heap := h'.push (PySem.W.kdv_obj "<lambda>" q params (.expr body) scope (cloFrom X.env.cells scope.names []) dV doc ((X.mg "__name__").getD .none) c' ctv), toks := tk } := I.kept fun b o e => Heap.get?_push_of_some _ (hx b o e)
    exact h h'.objs.size c' doc ((X.mg "__name__").getD .none) ctv H _ I1 ⟨hGH _ _ hco, .inl ⟨rfl, hco⟩⟩ (fun b o _ e => Heap.get?_push_of_some _ (hx b o e)) (fun b o _ n => n) (Heap.get?_push_size _ rfl) (I.hok.fresh hsz) (nofr _ hsz)
/-- how a lambda is called with nothing: what it binds, as long as its defaults stand -/
def LmB (H1 : Hp) (s' : Shared) (fr : List Addr) (fd : FuncData) (bs : List (Str × Value)) : Prop :=
  ∀ sZ : Shared, (∀ b o, s'.heap.get? b = some o → H1 b = none → b ∉ fr → sZ.heap.get? b = some o) → BindsTo sZ fd ⟨[], []⟩ bs
/-- the making of a lambda by its text -/
def LmK (X : Cx) (params : Arguments) (scope : Scope) (body : Expr) : Prop :=
  ∀ (pins : List (Addr × Obj)) (σ : L2.St) (G H : Hp) (s : Shared) (c P : Addr) (pos : Pos) (E Q : Value → Shared → Prop), L2.Inv X pins σ H s → LamX.TabB X.base X.mg c P → X.env.code = .ref c →
    (∃ qs : Array Value, H P = some (.tbl qs) ∧ TriplesOk qs.toList ∧ ∀ (pos : Pos) (cv : Value), codeAmong pos qs.toList = some cv → ∃ c, cv = .ref c ∧ G c = some (LamX.CodeO c (X.env.qual ++ "<lambda>"))) → (∀ a o, G a = some o → H a = some o) →
    (∀ y ∈ scope.names, y.2 = .free → ∃ c, X.env.cells.lookup y.1 = some c) →
    (∀ (f c' : Addr) (dV doc pm ctv : Value) (H1 : Hp) (s' : Shared) (bs : List (Str × Value)), L2.Inv X pins σ H1 s' → LmStep G H H1 P c' (X.env.qual ++ "<lambda>") →
      s'.heap.get? f = some (PySem.W.kdv_obj "<lambda>" (X.env.qual ++ "<lambda>") params (.expr body) scope (cloFrom X.env.cells scope.names []) dV doc pm c' ctv) → H1 f = none → f ∉ frs X.stack →
      (∀ y ∈ bs, scope.names.lookup y.1 = some .local) → LmB H1 s' (frs X.stack) (PySem.W.kdv_fn "<lambda>" (X.env.qual ++ "<lambda>") params (.expr body) scope (cloFrom X.env.cells scope.names []) dV doc pm (.ref c') ctv) bs → Q (.ref f) s') →
    wpAny (model X.prog X.w) X.A (eval (.Lambda params body scope pos) X.env) Q E s
/-- without parameters -/
theorem lm_plain {params : Arguments} {scope : Scope} {body : Expr} (hdef : defaultsOf params X.env = ([], []) := by rfl)
    (hbind : ∀ (q : Str) (cl : List (Str × Addr)) (doc pm cv ctv : Value), bindArgs (PySem.W.kdv_fn "<lambda>" q params (.expr body) scope cl .none doc pm cv ctv) ⟨[], []⟩ = pure [] := by intros; rfl) : LmK X params scope body := by
  intro pins σ G H s c P pos E Q I TB hcode hT hGH hfree h
  refine PySem.W.kla_eval hdef ?_
  rw [makeFunction_eq]
  simp only [List.zip_nil_right, List.filterMap_nil, List.isEmpty_nil, if_true, pure_bind]
  exact lm_tail I TB hcode hT hGH hfree fun f c' doc pm ctv H1 s' I1 st _ _ ho hn hf => h f c' .none doc pm ctv H1 s' [] I1 st ho hn hf (fun y hy => by cases hy) fun sZ _ => BindsTo.of_eq (hbind _ _ _ _ _ _)
/-- with one parameter that has an int as its default -/
theorem lm_dflt {params : Arguments} {scope : Scope} {body : Expr} {x : Str} {i : Int} {j : Nat} {p : Pos} (hd : params.defaults = [.Constant (.int i) j p] := by rfl) (hk : params.kw_defaults = [] := by rfl) (hl : scope.names.lookup x = some .local := by rfl)
    (hbind : ∀ (q : Str) (cl : List (Str × Addr)) (T : Addr) (u : Value) (doc pm cv ctv : Value), ∃ k : Option (Array Value) → Sem (List (Str × Value)), bindArgs (PySem.W.kdv_fn "<lambda>" q params (.expr body) scope cl (.ref T) doc pm cv ctv) ⟨[], []⟩ = seqItems? (.ref T) >>= k ∧ k (some #[u]) = pure [(x, u)] := by
      intros; exact ⟨_, rfl, rfl⟩) : LmK X params scope body := by
  intro pins σ G H s c P pos E Q I TB hcode hT hGH hfree h
  refine PySem.W.kdv_lam (by rw [hd]; rfl) hk ?_
  rw [hd]
  refine PySem.W.kdv_all1 (thn ((pe_int (X := X) (i := i) (j := j) (pos := p)).run pins s σ H (fun v H1 => v = .int i ∧ H1 = H) I ⟨rfl, rfl⟩) fun u s1 ⟨v, H1, I1, r1, q1⟩ => ?_)
  obtain ⟨ev, eH⟩ := q1
  subst ev
  subst eH
  refine PySem.W.kdv_all0 ?_
  rw [makeFunction_eq]
  simp only [List.zip_nil_right, List.filterMap_nil, List.isEmpty_nil, List.isEmpty_cons, Bool.false_eq_true, if_false, if_true, pure_bind]
  refine wpAny_bind (wpAny_newTextTuple ?_)
  have I2 : L2.Inv X pins σ H1 { s1 with heap := s1.heap.push { cls := .type "tuple", data := .seq [u].toArray } } := I1.kept fun b o e => Heap.get?_push_of_some _ e
  have nT : H1 s1.heap.objs.size = none := I1.hok.fresh (Nat.le_refl _)
  have hPn : s1.heap.objs.size ≠ P := fun z => by
    obtain ⟨qs, hP, _⟩ := hT
    rw [← z, nT] at hP
    cases hP
  have fT := lm_nofr I1 s1.heap.objs.size (Nat.le_refl _)
  refine lm_tail (s := { s1 with heap := s1.heap.push { cls := .type "tuple", data := .seq [u].toArray } }) I2 TB hcode hT hGH hfree fun f c' doc pm ctv H2 s' I3 st kp kn ho hn hf => h f c' (.ref s1.heap.objs.size) doc pm ctv H2 s' [(x, u)] I3 st ho hn hf (fun y hy => by
    rw [List.mem_singleton.mp hy]; exact hl) fun sZ hZ => ?_
  obtain ⟨k, e1, e2⟩ := hbind (X.env.qual ++ "<lambda>") (cloFrom X.env.cells scope.names []) s1.heap.objs.size u doc pm (.ref c') ctv
  have oT : ({ s1 with heap := s1.heap.push { cls := .type "tuple", data := .seq [u].toArray } } : Shared).heap.get? s1.heap.objs.size = some { cls := .type "tuple", data := .seq [u].toArray } := Heap.get?_push_size _ rfl
  exact BindsTo.of_defaults rfl (hZ _ _ (kp _ _ hPn oT) (kn _ _ oT nT) fT) rfl e1 e2
end
end DL
end
section
set_option Elab.async false
set_option linter.all false
set_option maxRecDepth 100000
set_option maxHeartbeats 2000000
namespace DL
open PySem PySem.Spec PyProof.Rows L2
section
variable {X : Cx} {pins : List (Addr × Obj)} {σ : L2.St} {H HZ : Hp} {s s1 : Shared}
theorem lm_start {A : Around} {outer : List PySem.Env} {E : XK} {scope : Scope} {f c' : Addr} {h₁ : Heap} {tk : Nat} {bs : List (Str × Value)} (I : L2.Inv X pins σ H s) (L : LmS X.N X.env.scope scope) (e0 : Env0 X.prog X.w X.K X.mg X.base A outer s1 HZ) (hd : A.handled = none)
    (un : Un (frs X.stack) [] H HZ s.heap s1.heap) (hns : h₁.Ns s1.heap.objs.size fun y => bs.reverse.lookup y) (kp : ∀ b o, s1.heap.get? b = some o → h₁.get? b = some o) :
    L2.Inv (LamX.lamCx X A outer s1 HZ E scope f c') [] σ HZ { s1 with heap := h₁, toks := tk } := by
  have hfree := L.has I.ok
  have cm : ∀ {y c}, (cloFrom X.env.cells scope.names []).lookup y = some c → X.env.cells.lookup y = some c := fun {y c} e => by
    rcases cloFrom_mem (PySem.mem_of_lookup e) with hm | ⟨h1, h2⟩
    · cases hm
    · obtain ⟨c1, hc⟩ := hfree _ h1 rfl
      have hc : X.env.cells.lookup y = some c1 := hc
      have e2 : c = c1 := by
        rw [h2, hc] <;> rfl
      rw [e2]
      exact hc
  have look : ∀ {y}, scope.names.lookup y = some .free → ∃ c, (cloFrom X.env.cells scope.names []).lookup y = some c := fun {y} hl => by
    have hy : (y, NameKind.free) ∈ scope.names := PySem.mem_of_lookup hl
    exact mem_lookup (cloFrom_has (cells := X.env.cells) (acc := []) hy)
  have cellK : ∀ {c : Addr} {v : Option Value}, H c = none → s.heap.IsCell c v → h₁.IsCell c v := fun {c v} n ⟨o, ho, hd⟩ => by
    obtain ⟨sl, q⟩ := un.any ho n (by simp)
    exact ⟨_, kp _ _ q, hd⟩
  have noA : ∀ b : Addr, b ∉ (LamX.lamCx X A outer s1 HZ E scope f c').ex := fun b z => absurd (show b ∈ ([] : List Addr) from z) (by simp)
  refine ⟨⟨e0.mod, L.kind, rfl, rfl, Nat.le_refl _, fun y z c e1 e2 => I.ok.inj y z c (cm e1) (cm e2), fun y hy => ?_, fun y c z _ => ?_, fun _ => hd, Around.frames_deeper e0.frames, .inr ⟨rfl, rfl⟩, fun b z => absurd z (noA b), e0.bs, e0.bsz, fun b _ _ => noA b,
      fun b z => absurd z (noA b), e0.funs, e0.frf⟩,
    rfl, e0.bare, Un.kept kp, ⟨_, hns, fun i y v e1 e2 e3 => ?_⟩, fun y c e => ?_, e0.hok.fresh (Nat.le_refl _), fun y c e => ?_, fun q hq => absurd (show q ∈ ([] : List (Addr × Obj)) ++ [] from hq) (by simp), e0.hok.kept kp, I.len⟩
  · have hy : scope.names.lookup y = some .cell ∨ scope.names.lookup y = some .free := hy
    rcases hy with hy | hy
    · exact absurd rfl (L.own _ (PySem.mem_of_lookup hy)).1
    · exact look hy
  · have z : false = true := z
    cases z
  · have e3 : Vis scope y := e3
    have yN : y ∈ X.N := List.mem_of_getElem? e1
    rcases e3 with k | k | k
    · exact ((L.own _ (PySem.mem_of_lookup k)).2 rfl yN).elim
    · exact absurd rfl (L.own _ (PySem.mem_of_lookup k)).1
    · obtain ⟨m, hn, hl⟩ := I.loc
      have hvis : Vis X.env.scope y := (L.free _ (PySem.mem_of_lookup k) rfl).elim (fun k => .inr (.inl k)) (fun k => .inr (.inr k))
      obtain ⟨w', r, q⟩ := hl i y v e1 e2 hvis
      obtain ⟨c2, h2⟩ := look k
      refine ⟨w', r, .inr ⟨.inr k, c2, h2, ?_⟩⟩
      have c1 := cm h2
      rcases q with ⟨k', _⟩ | ⟨_, c3, e', z⟩
      · have k' : X.env.scope.names.lookup y = some .local := k'
        rcases L.free _ (PySem.mem_of_lookup k) rfl with k2 | k2 <;> rw [show X.env.scope.names.lookup y = _ from k2] at k' <;> cases k'
      · rw [c1] at e'
        cases e'
        exact cellK (I.freeC y _ c1) z
  · obtain ⟨w', z⟩ := I.cell y c (cm e)
    exact ⟨w', cellK (I.freeC y c (cm e)) z⟩
  · obtain ⟨v, o, ho, hd⟩ := I.cell y c (cm e)
    exact un.free c o ho (I.freeC y c (cm e)) (by simp)
theorem lm_ctx {W : WX} {k : Nat} {A : Around} {outer : List PySem.Env} {E : XK} {scope : Scope} {f c' : Addr} (hr : Room k (A.deeper (LamX.lamEnv X scope s1.heap.objs.size f c'))) (hG : A.guards = some []) :
    Ctx (LamX.lamCx X A outer s1 HZ E scope f c') (fun c d _ H' => E c d H') k := ⟨takes_of rfl rfl rfl rfl, hr, hG, rfl, passes_of rfl⟩
/-- x(), in the def that got the lambda -/
theorem pe_act2 {CXg : CXT} (hCX : CXg = L2.CX X.prog X.w) {Eg : XK} {Ng : List Str} {qg : Str} {sg : Scope} {g f c' : Addr} {cdg dV doc pm ctv : Value} {params : Arguments} {body : Expr} {scope : Scope} {k i : Nat} {a : Str} {pn : List (Addr × Obj)} {xe : Value → Shared → Prop} {W : WX} {tb : WX → TE} {p1 p2 : Pos} {bs : List (Str × Value)}
    (I : L2.Inv X pins σ H s) (L : LmS X.N X.env.scope scope) (hf : s.heap.get? f = some (PySem.W.kdv_obj "<lambda>" (X.env.qual ++ "<lambda>") params (.expr body) scope (cloFrom X.env.cells scope.names []) dV doc pm c' ctv)) (hfn : H f = none) (hfr : f ∉ frs X.stack)
    (hloc : ∀ y ∈ bs, scope.names.lookup y.1 = some .local) (hbind : LmB H s (frs X.stack) (PySem.W.kdv_fn "<lambda>" (X.env.qual ++ "<lambda>") params (.expr body) scope (cloFrom X.env.cells scope.names []) dV doc pm (.ref c') ctv) bs)
    (tk : Takes ((cxOf CXg X.prog X.w X.K X.mg X.base Ng qg sg g cdg X.A X.stack s H Eg).tr pn xe) W) (hr : Room (k + 1) (X.A.deeper (envOfC qg sg s.heap.objs.size g cdg))) (hG : X.A.guards = some [])
    (hbody : ∀ (A : Around) (outer : List PySem.Env) (s : Shared) (H : Hp) (E : XK), Ctx (LamX.lamCx X A outer s H E scope f c') (fun c d _ H' => E c d H') k → PE (LamX.lamCx X A outer s H E scope f c') body (tb (fun c d _ H' => E c d H')))
    (hN : Ng[i]? = some a) (hv : Vis sg a) (hd : (a == ("__debug__" : Str)) = false := by decide) (hcd : (a == ("__classdict__" : Str)) = false := by decide) :
    PE ((cxOf CXg X.prog X.w X.K X.mg X.base Ng qg sg g cdg X.A X.stack s H Eg).tr pn xe) (.Call (.Name a p1) [] [] p2)
      (fun σZ HZ Q => σZ[i]? = some (some (.ref f)) ∧ HZ c' = some (LamX.CodeO c' (X.env.qual ++ "<lambda>")) ∧ tb (fun c d _ H' => W c d σZ H') σ HZ Q) := by
  subst hCX
  refine ⟨fun pinsZ sZ σZ HZ Q IZ h => ?_⟩
  obtain ⟨hs, hc, ht⟩ := h
  refine wpAny_Call_Name_kw (thn ((pe_var (pos := p1) (i := i) hN hv hd hcd).run pinsZ sZ σZ HZ (fun v H1 => v = .ref f ∧ H1 = HZ) IZ ⟨.ref f, hs, rfl, rfl⟩) fun u s1 ⟨v, H1, I1, r1, q1⟩ => ?_)
  obtain ⟨ev, eH⟩ := q1
  subst ev
  rw [eH] at I1
  obtain rfl : u = Value.ref f := r1
  have kpU : ∀ b o, s.heap.get? b = some o → H b = none → b ∉ frs X.stack → s1.heap.get? b = some o := fun b o e n m => I1.base.keep b o e n m (fun z => nomatch (show b ∈ ([] : List Addr) from z))
  have of1 := kpU f _ hf hfn hfr
  refine PySem.W.callWith_F0 ⟨_, _, _, _, of1⟩ ?_
  have un : Un (frs X.stack) [] H HZ s.heap s1.heap := I1.base
  obtain ⟨⟨oc, vs, t, hoc, hdc, hvc⟩, _, _⟩ := I1.hok c' _ hc
  have rc : codeAny (model X.prog X.w) (X.A.deeper (envOfC qg sg s.heap.objs.size g cdg)) (.call (.ref f) ⟨[], []⟩) (CR (L2.CX X.prog X.w) (envOfC qg sg s.heap.objs.size g cdg :: X.stack) X.prog X.w HZ s1 Q (fun c d H' => W c d σZ H')) s1 := by
    refine PySem.W.kla_callFunE hr.depth of1 rfl L.co L.gen rfl ⟨c', oc, vs, t, rfl, hoc, hdc, hvc⟩ ?_
    refine hbind s1 kpU _ _ _ _ ?_
    refine wpAny_newFunctionEnv (fun y hy => (L.own y hy).1) hloc (fun h₁ hns hsb => ⟨I1.nolimit.fresh _ hsb, ?_⟩) L.kind
    show codeAny _ _ (.expr body (LamX.lamEnv X scope s1.heap.objs.size f c')) _ _
    have kp : ∀ b o, s1.heap.get? b = some o → h₁.get? b = some o := fun b o e => hsb.extBut b o (Nat.ne_of_lt (Heap.lt_size e)) (Heap.get?_push_of_some _ e)
    have J : L2.Inv (LamX.lamCx X (X.A.deeper (envOfC qg sg s.heap.objs.size g cdg)) (envOfC qg sg s.heap.objs.size g cdg :: X.stack) s1 HZ (fun c d H' => W c d σZ H') scope f c') [] σ HZ { s1 with heap := h₁, toks := s1.toks + bs.length } :=
      lm_start I L I1.env0 hr.hd un hns kp
    refine PySem.W.kla_codeExpr (wpAny_mono ((hbody _ _ s1 HZ _ (lm_ctx (W := W) (hr.deeper _) hG)).run [] _ _ HZ Q J ht) (fun v s' hq => ?_) fun e s' hq => hq)
    obtain ⟨w', H', J', rv, q⟩ := hq
    exact ⟨w', H', J'.os, J'.bare, J'.base, J'.hok, rv, q⟩
  refine wpAny_call (codeAny_mono rc fun r s' hq => ?_)
  cases r with
  | error e => exact tk e s' (XE.of_call I1 (fun cls d H' h => h) hq)
  | ok fl =>
    cases fl with
    | ret u => exact I1.after hq
    | next => exact False.elim hq
    | brk => exact False.elim hq
    | cont => exact False.elim hq
end
end DL
end
section
set_option Elab.async false
set_option linter.all false
set_option maxRecDepth 100000
set_option maxHeartbeats 2000000
namespace DL
open PySem PySem.Spec PyProof.Rows L2
/-! ### x(lambda: ..): a def that hears what its parameter, called, lets out -/
/-- where a def's table of code objects stands -/
structure TabF (K : PySem.W.Frag) (mg : Str → Option Value) (base : Heap) (x : Str) (fd : FuncData) : Prop where
  ex : ∃ c P, PySem.W.tabIn K x = some (c, P) ∧ fd.code = .ref c ∧ LamX.TabB base mg c P
structure TabC (X : Cx) (x : Str) : Prop where
  ex : ∃ c P, PySem.W.tabIn X.K x = some (c, P) ∧ X.env.code = .ref c ∧ LamX.TabB X.base X.mg c P
section
variable {P : Program} {w : World} {K : PySem.W.Frag} {mg : Str → Option Value} {base : Heap}
/-- a def in which lambdas are made -/
theorem fn_defT {x qual : Str} {st : Stmt} {f : Addr} {fd : FuncData} {N ps : List Str} {k : Nat} {b : SF} (F : Fun K x qual st f fd) (TF : TabF K mg base x fd) (S : FnScope N ps (defScope st))
    (hbody : ∀ (cdv : Value) (A : Around) (outer : List PySem.Env) (s : Shared) (H : Hp) (E : XK), Ctx (cxOf (L2.CX P w) P w K mg base N qual (defScope st) f cdv A outer s H E) (fun c d _ H' => E c d H') k → TabC (cxOf (L2.CX P w) P w K mg base N qual (defScope st) f cdv A outer s H E) x →
      DSs (cxOf (L2.CX P w) P w K mg base N qual (defScope st) f cdv A outer s H E) (fun c d _ H' => E c d H') (defBody st) b) {n np k' : Nat} {F' : List D → C D} (hF : F' = dDef n np b := by rfl) (hn : N.length = n := by rfl) (hp : ps.length = np := by rfl) (hk : k + 1 = k' := by rfl) : FnG P w K mg base k' f fd ps F' := by
  subst hn hp hk hF
  obtain ⟨c0, P0, t1, t2, t3⟩ := TF.ex
  obtain ⟨oc, od, kV, doc, pm, an, cdv, ct, osl, rfl, lk, hcd⟩ := F.ex
  have t2 : cdv = .ref c0 := t2
  refine ⟨fun ds M h => ?_, fun A outer s H args us vs Q E hg hr e0 hb r hsp => ?_⟩
  · unfold dDef at h
    by_cases z : ds.length = ps.length
    · exact z
    · rw [if_neg z] at h; exact (h rfl).elim
  obtain ⟨G, sp, M, ds, s0, rr, p⟩ := hsp
  have hld : ds.length = ps.length := by
    by_cases z : ds.length = ps.length
    · exact z
    · unfold dDef at p; rw [if_neg z] at p; exact p.elim
  have hl : vs.length = ps.length := by rw [← rr.len]; exact hld
  have KX : K.In s.heap := e0.mod.kin.keeps fun b o e => (e0.bs b o e).1
  have lim : s.heap.NoLimit := e0.mod.nolimit.keeps fun b o e => (e0.bs b o e).1
  have hkind : ∀ y ∈ ps.zip us, (defScope st).names.lookup y.1 = some .local ∨ ((defScope st).names.lookup y.1 = some .cell ∧ ((cellsFrom (s.heap.objs.size + 1) (defScope st).names []).lookup y.1).isSome = true) := fun ⟨n, v⟩ hy =>
    (S.par n (List.of_mem_zip hy).1).elim .inl fun q => .inr ⟨q, PySem.W.cellsFrom_some _ _ _ (.inl q)⟩
  refine codeAny_call_function hr.depth (KX _ _ lk) rfl S.co S.gen rfl (PySem.W.codeRec_of KX hcd) (hb _ _ _ _ ?_)
  refine wpAny_newFunctionEnv_cells S.kind hkind fun env he s1 x1 => ?_
  subst he
  refine ⟨lim.keeps x1.toInCall.keep, codeAny_func ?_⟩
  have ctx : Ctx (cxOf (L2.CX P w) P w K mg base N qual (defScope st) f cdv A outer s H E) (fun c d _ H' => E c d H') k := ⟨takes_of rfl rfl rfl rfl, hr.deeper _, hg, rfl, passes_of rfl⟩
  have I : L2.Inv (cxOf (L2.CX P w) P w K mg base N qual (defScope st) f cdv A outer s H E) [] (L2.start N vs) H s1 := inv_start S hr.hd e0 hl r x1
  have q : TSD K (fun c d _ H' => E c d H') b { nx := fun _ H' => Q .non H', rt := Q } (L2.start N vs) H := by
    refine ⟨ds.map some ++ List.replicate (N.length - ds.length) none, G, sp, M, s0, slots_start N rr, ?_⟩
    unfold dDef at p
    rw [if_pos hld, ← hld] at p
    cases z : b (ds.map some ++ List.replicate (N.length - ds.length) none) M with
    | ok o M' =>
      rw [z] at p
      cases o with
      | nx ρ => exact fun G' ps' H' st s' σ' _ => p G' ps' H' st s' .non Rep.non_of
      | rt d => exact p
      | ex c fn es ρ => exact fun G' ps' H' st s' σ' C dd hc _ er => p C dd G' ps' H' hc st s' er
      | bk ρ => exact p.elim
      | ct ρ => exact p.elim
    | err c fn es M' => rw [z] at p; exact p.elim
    | bad => rw [z] at p; exact p.elim
  refine wpAny_mono ((hbody cdv A outer s H E ctx ⟨c0, P0, t1, t2, t3⟩).run [] s1 (L2.start N vs) H _ I q) (fun fl s' hs => ?_) fun e s' hs => hs
  have fin : ∀ {σ' : L2.St} {H' : Hp} {v : V} {u : Value}, L2.Inv (cxOf (L2.CX P w) P w K mg base N qual (defScope st) f cdv A outer s H E) [] σ' H' s' → RelV v u → Q v H' → CE outer P w H s Q u s' :=
    fun {σ' H' v u} J rv q => ⟨v, H', J.os, J.bare, J.base, J.hok, rv, q⟩
  cases fl with
  | ret u => obtain ⟨v, σ', H', J, rv, q⟩ := hs; exact fin J rv q
  | next => obtain ⟨σ', H', J, q⟩ := hs; exact fin (v := V.non) (u := Value.none) J rfl q
  | brk => obtain ⟨_, _, _, q⟩ := hs; exact False.elim q
  | cont => obtain ⟨_, _, _, q⟩ := hs; exact False.elim q
end
/-! the store behind the making of a lambda -/
section
variable {K : PySem.W.Frag} {G : Hp} {ps : List Addr} {M : Sto} {H H1 : Hp}
theorem sto_lam {x q : Str} {n : Nat} {c P c' : Addr} (s : Sto0 K G ps M H) (hm : M[n]? = some (.tbl x q)) (ht : PySem.W.tabIn K x = some (c, P)) (st : LmStep G H H1 P c' q) : ∃ G1, Sto0 K G1 ps M H1 ∧ Stp G ps H G1 ps H1 ∧ G1 c' = some (LamX.CodeO c' q) := by
  obtain ⟨c2, P2, e1, e2, gP, qs0, hP0, _, _⟩ := s.mem n _ hm
  cases e1.symm.trans ht
  rcases st.alt with ⟨rfl, g⟩ | ⟨nC, qs, more, hP, rfl, tr, am⟩
  · exact ⟨G, s, Stp.refl, g⟩
  · have nPc : P ≠ c' := ne_of_none hP nC
    have gn : G c' = none := s.gnone nC
    have nG : ∀ a o, G a = some o → a ≠ P := fun a o e z => by rw [z, gP] at e; cases e
    refine ⟨upd G c' (LamX.CodeO c' q), ⟨fun a u e => ?_, fun m mo em => ?_, s.nd, s.len, fun m a e => ?_⟩, ⟨ext_new gn, fun a u e m => ?_, fun _ h => .inl h, fun a u e => ?_⟩, upd_same⟩
    · by_cases z : a = c'
      · subst z; rw [upd_same] at e ⊢; exact e
      · rw [upd_ne z] at e ⊢
        rw [upd_ne (nG a u e)]
        exact s.sub a u e
    · by_cases hmn : m = n
      · subst hmn
        cases em.symm.trans hm
        refine ⟨_, _, ht, e2, by rw [upd_ne nPc]; exact gP, qs ++ more, by rw [upd_ne nPc, upd_same], tr, fun pos cv hc => ?_⟩
        rcases am pos cv hc with ⟨c3, h1, h2⟩ | h1
        · exact ⟨c3, h1, by rw [upd_ne (ne_of_none h2 gn)]; exact h2⟩
        · exact ⟨c', h1, upd_same⟩
      · refine (s.mem m mo em).mono (ext_new gn) (fun a e g => by rw [upd_ne (s.pne nC e)]; exact g) (fun a u e h => ?_)
        have na : a ≠ P := fun z => by
          subst z
          exact hmn (nd_ix s.nd e e2)
        rw [upd_ne (s.pne nC e), upd_ne na]
        exact h
    · by_cases z : a = P
      · subst z; rw [upd_ne nPc, upd_same]; simp
      · rw [upd_ne (s.pne nC e), upd_ne z]; exact s.old m a e
    · have na : a ≠ P := fun z => m (by rw [z]; exact List.mem_of_getElem? e2)
      rw [upd_ne (ne_of_none e nC), upd_ne na]
      exact e
    · by_cases z : a = c'
      · subst z; exact .inr (.inl nC)
      · rw [upd_ne z] at e; exact .inl e
end
/-! the def that hears -/
def hRho (n i : Nat) : Env := (List.replicate n none).set i (some .non)
def dHd (n i : Nat) (ex : Str → Str → Option Bool) (l : List DCl) (rest : SF) (act : C D) : C D := fun M => match sSeq (sTry ex (sEx fun _ => act) l) rest (hRho n i) M with
  | .ok o M' => outC o M'
  | _ => .bad
theorem seq_pst {K : PySem.W.Frag} {W : WX} {t u : SF} {Dn : Ends} {G : Hp} {ps : List Addr} {H : Hp} {ρ : Env} {M : Sto} (p : PSt K (PO' K W Dn) G ps H (sSeq t u ρ M)) : PSt K (PO' K W { Dn with nx := TSD K W u Dn }) G ps H (t ρ M) := by
  unfold sSeq at p
  split at p
  · rename_i ρ' M' q
    rw [q]
    exact fun G' ps' H' sp s' σ' sl' => ⟨ρ', G', ps', M', s', sl', Post.ext sp p⟩
  · rename_i r hr
    cases q : t ρ M with
    | ok o M' =>
      rw [q] at p
      cases o with
      | nx ρ' => exact (hr ρ' M' q).elim
      | rt d => exact p
      | bk ρ' => exact p
      | ct ρ' => exact p
      | ex c fn ds ρ' => exact p
    | err c fn ds M' => rw [q] at p; exact p
    | bad => rw [q] at p; exact p
/-- what a's call does, in the def that got a lambda at f -/
def AskOk (Z : Cx) (a : Str) (f c' : Addr) (q : Str) (σ : L2.St) (tb : WX → TE) : Prop :=
  ∀ (W : WX) (pn : List (Addr × Obj)) (xe : Value → Shared → Prop) (p1 p2 : Pos), Takes (Z.tr pn xe) W →
    PE (Z.tr pn xe) (.Call (.Name a p1) [] [] p2) (fun σZ HZ Q => σZ[0]? = some (some (.ref f)) ∧ HZ c' = some (LamX.CodeO c' q) ∧ tb (fun c d _ H' => W c d σZ H') σ HZ Q)
structure HdAt (P : Program) (w : World) (K : PySem.W.Frag) (mg : Str → Option Value) (base : Heap) (k : Nat) (x : Str) (N : List Str) (sg : Scope) (a : Str) (F : C D → C D) : Prop where
  ex : ∃ (g : Addr) (fd : FuncData) (cdv : Value), mg x = some (.ref g) ∧ PySem.W.keepIn K (.ref g) = true ∧ (∀ (s : Shared) (u : Value), K.In s.heap → BindsTo s fd ⟨[u], []⟩ [(a, u)]) ∧ N[0]? = some a ∧ Vis sg a ∧
    ∀ (A : Around) (outer : List PySem.Env) (s : Shared) (H : Hp) (E : XK) (Q : VK) (f c' : Addr) (q : Str) (fE : Env → C D) (σ : L2.St) (ρ : Env) (G : Hp) (ps : List Addr) (M : Sto), A.guards = some [] → Room k A → Env0 P w K mg base A outer s H →
      AskOk (cxOf (L2.CX P w) P w K mg base N x sg g cdv A outer s H E) a f c' q σ (fun W => TD K W fE) → Sto0 K G ps M H → Slots K G ps ρ σ → G c' = some (LamX.CodeO c' q) → Post K (fun c d _ H' => E c d H') [] (PD K Q) G ps H (F (fE ρ) M) →
      codeAny (model P w) A (.call (.ref g) ⟨[.ref f], []⟩) (CR (L2.CX P w) outer P w H s Q E) s
theorem slots_hRho {K : PySem.W.Frag} {G : Hp} {ps : List Addr} {n i : Nat} {σ : L2.St} (hi : i < σ.length) : Slots K G ps (hRho n i) (σ.set i (some .non)) := by
  unfold hRho
  refine Slots.set (fun j d e => ?_) Rep.non_of hi
  rw [List.getElem?_replicate] at e
  split at e <;> cases e
section
variable {P : Program} {w : World} {K : PySem.W.Frag} {mg : Str → Option Value} {base : Heap}
theorem hd_def {x : Str} {st : Stmt} {g : Addr} {fd : FuncData} {N : List Str} {a cn : Str} {k i : Nat} {ex : Str → Str → Option Bool} {l : List DCl} {rest : SF} {h₀ : ExceptHandler} {hds : List ExceptHandler} {restS : List Stmt} {pc pa p1 p2 pe pt : Pos} {j : Nat}
    (hm : mg x = some (.ref g)) (F : Fun K x x st g fd) (hb : Binds K fd [a] []) (S : FnScope N [a] (defScope st)) (T : ExT K ex)
    (hB : defBody st = .Assign [.Name cn pc] (.Constant .none j p1) pa :: .Try [.Expr (.Call (.Name a p1') [] [] p2) pe] (h₀ :: hds) [] [] pt :: restS)
    (hi : N[i]? = some cn) (hi0 : i ≠ 0) (hN0 : N[0]? = some a) (hva : Vis (defScope st) a) (hcl : (defScope st).names.lookup cn = some .local)
    (hh : ∀ (cdv : Value) (A : Around) (outer : List PySem.Env) (s : Shared) (H : Hp) (E : XK), ClD (cxOf (L2.CX P w) P w K mg base N x (defScope st) g cdv A outer s H E) (h₀ :: hds) l)
    (hrest : ∀ (cdv : Value) (A : Around) (outer : List PySem.Env) (s : Shared) (H : Hp) (E : XK), Ctx (cxOf (L2.CX P w) P w K mg base N x (defScope st) g cdv A outer s H E) (fun c d _ H' => E c d H') k →
      DSs (cxOf (L2.CX P w) P w K mg base N x (defScope st) g cdv A outer s H E) (fun c d _ H' => E c d H') restS rest) {n : Nat} (hn : N.length = n := by rfl) :
    HdAt P w K mg base (k + 1) x N (defScope st) a (dHd n i ex l rest) := by
  subst hn
  obtain ⟨oc, od, kV, doc, pm, an, cdv, ct, osl, efd, lk, hcd⟩ := F.ex
  refine ⟨g, fd, cdv, hm, F.kp, fun s u KX => ?_, hN0, hva, fun A outer s H E Q f c' q fE σ ρ G ps M hG hr e0 ask s0 sl gc p => ?_⟩
  · have := hb s [u] KX rfl
    exact this
  subst efd
  have KX : K.In s.heap := e0.mod.kin.keeps fun b o e => (e0.bs b o e).1
  have lim : s.heap.NoLimit := e0.mod.nolimit.keeps fun b o e => (e0.bs b o e).1
  have hkind : ∀ y ∈ [a].zip [Value.ref f], (defScope st).names.lookup y.1 = some .local ∨ ((defScope st).names.lookup y.1 = some .cell ∧ ((cellsFrom (s.heap.objs.size + 1) (defScope st).names []).lookup y.1).isSome = true) := fun ⟨n, v⟩ hy =>
    (S.par n (List.of_mem_zip hy).1).elim .inl fun q => .inr ⟨q, PySem.W.cellsFrom_some _ _ _ (.inl q)⟩
  refine codeAny_call_function hr.depth (KX _ _ lk) rfl S.co S.gen rfl (PySem.W.codeRec_of KX hcd) (hb s [.ref f] KX rfl _ _ _ _ ?_)
  refine wpAny_newFunctionEnv_cells S.kind hkind fun env he s1 x1 => ?_
  subst he
  refine ⟨lim.keeps x1.toInCall.keep, codeAny_func ?_⟩
  have ctx : Ctx (cxOf (L2.CX P w) P w K mg base N x (defScope st) g cdv A outer s H E) (fun c d _ H' => E c d H') k := ⟨takes_of rfl rfl rfl rfl, hr.deeper _, hG, rfl, passes_of rfl⟩
  have I : L2.Inv (cxOf (L2.CX P w) P w K mg base N x (defScope st) g cdv A outer s H E) [] (L2.start N [.ref f]) H s1 := inv_start S hr.hd e0 rfl (.cons rfl .nil) x1
  have hlenσ : (L2.start N [V.ref f]).length = N.length := I.len
  have hiL : i < N.length := (List.getElem?_eq_some_iff.mp hi).1
  let Dn : Ends := { nx := fun _ H' => Q .non H', rt := Q }
  let Z := cxOf (L2.CX P w) P w K mg base N x (defScope st) g cdv A outer s H E
  have pTry := ps_tryK (X := Z) (body := [.Expr (.Call (.Name a p1') [] [] p2) pe]) (pos := pt) (tb := fun W' D σZ HZ => σZ[0]? = some (some (V.ref f)) ∧ HZ c' = some (LamX.CodeO c' q) ∧ TD K (fun c d _ H' => W' c d σZ H') fE σ HZ (fun _ H' => D.nx σZ H')) rfl rfl rfl S.nd ctx.tk
        (fun W' pn xe tk po => pss_one (ps_imp (ps_expr (ask W' pn xe _ _ tk)) fun D σZ HZ h => h)) (hh cdv A outer s H E).ok
  have pBody := pss_cons (ps_set (X := Z) (pos := pa) (pos' := pc) S.nd hi (.inl hcl) (pe_non (j := j) (pos := p1)) rfl (.inr hcl)) (pss_cons pTry (hrest cdv A outer s H E ctx))
  rw [← hB] at pBody
  have hst : PSt K (PO' K (fun c d _ H' => E c d H') Dn) G ps H (sSeq (sTry ex (sEx fun _ => fE ρ) l) rest (hRho N.length i) M) := by
    unfold dHd at p
    cases z : sSeq (sTry ex (sEx fun _ => fE ρ) l) rest (hRho N.length i) M with
    | ok o M' =>
      rw [z] at p
      cases o with
      | nx ρ => exact fun G' ps' H' st s' σ' _ => p G' ps' H' st s' .non Rep.non_of
      | rt d => exact p
      | ex c fn es ρ => exact fun G' ps' H' st s' σ' C dd hc _ er => p C dd G' ps' H' hc st s' er
      | bk ρ => exact p.elim
      | ct ρ => exact p.elim
    | err c fn es M' => rw [z] at p; exact p.elim
    | bad => rw [z] at p; exact p.elim
  have h2 := seq_pst hst
  have hq : _ := pBody.run [] s1 (L2.start N [.ref f]) H Dn I ⟨?_, ?_, ?_⟩
  · refine wpAny_mono hq (fun fl s' hs => ?_) fun e s' hs => hs
    have fin : ∀ {σ' : L2.St} {H' : Hp} {v : V} {u : Value}, L2.Inv Z [] σ' H' s' → RelV v u → Q v H' → CE outer P w H s Q u s' :=
      fun {σ' H' v u} J rv q => ⟨v, H', J.os, J.bare, J.base, J.hok, rv, q⟩
    cases fl with
    | ret u => obtain ⟨v, σ', H', J, rv, q⟩ := hs; exact fin J rv q
    | next => obtain ⟨σ', H', J, q⟩ := hs; exact fin (v := V.non) (u := Value.none) J rfl q
    | brk => obtain ⟨_, _, _, q⟩ := hs; exact False.elim q
    | cont => obtain ⟨_, _, _, q⟩ := hs; exact False.elim q
  · rw [List.getElem?_set_ne hi0]
    have : N.length ≠ 0 := by omega
    show (L2.start N [V.ref f])[0]? = _
    unfold L2.start
    rfl
  · exact s0.sub _ _ gc
  · refine ⟨ρ, G, ps, M, s0, sl, ?_⟩
    unfold sTry sEx lift at h2
    dsimp only at h2
    have slH : ∀ {G' : Hp} {ps' : List Addr}, Slots K G' ps' (hRho N.length i) ((L2.start N [V.ref f]).set i (some V.non)) := slots_hRho (by rw [hlenσ]; exact hiL)
    cases z : fE ρ M with
    | ok d M' =>
      rw [z] at h2
      exact fun G' ps' H' st s' v r => h2 G' ps' H' st s' _ slH
    | err x fn ds M' =>
      rw [z] at h2
      intro C dd G' ps' H' hC st s' er
      exact ⟨C, dd, rfl, rfl, hnd_wish T hC s' slH er (hh cdv A outer s H E).cls (Post.ext st h2)⟩
    | bad => rw [z] at h2; exact h2
end
/-! the call -/
def dLm (i : Nat) (x q : Str) (F : C D → C D) (fE : Env → C D) : Env → C D := fun ρ M => match M[i]? with
  | some (.tbl x' q') => if x' = x ∧ q' = q then F (fE ρ) M else .bad
  | _ => .bad
section
variable {X : Cx} {W : WX}
theorem de_lam {k : Nat} {x y a q : Str} {N : List Str} {sg : Scope} {F : C D → C D} {fE : Env → C D} {params : Arguments} {body : Expr} {scope : Scope} {p lpos pos : Pos} (i : Nat) (hd : HdAt X.prog X.w X.K X.mg X.base (k + 1) x N sg a F) (tc : TabC X y) (hr : Room (k + 2) X.A) (hG : X.A.guards = some []) (tk : Takes X W)
    (L : LmS X.N X.env.scope scope) (mk : LmK X params scope body) (hbody : ∀ (A : Around) (outer : List PySem.Env) (s : Shared) (H : Hp) (E : XK) (f c' : Addr), Ctx (LamX.lamCx X A outer s H E scope f c') (fun c d _ H' => E c d H') k → DE (LamX.lamCx X A outer s H E scope f c') (fun c d _ H' => E c d H') body fE)
    (hq : X.env.qual ++ "<lambda>" = q) (hg : Gl X x) (hdb : (x == ("__debug__" : Str)) = false := by decide) (hda : (a == ("__debug__" : Str)) = false := by decide) (hcd : (a == ("__classdict__" : Str)) = false := by decide) :
    DE X W (.Call (.Name x p) [.Lambda params body scope lpos] [] pos) (dLm i y q F fE) := by
  subst hq
  obtain ⟨g, fd, cdv, hm, hkp, hb, hN0, hva, go⟩ := hd.ex
  obtain ⟨c, Pt, ht, hcode, TB⟩ := tc.ex
  refine ⟨fun pins s σ H Q I h => ?_⟩
  obtain ⟨ρ, G, ps, M, s0, sl, pz⟩ := h
  unfold dLm at pz
  split at pz
  · rename_i x' q' hM
    by_cases hxq : x' = y ∧ q' = X.env.qual ++ "<lambda>"
    · rw [if_pos hxq] at pz
      obtain ⟨rfl, rfl⟩ := hxq
      obtain ⟨c2, P2, e1, e2, gP, qs, hP, tr, am⟩ := s0.mem i _ hM
      cases e1.symm.trans ht
      refine wpAny_Call_Name_kw (ld_glob I hg hm ?_ hdb)
      refine PySem.W.callWith_K (h₀ := X.base) I.ok.mod.kin hkp ?_ (by rfl) (by rfl)
      show wpAny _ _ (spliced ((false, eval (.Lambda params body scope lpos) X.env) :: backTo pos (starEach [] X.env))) _ _ s
      refine Calls.spliced_cons (mk pins σ G H s c Pt lpos _ _ I TB hcode ⟨qs, hP, tr, am⟩ s0.sub (L.has I.ok) fun f c' dV doc pm ctv H1 s' bs I1 st ho hn hf hl hB => ?_)
      refine Calls.spliced_nil ⟨I1.kIn, ?_⟩
      obtain ⟨G1, s1, sp, gc⟩ := sto_lam s0 hM ht st
      have pz1 := Post.ext sp pz
      have pz2 : Post X.K (fun c d _ H' => W c d σ H') [] (PD X.K Q) G1 ps H1 (F (fE ρ) M) := by
        cases z : F (fE ρ) M with
        | ok d M' => rw [z] at pz1; exact pz1
        | err x fn ds M' => rw [z] at pz1; exact pz1
        | bad => rw [z] at pz1; exact pz1
      have rc := go X.A X.stack s' H1 (fun c d H' => W c d σ H') Q f c' (X.env.qual ++ "<lambda>") fE σ ρ G1 ps M hG (hr.mono (by omega)) I1.env0
        (fun W' pn xe p1 p2 tk' => pe_act2 (k := k) (tb := fun W => TD X.K W fE) rfl I1 L ho hn hf hl hB tk' (hr.deeper _) hG (fun A outer s H E ctx => hbody A outer s H E f c' ctx) hN0 hva hda hcd) s1 (sl.mono sp.ext) gc pz2
      refine wpAny_call (codeAny_mono rc fun r s2 hq => ?_)
      cases r with
      | error e => exact tk e s2 (XE.of_call I1 (fun cls d H' h => h) hq)
      | ok fl =>
        cases fl with
        | ret u => exact I1.after hq
        | next => exact False.elim hq
        | brk => exact False.elim hq
        | cont => exact False.elim hq
    · rw [if_neg hxq] at pz; exact pz.elim
  · exact pz.elim
end
end DL
end
section
set_option Elab.async false
set_option linter.all false
set_option maxRecDepth 100000
set_option maxHeartbeats 2000000
namespace DL
open PySem PySem.Spec PyProof.Rows L2
/-! ### the end of a law in which lambdas are made: tables of code objects -/
/-- the store at the law's beginning -/
def tabM (xs : List (Str × Str)) : Sto := xs.map fun x => .tbl x.1 x.2
structure TabK (K : PySem.W.Frag) (xs : List (Str × Str)) (cs : List (Addr × Addr)) : Prop where
  len : cs.length = xs.length
  tab : ∀ (n : Nat) x p, xs[n]? = some x → cs[n]? = some p → PySem.W.tabIn K x.1 = some p
  no : ∀ p ∈ cs, K.lookup p.2 = none
  nd : (cs.map (·.2)).Nodup
/-- the heap as it stands: the script perhaps, the tables -/
structure BeginT (P : Program) (w : World) (s : Shared) (H : Hp) (a : Addr) (cs : List (Addr × Addr)) : Prop where
  ok : HOk P w H s.heap
  only : ∀ b o, H b = some o → (b = a ∧ ∃ ob xs, o = .frz ob (.lst xs)) ∨ (b ∈ cs.map (·.2) ∧ o = .tbl #[])
  tab : ∀ p ∈ cs, H p.2 = some (.tbl #[])
section
variable {P : Program} {w : World} {K : PySem.W.Frag} {mg mb : Str → Option Value} {k : Nat} {fa a : Addr} {fd : FuncData} {x : Str} {F : List D → C D} {s : Shared} {vs : List Value} {ns : List Int} {xs : List (Str × Str)} {cs : List (Addr × Addr)}
theorem run_lawT (KX : K.In s.heap) (hns : s.heap.Ns mainGlobals mg) (hmb : s.heap.Ns builtinsNs mb) (hbb : ∀ y : Str, y ≠ "__name__" → mb y = bootBuiltins y) (hlim : s.heap.NoLimit) (hgen : s.gens = #[])
    (obj : s.heap.get? a = some { cls := .type "list", data := .seq vs.toArray }) (hr : Room k callerA) (TK : TabK K xs cs) (hT : ∀ p ∈ cs, PySem.W.CodeHd s.heap p.1 p.2 ∧ s.heap.get? p.2 = some (PySem.W.tabObj #[]))
    (hbm : ∃ (bm : Addr) (ob : Obj), mg "__builtins__" = some (.ref bm) ∧ bm ≠ builtinsNs ∧ s.heap.get? bm = some ob ∧ ob.cls = .type "module" ∧ ob.dict = some builtinsNs ∧ ob.data = .plain)
    (hF : ∀ base : Heap, K.In base → base.Ns mainGlobals mg → (∀ p ∈ cs, LamX.TabB base mg p.1 p.2) → FnG P w K mg base k fa fd [x] F)
    (hbind : ∀ (s : Shared) (u : Value), BindsTo s fd ⟨[u], []⟩ [(x, u)]) (hlaw : ∃ M', F [.fz (ns.map D.int)] (tabM xs) = .ok (.bl true) M') {H : Hp} (h : BeginT P w s H a cs) (nK : H a ≠ none → K.lookup a = none) (hS : SqL K H a (ns.map V.int)) :
    codeAny (model P w) callerA (.call (.ref fa) ⟨[.ref a], []⟩) (fun q s' => q = .ok (.ret (.bool true)) ∧ OldK s.heap s'.heap ∧ s'.os = s.os ∧ AllBare s'.gens) s := by
  have tabO : ∀ b, b ∈ cs.map (·.2) → s.heap.get? b = some (PySem.W.tabObj #[]) := fun b hb => by
    obtain ⟨p, hp, e⟩ := List.mem_map.mp hb
    rw [← e]; exact (hT p hp).2
  have hid : ∀ {b : Addr} {o : Obj}, s.heap.get? b = some o → (∀ vs n, o.data ≠ .seq vs n) → o.data ≠ .fields #[] → (hidT s.heap H).get? b = some o := fun {b o} e n1 n2 => by
    refine hidT_get e ?_
    cases q : H b with
    | none => rfl
    | some u =>
      rcases h.only b u q with ⟨hb, _⟩ | ⟨hb, _⟩
      · rw [hb, obj] at e; cases e; exact (n1 _ _ rfl).elim
      · rw [tabO b hb] at e; cases e; exact (n2 rfl).elim
  have nsK : ∀ {b : Addr} {m : Str → Option Value}, s.heap.Ns b m → (hidT s.heap H).Ns b m := fun {b m} hn => by
    obtain ⟨o, es, ep, e, d, r⟩ := hn
    exact ⟨o, es, ep, hid e (fun vs n z => by rw [d] at z; cases z) (fun z => by rw [d] at z; cases z), d, r⟩
  have inb : K.In (hidT s.heap H) := fun b o e => by
    refine hidT_get (KX b o e) ?_
    cases q : H b with
    | none => rfl
    | some u =>
      rcases h.only b u q with ⟨hb, _⟩ | ⟨hb, _⟩
      · subst hb
        rw [nK (by rw [q]; simp)] at e
        cases e
      · obtain ⟨p, hp, ep⟩ := List.mem_map.mp hb
        rw [← ep, TK.no p hp] at e
        cases e
  have gl : (hidT s.heap H).Ns mainGlobals mg := nsK hns
  have md : Mod K mg (hidT s.heap H) := ⟨inb, gl, ⟨mb, nsK hmb, hbb⟩, hlim.elim fun m q => ⟨m, nsK q.1, q.2⟩⟩
  have notG : ∀ {b : Addr} {o : Obj}, s.heap.get? b = some o → (∀ es ep, o.data ≠ .dict es ep) → mainGlobals ≠ b := fun {b o} e n z => by
    obtain ⟨o', es, ep, e', hd, _⟩ := hns
    rw [z, e] at e'
    cases e'
    exact n _ _ hd
  have TB : ∀ p ∈ cs, LamX.TabB (hidT s.heap H) mg p.1 p.2 := fun p hp => by
    obtain ⟨hc, ht⟩ := hT p hp
    refine ⟨?_, ?_, notG ht fun es ep z => by cases z⟩
    · obtain ⟨o, us, file, tf, flags, tg, inF, text, tt, e1, r1, r2, r3, r⟩ := hc
      refine ⟨o, us, file, tf, flags, tg, inF, text, tt, hid e1 (fun vs n z => ?_) (fun z => ?_), r1, r2, r3, r⟩
      · rw [r2] at z; cases z
      · rw [r2] at z; cases z; simp at r3
    · obtain ⟨bm, ob, b1, b2, b3, b4, b5, b6⟩ := hbm
      refine ⟨bm, ob, b1, b2, fun q => notG b3 (fun es ep z => by rw [b6] at z; cases z) q.symm, fun q => ?_, hid b3 (fun vs n z => by rw [b6] at z; cases z) (fun z => by rw [b6] at z; cases z), b4, b5, b6⟩
      rw [q, ht] at b3
      cases b3
      cases b6
  have e0 : Env0 P w K mg (hidT s.heap H) callerA [] s H :=
    { frames := rfl, mod := md, bs := fun b o e => of_hidT e, bsz := Nat.le_of_eq (hidT_size _ _), funs := trivial, frf := fun b hb => (List.not_mem_nil hb).elim, hok := h.ok, bare := .of_eq hgen }
  have aT : a ∉ cs.map (·.2) := fun z => by
    have q := tabO a z
    rw [obj] at q
    cases q
  have sp : spD K F [.ref a] H (fun v _ => v = .bl true) (fun _ _ _ => False) := by
    obtain ⟨M', e⟩ := hlaw
    let G : Hp := fun b => if b ∈ cs.map (·.2) then none else H b
    have Gat : ∀ b, b ∉ cs.map (·.2) → G b = H b := fun b hb => if_neg hb
    have s0 : Sto0 K G (cs.map (·.2)) (tabM xs) H := by
      refine ⟨fun b o z => ?_, fun n mo z => ?_, TK.nd, ?_, fun n b z => ?_⟩
      · by_cases hb : b ∈ cs.map (·.2)
        · rw [show G b = none from if_pos hb] at z; cases z
        · rw [Gat b hb] at z; exact z
      · unfold tabM at z
        rw [List.getElem?_map] at z
        obtain ⟨y, hy, e2⟩ := Option.map_eq_some_iff.mp z
        subst e2
        have hn : n < cs.length := by rw [TK.len]; exact (List.getElem?_eq_some_iff.mp hy).1
        have hp : cs[n]? = some cs[n] := List.getElem?_eq_getElem hn
        have hm : cs[n] ∈ cs := List.getElem_mem hn
        exact ⟨cs[n].1, cs[n].2, TK.tab n y _ hy hp, by rw [List.getElem?_map, hp]; rfl, if_pos (List.mem_map_of_mem hm), #[], h.tab _ hm, True.intro, fun pos cv hc => by
          have z : codeAmong pos [] = some cv := hc
          simp [codeAmong] at z⟩
      · unfold tabM; rw [List.length_map, List.length_map, TK.len]
      · obtain ⟨p, hp, ep⟩ := List.mem_map.mp (List.mem_of_getElem? z)
        rw [← ep, h.tab p hp]
        simp
    have hS' : SqL K G a (ns.map V.int) := by
      rcases hS with (z | ⟨o, z⟩) | z
      · exact .inl (.inl (by rw [Gat a aT]; exact z))
      · exact .inl (.inr ⟨o, by rw [Gat a aT]; exact z⟩)
      · exact .inr z
    refine ⟨G, cs.map (·.2), tabM xs, [.fz (ns.map D.int)], s0, Reps.cons (by unfold Rep; exact ⟨a, _, rfl, hS', Reps.ints ns⟩) Reps.nil, ?_⟩
    rw [e]
    intro G' ps' H' _ _ v r
    unfold Rep at r
    exact r
  refine codeAny_mono ((hF _ inb gl TB).go callerA [] s H ⟨[.ref a], []⟩ [.ref a] [.ref a] _ _ rfl hr e0 (hbind s (.ref a)) (.cons rfl .nil) sp) fun q s' z => ?_
  cases q with
  | error er => obtain ⟨_, _, _, _, _, _, _, _, _, _, _, _, bad⟩ := z; exact bad.elim
  | ok fl =>
    cases fl with
    | next => exact False.elim z
    | brk => exact False.elim z
    | cont => exact False.elim z
    | ret u =>
      obtain ⟨v, H', os, bare, un, ok', rv, ev⟩ := z
      have ev : v = .bl true := ev
      subst ev
      have eu : u = Value.bool true := rv
      subst eu
      have key : ∀ b o, b ∉ cs.map (·.2) → s.heap.get? b = some o → s'.heap.get? b = some o := fun b o nb e => by
        cases q : H b with
        | none => exact un.keep b o e q (fun z => (List.not_mem_nil z).elim) (fun z => (List.not_mem_nil z).elim)
        | some u =>
          rcases h.only b u q with ⟨_, ob, ys, eo⟩ | ⟨hb, _⟩
          · subst eo
            have e1 := (h.ok b _ q).1
            have e2 := (ok' b _ (un.frzs b ob _ q)).1
            rw [e] at e1
            cases e1
            exact e2
          · exact (nb hb).elim
      have grown : ∀ p ∈ cs, ∃ more : Array Value, s'.heap.get? p.2 = some { cls := .none, data := .fields more } := fun p hp => by
        obtain ⟨more, z⟩ := un.tbls p.2 #[] (h.tab p hp)
        exact ⟨_, ok' p.2 _ z⟩
      refine ⟨rfl, ⟨fun b o e => ?_, fun b o e => ?_⟩, os, bare⟩
      · by_cases hb : b ∈ cs.map (·.2)
        · obtain ⟨p, hp, ep⟩ := List.mem_map.mp hb
          obtain ⟨more, hm⟩ := grown p hp
          obtain ⟨hc, ht⟩ := hT p hp
          rw [← ep] at e ⊢
          rw [ht] at e
          cases e
          exact .inr (.inl ⟨(hc.tab ht).isCodeTable, rfl, #[], more, rfl, by rw [Array.empty_append]; exact hm⟩)
        · exact .inl (key b o hb e)
      · by_cases hb : b ∈ cs.map (·.2)
        · obtain ⟨p, hp, ep⟩ := List.mem_map.mp hb
          obtain ⟨more, hm⟩ := grown p hp
          rw [← ep]
          exact ⟨_, hm⟩
        · exact ⟨o, key b o hb e⟩
theorem law_DT (KX : K.In s.heap) (hns : s.heap.Ns mainGlobals mg) (hmb : s.heap.Ns builtinsNs mb) (hbb : ∀ y : Str, y ≠ "__name__" → mb y = bootBuiltins y) (hlim : s.heap.NoLimit) (hgen : s.gens = #[])
    (obj : s.heap.get? a = some { cls := .type "list", data := .seq vs.toArray }) (hi : IntsAre vs ns) (hl : ns.length ≤ sizeLine) (hr : Room k callerA) (TK : TabK K xs cs) (hT : ∀ p ∈ cs, PySem.W.CodeHd s.heap p.1 p.2 ∧ s.heap.get? p.2 = some (PySem.W.tabObj #[]))
    (hbm : ∃ (bm : Addr) (ob : Obj), mg "__builtins__" = some (.ref bm) ∧ bm ≠ builtinsNs ∧ s.heap.get? bm = some ob ∧ ob.cls = .type "module" ∧ ob.dict = some builtinsNs ∧ ob.data = .plain)
    (hF : ∀ base : Heap, K.In base → base.Ns mainGlobals mg → (∀ p ∈ cs, LamX.TabB base mg p.1 p.2) → FnG P w K mg base k fa fd [x] F)
    (hbind : ∀ (s : Shared) (u : Value), BindsTo s fd ⟨[u], []⟩ [(x, u)]) (hlaw : ∃ M', F [.fz (ns.map D.int)] (tabM xs) = .ok (.bl true) M') :
    codeAny (model P w) callerA (.call (.ref fa) ⟨[.ref a], []⟩) (fun q s' => q = .ok (.ret (.bool true)) ∧ OldK s.heap s'.heap ∧ s'.os = s.os ∧ AllBare s'.gens) s := by
  have rv := vals_ints hi
  have aT : a ∉ cs.map (·.2) := fun z => by
    obtain ⟨p, hp, ep⟩ := List.mem_map.mp z
    have q := (hT p hp).2
    rw [ep, obj] at q
    cases q
  have tabO : ∀ b, b ∈ cs.map (·.2) → s.heap.get? b = some { cls := .none, data := .fields #[] } := fun b hb => by
    obtain ⟨p, hp, e⟩ := List.mem_map.mp hb
    rw [← e]; exact (hT p hp).2
  let H0 : Hp := fun b => if b ∈ cs.map (·.2) then some (.tbl #[]) else none
  have H0t : ∀ {b}, b ∈ cs.map (·.2) → H0 b = some (.tbl #[]) := fun hb => if_pos hb
  have H0n : ∀ {b}, b ∉ cs.map (·.2) → H0 b = none := fun hb => if_neg hb
  cases hk : K.lookup a with
  | some o =>
    have e := KX a o hk
    rw [obj] at e
    cases e
    refine run_lawT (H := H0) KX hns hmb hbb hlim hgen obj hr TK hT hbm hF hbind hlaw ⟨fun b u z => ?_, fun b u z => ?_, fun p hp => H0t (List.mem_map_of_mem hp)⟩ (fun z => (z (H0n aT)).elim) (.inr ⟨_, vs.toArray, _, hk, rfl, rfl, rfl, ?_, by simpa using rv⟩)
    · by_cases hb : b ∈ cs.map (·.2)
      · rw [H0t hb] at z; cases z; exact tabO b hb
      · rw [H0n hb] at z; cases z
    · by_cases hb : b ∈ cs.map (·.2)
      · rw [H0t hb] at z; cases z; exact .inr ⟨hb, rfl⟩
      · rw [H0n hb] at z; cases z
    · rw [List.size_toArray, hi.length]
      exact hl
  | none =>
    let H : Hp := upd H0 a (.frz { cls := .type "list", data := .seq vs.toArray } (.lst (ns.map V.int)))
    have Hn : ∀ {b}, b ≠ a → H b = H0 b := fun hb => upd_ne hb
    refine run_lawT (H := H) KX hns hmb hbb hlim hgen obj hr TK hT hbm hF hbind hlaw ⟨fun b u z => ?_, fun b u z => ?_, fun p hp => ?_⟩ (fun _ => hk) (.inl (.inr ⟨_, upd_same⟩))
    · by_cases hb : b = a
      · subst hb
        have q := upd_same.symm.trans z
        cases q
        exact ⟨obj, by rw [List.length_map]; exact hl, vs, _, rv, obj⟩
      · rw [Hn hb] at z
        by_cases hb : b ∈ cs.map (·.2)
        · rw [H0t hb] at z; cases z; exact tabO b hb
        · rw [H0n hb] at z; cases z
    · by_cases hb : b = a
      · subst hb
        have q := upd_same.symm.trans z
        cases q
        exact .inl ⟨rfl, _, _, rfl⟩
      · rw [Hn hb] at z
        by_cases hb : b ∈ cs.map (·.2)
        · rw [H0t hb] at z; cases z; exact .inr ⟨hb, rfl⟩
        · rw [H0n hb] at z; cases z
    · rw [Hn fun z => aT (by rw [← z]; exact List.mem_map_of_mem hp)]
      exact H0t (List.mem_map_of_mem hp)
end
/-- the goal that k_head leaves, from the law over data, with tables -/
theorem walk_DT {l : PySem.W.OpenLaw} {n k : Nat} {q : Program} {loose : List Str} {XP : (Str → Option Value) → Heap → Prop} {YP : World → Heap → Prop} {d : DefRec} {K : Params → PySem.W.Frag} {x : Str} {F : World → List D → C D} (xs : List (Str × Str)) (cs : List (Addr × Addr))
    (hn : l.most = some n) (hn2 : n ≤ sizeLine) (hdf : d.params.defaults = []) (hr : Room k callerA) (hY : ∀ (w : World) (h : Heap), YP w h → (K w.params).In h)
    (hrec : ∀ y ∈ xs, ∃ r, (recsOf q).find? (fun e => e.name == y.1) = some r) (TK : ∀ w : World, TabK (K w.params) xs cs)
    (hF : ∀ (w : World) (mg : Str → Option Value) (fa : Addr) (h : Heap), (K w.params).In h → h.Ns mainGlobals mg → mg d.name = some (.ref fa) →
      ∃ fd : FuncData, (∀ (s : Shared) (u : Value), BindsTo s fd ⟨[u], []⟩ [(x, u)]) ∧ ∀ base : Heap, (K w.params).In base → base.Ns mainGlobals mg → (∀ p ∈ cs, LamX.TabB base mg p.1 p.2) → FnG l.prog w (K w.params) mg base k fa fd [x] (F w))
    (hlaw : ∀ (w : World) (ns : List Int), ns.length ≤ n → (∀ z ∈ ns, Builtin.Int.intBits z ≤ 1048576) → ∃ M', F w [.fz (ns.map D.int)] (tabM xs) = .ok (.bl true) M') :
    PySem.W.WalkO q loose XP YP l.row.toRowW d [] (fun f vs => PySem.call f vs) := by
  refine Att.attach_callB hn hdf fun w s0 s1 mg mb fa o pm cd doc a vs ns Gr Y ho hd hcd hmg hobj hin hlen hbits hg => ?_
  obtain ⟨fd, hb, hF⟩ := hF w mg fa _ (hY w _ Y) Gr.T.g hmg
  have TK := TK w
  refine law_DT (hY w _ Y) Gr.T.g Gr.T.b Gr.T.builtins Gr.T.nolimit hg hobj hin (Nat.le_trans hlen hn2) hr TK (fun p hp => ?_) Gr.T.bmain hF hb (hlaw w ns hlen hbits)
  obtain ⟨i, hi, e⟩ := List.getElem_of_mem hp
  have hx : i < xs.length := by rw [← TK.len]; exact hi
  obtain ⟨r, hr⟩ := hrec xs[i] (List.getElem_mem hx)
  have ht := TK.tab i xs[i] p (List.getElem?_eq_getElem hx) (by rw [List.getElem?_eq_getElem hi, e])
  exact PySem.W.tab_of Gr.T (hY w _ Y) hr ht
/-- a def whose code object's table is known -/
theorem tabF_of {K : PySem.W.Frag} {mg : Str → Option Value} {base : Heap} {x : Str} {st : Stmt} {f : Addr} {fd : FuncData} {c P : Addr} (ht : PySem.W.tabIn K x = some (c, P)) (ha : PySem.W.nsIn K mainGlobals x = some (some (.ref f))) (F : Fun K x x st f fd) (TB : LamX.TabB base mg c P) : TabF K mg base x fd := by
  obtain ⟨oc, od, kV, doc, pm, an, cdv, ct, osl, rfl, lk, hcd⟩ := F.ex
  refine ⟨c, P, ht, ?_, TB⟩
  unfold PySem.W.tabIn at ht
  rw [ha] at ht
  dsimp only at ht
  rw [lk] at ht
  dsimp only at ht
  split at ht
  · split at ht
    · split at ht
      · cases ht; rfl
      · cases ht
    · cases ht
  · cases ht
end DL
end
section
set_option Elab.async false
set_option linter.all false
set_option maxRecDepth 100000
set_option maxHeartbeats 2000000
namespace DL
open PySem PySem.Spec PyProof.Rows L2
theorem HdAt.mono {P : Program} {w : World} {K : PySem.W.Frag} {mg : Str → Option Value} {base : Heap} {j k : Nat} {x a : Str} {N : List Str} {sg : Scope} {F : C D → C D} (h : HdAt P w K mg base j x N sg a F) (hl : j ≤ k) : HdAt P w K mg base k x N sg a F := by
  obtain ⟨g, fd, cdv, e1, e2, e3, e4, e5, go⟩ := h.ex
  exact ⟨g, fd, cdv, e1, e2, e3, e4, e5, fun A outer s H E Q f c' q fE σ ρ G ps M hG hr => go A outer s H E Q f c' q fE σ ρ G ps M hG (hr.mono hl)⟩
theorem FnAt.mono' {P : Program} {w : World} {K : PySem.W.Frag} {mg : Str → Option Value} {base : Heap} {j k : Nat} {st : Stmt} {x : Str} {ps : List Str} {F : List D → C D} (h : FnAt P w K mg base j st x ps F) (hl : j ≤ k) : FnAt P w K mg base k st x ps F := by
  obtain ⟨f, fd, a, b, c, d⟩ := h.ex
  exact ⟨f, fd, a, b, c, d.mono hl⟩
theorem TabK.nil {K : PySem.W.Frag} : TabK K [] [] := ⟨rfl, fun n x p h => by simp at h, fun p h => (List.not_mem_nil h).elim, List.nodup_nil⟩
theorem TabK.cons {K : PySem.W.Frag} {x : Str × Str} {p : Addr × Addr} {xs : List (Str × Str)} {cs : List (Addr × Addr)} (h : PySem.W.tabIn K x.1 = some p) (no : K.lookup p.2 = none) (nd : p.2 ∉ cs.map (·.2)) (r : TabK K xs cs) : TabK K (x :: xs) (p :: cs) where
  len := by rw [List.length_cons, List.length_cons, r.len]
  tab := fun n y q h1 h2 => by
    cases n with
    | zero => cases h1; cases h2; exact h
    | succ n => exact r.tab n y q (by simpa using h1) (by simpa using h2)
  no := fun q hq => by
    rcases List.mem_cons.mp hq with e | e
    · rw [e]; exact no
    · exact r.no q e
  nd := by rw [List.map_cons]; exact List.nodup_cons.mpr ⟨nd, r.nd⟩
/-- {i: e}, i a whole number -/
def dDic1 (i : Int) (f : Env → C D) : Env → C D := fun ρ => C.bind (f ρ) fun d => C.pure (.dic [.inl i] [d])
theorem de_dic1 {X : Cx} {W : WX} {i : Int} {j : Nat} {p pos : Pos} {e : Expr} {f : Env → C D} (he : DE X W e f) : DE X W (.Dict [some (.Constant (.int i) j p)] [e] pos) (dDic1 i f) :=
  pe_imp (pe_disp (pps_cons (pe_int (i := i) (j := j) (pos := p)) he pps_nil) rfl rfl (by simp) (Nat.le_of_ble_eq_true rfl)) fun σ H Q q a ha => by
    obtain ⟨ρ, G, ps, M, s, sl, p⟩ := q
    have s1 := s.junk (o := .dK []) ha
    have st1 := s.stpJ (o := .dK []) ha
    have p1 := Post.ext st1 p
    have p0 := p
    refine ⟨ρ, G, ps, M, s1, sl, ?_⟩
    unfold dDic1 C.bind at p1 p0
    cases z : f ρ M with
    | ok d M' =>
      rw [z] at p0
      intro G' ps' H' st' s' v r
      have ha' : H' a = some (.dK []) := st'.keep a _ upd_same (fun m => by
        obtain ⟨n, hn⟩ := List.mem_iff_getElem?.mp m
        exact s.old n a hn ha)
      refine ⟨ha', [(.inl i, v)], rfl, Nat.le_of_ble_eq_true rfl, ?_⟩
      have nP : ∀ n b, ps'[n]? = some b → b ≠ a := fun n b e z => by
        rcases st'.fresh b (List.mem_of_getElem? e) with h | h
        · obtain ⟨m, hm⟩ := List.mem_iff_getElem?.mp h
          exact s.old m b hm (z ▸ ha)
        · rw [z, upd_same] at h; cases h
      have nG : G' a = none := by
        cases q : G' a with
        | none => rfl
        | some u =>
          have := s'.sub a u q
          rcases st'.newG a u q with h | h | h
          · have := s.sub a u h; rw [ha] at this; cases this
          · rw [upd_same] at h; cases h
          · obtain ⟨m, hm⟩ := List.mem_iff_getElem?.mp h
            exact (s.old m a hm ha).elim
      have xt : Ext G' ps' (upd G' a (.dK [(.inl i, v)])) ps' := ext_new nG
      have s2 : Sto0 X.K (upd G' a (.dK [(.inl i, v)])) ps' M' (upd H' a (.dK [(.inl i, v)])) := by
        refine ⟨fun b u e => ?_, fun n mo e => (s'.mem n mo e).mono xt (fun b e2 g => by rw [upd_ne (nP n b e2)]; exact g) (fun b u e2 h => by rw [upd_ne (nP n b e2)]; exact h), s'.nd, s'.len, fun n b e => by rw [upd_ne (nP n b e)]; exact s'.old n b e⟩
        by_cases hb : b = a
        · subst hb; rw [upd_same] at e ⊢; exact e
        · rw [upd_ne hb] at e ⊢; exact s'.sub b u e
      have st0 := st1.trans st'
      have st2 : Stp G ps H (upd G' a (.dK [(.inl i, v)])) ps' (upd H' a (.dK [(.inl i, v)])) :=
        ⟨st0.ext.trans xt, fun b u e m => by rw [upd_ne (ne_of_none e ha)]; exact st0.keep b u e m, st0.fresh, fun b u e => by
          by_cases hb : b = a
          · subst hb; exact .inr (.inl ha)
          · rw [upd_ne hb] at e; exact st0.newG b u e⟩
      exact p0 _ ps' _ st2 s2 _ (by unfold Rep; exact ⟨a, [(.inl i, v)], rfl, upd_same, rfl, Reps.cons (r.mono xt) Reps.nil⟩)
    | err c fn ds M' => rw [z] at p1; exact p1
    | bad => rw [z] at p1; exact p1.elim
end DL
end
section
set_option Elab.async false
set_option linter.all false
set_option maxRecDepth 100000
set_option maxHeartbeats 4000000
namespace My
open PySem PySem.Spec PyProof.Rows L2 DL
def topS (i : Nat) : Stmt := PySem.Challenge.pw_timesfloor_k18_rows_refused.main.body.getD i (.Pass ⟨0, 0, 0, 0⟩)
abbrev s_is_integer : Stmt := topS 2
abbrev s_is_within : Stmt := topS 3
abbrev s_is_list : Stmt := topS 4
abbrev s_parts_of : Stmt := topS 10
abbrev s_made : Stmt := topS 11
abbrev s_is_less : Stmt := topS 12
abbrev s_common_under : Stmt := topS 13
abbrev s_is_number : Stmt := topS 15
abbrev s_want_within : Stmt := topS 17
abbrev s_want_integer : Stmt := topS 18
abbrev s_is_point : Stmt := topS 19
abbrev s_want_free_point : Stmt := topS 22
abbrev s_wholes_of : Stmt := topS 23
abbrev s_labels_at : Stmt := topS 24
abbrev s_label_sum : Stmt := topS 25
abbrev s_label_at : Stmt := topS 26
abbrev s_labels_of : Stmt := topS 27
abbrev s_sum_of : Stmt := topS 28
abbrev s_comes_again : Stmt := topS 29
abbrev s_told_back : Stmt := topS 30
abbrev s__law_gate : Stmt := topS 32
abbrev s__law_knock : Stmt := topS 33
abbrev s__law_one : Stmt := topS 34
abbrev s__law_heard : Stmt := topS 35
abbrev s__law_point : Stmt := topS 36
abbrev s__law_integer : Stmt := topS 37
abbrev s__law_calls_right : Stmt := topS 38
abbrev s__law_labels_right : Stmt := topS 39
abbrev s_law : Stmt := topS 40
abbrev s_BadNumber___init__ : Stmt := mthS (topS 7) 0
abbrev s_BadPoint___init__ : Stmt := mthS (topS 8) 0
def kitL : List ((Str × Str) × Bool) := ([(("TileError", "TileError"), true), (("TileError", "BadNumber"), false), (("TileError", "BadPoint"), false), (("BadNumber", "TileError"), true), (("BadNumber", "BadNumber"), true), (("BadNumber", "BadPoint"), false), (("BadPoint", "TileError"), true), (("BadPoint", "BadNumber"), false), (("BadPoint", "BadPoint"), true)] : List ((Str × Str) × Bool))
def exL : List ((Str × Str) × Bool) := ([(("TileError", "TileError"), true), (("BadNumber", "TileError"), true), (("BadPoint", "TileError"), true)] : List ((Str × Str) × Bool))
def kT : KT := ⟨["TileError", "BadNumber", "BadPoint"], [], ["part"], fun x y => kitL.lookup (x, y)⟩
def exT : Str → Str → Option Bool := fun x y => exL.lookup (x, y)
def tabs : List (Str × Tab) := []
/-- what the top has left, but the defs -/
structure Top (w : World) (K : PySem.W.Frag) (mg : Str → Option Value) : Prop where
  n_abs : mg "abs" = none
  n_all : mg "all" = none
  n_bool : mg "bool" = none
  n_enumerate : mg "enumerate" = none
  n_gcd : mg "gcd" = some (.builtin "math.gcd")
  n_int : mg "int" = none
  n_isinstance : mg "isinstance" = none
  n_lcm : mg "lcm" = some (.builtin "math.lcm")
  n_len : mg "len" = none
  n_list : mg "list" = none
  n_range : mg "range" = none
  n_tuple : mg "tuple" = none
  n_zip : mg "zip" = none
  v_MOST_LABELS : ∃ t, mg "MOST_LABELS" = some (.int 2000 t)
  c_BadNumber : ∃ C, mg "BadNumber" = some (.ref C) ∧ clsAt K "BadNumber" = some C
  c_BadPoint : ∃ C, mg "BadPoint" = some (.ref C) ∧ clsAt K "BadPoint" = some C
  c_TileError : ∃ C, mg "TileError" = some (.ref C) ∧ clsAt K "TileError" = some C
  kt : KTok K kT
  ex : ExT K exT
  tb : ∀ x tab, (x, tab) ∈ tabs → TabAt K w x tab
theorem sc_is_integer : FnScope ["value"] ["value"] (defScope s_is_integer) := ⟨rfl, rfl, rfl, by decide +kernel, rfl, by decide +kernel, by decide +kernel⟩
theorem sc_is_within : FnScope ["value", "least", "most"] ["value", "least", "most"] (defScope s_is_within) := ⟨rfl, rfl, rfl, by decide +kernel, rfl, by decide +kernel, by decide +kernel⟩
theorem sc_is_list : FnScope ["value", "least", "most"] ["value", "least", "most"] (defScope s_is_list) := ⟨rfl, rfl, rfl, by decide +kernel, rfl, by decide +kernel, by decide +kernel⟩
theorem sc_parts_of : FnScope ["number", "above", "under"] ["number"] (defScope s_parts_of) := ⟨rfl, rfl, rfl, by decide +kernel, rfl, by decide +kernel, by decide +kernel⟩
theorem sc_made : FnScope ["above", "under", "common"] ["above", "under"] (defScope s_made) := ⟨rfl, rfl, rfl, by decide +kernel, rfl, by decide +kernel, by decide +kernel⟩
theorem sc_is_less : FnScope ["one", "other", "above", "under", "bound", "parted"] ["one", "other"] (defScope s_is_less) := ⟨rfl, rfl, rfl, by decide +kernel, rfl, by decide +kernel, by decide +kernel⟩
theorem sc_common_under : FnScope ["numbers", "common", "number"] ["numbers"] (defScope s_common_under) := ⟨rfl, rfl, rfl, by decide +kernel, rfl, by decide +kernel, by decide +kernel⟩
theorem sc_is_number : FnScope ["value", "above", "under"] ["value"] (defScope s_is_number) := ⟨rfl, rfl, rfl, by decide +kernel, rfl, by decide +kernel, by decide +kernel⟩
theorem sc_want_within : FnScope ["value", "least", "most", "part"] ["value", "least", "most", "part"] (defScope s_want_within) := ⟨rfl, rfl, rfl, by decide +kernel, rfl, by decide +kernel, by decide +kernel⟩
theorem sc_want_integer : FnScope ["value", "part"] ["value", "part"] (defScope s_want_integer) := ⟨rfl, rfl, rfl, by decide +kernel, rfl, by decide +kernel, by decide +kernel⟩
theorem sc_is_point : FnScope ["value", "least", "most", "item"] ["value", "least", "most"] (defScope s_is_point) := ⟨rfl, rfl, rfl, by decide +kernel, rfl, by decide +kernel, by decide +kernel⟩
theorem sc_want_free_point : FnScope ["point"] ["point"] (defScope s_want_free_point) := ⟨rfl, rfl, rfl, by decide +kernel, rfl, by decide +kernel, by decide +kernel⟩
theorem sc_wholes_of : FnScope ["number", "first", "many", "above", "under", "place"] ["number", "first", "many"] (defScope s_wholes_of) := ⟨rfl, rfl, rfl, by decide +kernel, rfl, by decide +kernel, by decide +kernel⟩
theorem sc_labels_at : FnScope ["number", "first", "many", "wholes", "before", "whole"] ["number", "first", "many"] (defScope s_labels_at) := ⟨rfl, rfl, rfl, by decide +kernel, rfl, by decide +kernel, by decide +kernel⟩
theorem sc_label_sum : FnScope ["number", "first", "many", "above", "under"] ["number", "first", "many"] (defScope s_label_sum) := ⟨rfl, rfl, rfl, by decide +kernel, rfl, by decide +kernel, by decide +kernel⟩
theorem sc_label_at : FnScope ["point", "place", "number"] ["point", "place"] (defScope s_label_at) := ⟨rfl, rfl, rfl, by decide +kernel, rfl, by decide +kernel, by decide +kernel⟩
theorem sc_labels_of : FnScope ["point", "first", "many", "rows", "number"] ["point", "first", "many"] (defScope s_labels_of) := ⟨rfl, rfl, rfl, by decide +kernel, rfl, by decide +kernel, by decide +kernel⟩
theorem sc_sum_of : FnScope ["point", "first", "many", "number"] ["point", "first", "many"] (defScope s_sum_of) := ⟨rfl, rfl, rfl, by decide +kernel, rfl, by decide +kernel, by decide +kernel⟩
theorem sc_comes_again : FnScope ["point"] ["point"] (defScope s_comes_again) := ⟨rfl, rfl, rfl, by decide +kernel, rfl, by decide +kernel, by decide +kernel⟩
theorem sc_told_back : FnScope ["labels", "label", "total", "low", "high", "many"] ["labels"] (defScope s_told_back) := ⟨rfl, rfl, rfl, by decide +kernel, rfl, by decide +kernel, by decide +kernel⟩
theorem sc__law_gate : FnScope ["script", "cell"] ["script"] (defScope s__law_gate) := ⟨rfl, rfl, rfl, by decide +kernel, rfl, by decide +kernel, by decide +kernel⟩
theorem sc__law_knock : FnScope ["gate", "many", "left", "at", "cell", "mixed"] ["gate", "many"] (defScope s__law_knock) := ⟨rfl, rfl, rfl, by decide +kernel, rfl, by decide +kernel, by decide +kernel⟩
theorem sc__law_one : FnScope ["gate", "some"] ["gate", "some"] (defScope s__law_one) := ⟨rfl, rfl, rfl, by decide +kernel, rfl, by decide +kernel, by decide +kernel⟩
theorem sc__law_heard : FnScope ["ask", "caught", "error"] ["ask"] (defScope s__law_heard) := ⟨rfl, rfl, rfl, by decide +kernel, rfl, by decide +kernel, by decide +kernel⟩
theorem sc__law_point : FnScope ["gate", "odd"] ["gate"] (defScope s__law_point) := ⟨rfl, rfl, rfl, by decide +kernel, rfl, by decide +kernel, by decide +kernel⟩
theorem sc__law_integer : FnScope ["gate"] ["gate"] (defScope s__law_integer) := ⟨rfl, rfl, rfl, by decide +kernel, rfl, by decide +kernel, by decide +kernel⟩
theorem sc__law_calls_right : FnScope ["gate", "point", "bad", "odd", "none", "less", "many", "heard", "due"] ["gate"] (defScope s__law_calls_right) := ⟨rfl, rfl, rfl, by decide +kernel, rfl, by decide +kernel, by decide +kernel⟩
theorem sc__law_labels_right : FnScope ["gate", "spot", "bent", "odd"] ["gate"] (defScope s__law_labels_right) := ⟨rfl, rfl, rfl, by decide +kernel, rfl, by decide +kernel, by decide +kernel⟩
theorem sc_law : FnScope ["script", "gate", "turn"] ["script"] (defScope s_law) := ⟨rfl, rfl, rfl, by decide +kernel, rfl, by decide +kernel, by decide +kernel⟩
theorem sc_BadNumber___init__ : FnScope ["self", "part"] ["self", "part"] (defScope s_BadNumber___init__) := ⟨rfl, rfl, rfl, by decide +kernel, rfl, by decide +kernel, by decide +kernel⟩
theorem sc_BadPoint___init__ : FnScope ["self", "part"] ["self", "part"] (defScope s_BadPoint___init__) := ⟨rfl, rfl, rfl, by decide +kernel, rfl, by decide +kernel, by decide +kernel⟩
theorem kw_label_at_0_place_point : KwB s_label_at "label_at" ["point", "place"] ["place", "point"] 0 [1, 0] := fun kV doc pm an cdv ct us ws zs h1 h2 h3 => by
  match us, ws, h1, h2 with
  | [], [w0, w1], _, _ => cases h3; rfl
theorem kw_labels_of_0_many_first_point : KwB s_labels_of "labels_of" ["point", "first", "many"] ["many", "first", "point"] 0 [2, 1, 0] := fun kV doc pm an cdv ct us ws zs h1 h2 h3 => by
  match us, ws, h1, h2 with
  | [], [w0, w1, w2], _, _ => cases h3; rfl
theorem kw_told_back_0_labels : KwB s_told_back "told_back" ["labels"] ["labels"] 0 [0] := fun kV doc pm an cdv ct us ws zs h1 h2 h3 => by
  match us, ws, h1, h2 with
  | [], [w0], _, _ => cases h3; rfl
noncomputable def B_is_integer : SF :=
    sRt (vAnd (cB dIsi (aCons (dVar 0) (aCons (dC (.ty "int")) (aNil)))) (vNot (cB dIsi (aCons (dVar 0) (aCons (dC (.ty "bool")) (aNil))))))
noncomputable def F_is_integer : List D → C D := dDef 1 1 B_is_integer
noncomputable def B_is_within : SF :=
    sSeq (sIf (tNotD (tV (cB F_is_integer (aCons (dVar 0) (aNil)))))
    (sRt (dC (.bl false)))
    (sNx))
    (sRt (vAnd (vOr (dB (dIsN false) (dVar 1) (dC .non)) (dB dLe (dVar 1) (dVar 0))) (vOr (dB (dIsN false) (dVar 2) (dC .non)) (dB dLe (dVar 0) (dVar 2)))))
noncomputable def F_is_within : List D → C D := dDef 3 3 B_is_within
noncomputable def B_is_list : SF :=
    sSeq (sIf (tNotD (tV (cB dIsi (aCons (dVar 0) (aCons (dTup (aCons (dC (.ty "list")) (aCons (dC (.ty "tuple")) (aNil)))) (aNil))))))
    (sRt (dC (.bl false)))
    (sNx))
    (sRt (vAnd (vOr (dB (dIsN false) (dVar 1) (dC .non)) (dB dLe (dVar 1) (cB dLen (aCons (dVar 0) (aNil))))) (vOr (dB (dIsN false) (dVar 2) (dC .non)) (dB dLe (cB dLen (aCons (dVar 0) (aNil))) (dVar 2)))))
noncomputable def F_is_list : List D → C D := dDef 3 3 B_is_list
noncomputable def B_parts_of : SF :=
    sSeq (sIf (tV (cB dIsi (aCons (dVar 0) (aCons (dC (.ty "int")) (aNil)))))
    (sRt (dTup (aCons (dVar 0) (aCons (dC (.int 1)) (aNil)))))
    (sNx))
    (sSeq (sAsg (dVar 0) (.tp [.nm 1, .nm 2]))
    (sRt (dTup (aCons (dVar 1) (aCons (dVar 2) (aNil))))))
noncomputable def F_parts_of : List D → C D := dDef 3 1 B_parts_of
noncomputable def B_made : SF :=
    sSeq (sAsg (cB dGcd (aCons (dVar 0) (aCons (dVar 1) (aNil)))) (.nm 2))
    (sSeq (sIf (tV (dB dLt (dVar 1) (dC (.int 0))))
    (sAsg (dU dNeg (dVar 2)) (.nm 2))
    (sNx))
    (sSeq (sIf (tV (dB (dEqv false) (dVar 2) (dVar 1)))
    (sRt (dB dFdiv (dVar 0) (dVar 2)))
    (sNx))
    (sRt (dTup (aCons (dB dFdiv (dVar 0) (dVar 2)) (aCons (dB dFdiv (dVar 1) (dVar 2)) (aNil)))))))
noncomputable def F_made : List D → C D := dDef 3 2 B_made
noncomputable def B_is_less : SF :=
    sSeq (sAsg (cB F_parts_of (aCons (dVar 0) (aNil))) (.tp [.nm 2, .nm 3]))
    (sSeq (sAsg (cB F_parts_of (aCons (dVar 1) (aNil))) (.tp [.nm 4, .nm 5]))
    (sRt (dB dLt (dB dMul (dVar 2) (dVar 5)) (dB dMul (dVar 4) (dVar 3)))))
noncomputable def F_is_less : List D → C D := dDef 6 2 B_is_less
noncomputable def B_common_under : SF :=
    sSeq (sAsg (dC (.int 1)) (.nm 1))
    (sSeq (sFor (dIt (dVar 0)) (.nm 2)
    (sAsg (cB dLcm (aCons (dVar 1) (aCons (dB dIx (cB F_parts_of (aCons (dVar 2) (aNil))) (dC (.int 1))) (aNil)))) (.nm 1)))
    (sRt (dVar 1)))
noncomputable def F_common_under : List D → C D := dDef 3 1 B_common_under
noncomputable def B_is_number : SF :=
    sSeq (sIf (tV (cB F_is_integer (aCons (dVar 0) (aNil))))
    (sRt (dC (.bl true)))
    (sNx))
    (sSeq (sIf (tNotD (tV (cB F_is_list (aCons (dVar 0) (aCons (dC (.int 2)) (aCons (dC (.int 2)) (aNil)))))))
    (sRt (dC (.bl false)))
    (sNx))
    (sSeq (sAsg (dVar 0) (.tp [.nm 1, .nm 2]))
    (sRt (vAnd (cB F_is_integer (aCons (dVar 1) (aNil))) (vAnd (cB F_is_within (aCons (dVar 2) (aCons (dC (.int 2)) (aCons (dC .non) (aNil))))) (dB (dEqv false) (cB dGcd (aCons (dVar 1) (aCons (dVar 2) (aNil)))) (dC (.int 1))))))))
noncomputable def F_is_number : List D → C D := dDef 3 1 B_is_number
noncomputable def B_want_within : SF :=
    sIf (tNotD (tV (cB F_is_within (aCons (dVar 0) (aCons (dVar 1) (aCons (dVar 2) (aNil)))))))
    (sRaise "BadNumber" ["part"] (aCons (dVar 3) (aNil)))
    (sNx)
noncomputable def F_want_within : List D → C D := dDef 4 4 B_want_within
noncomputable def B_want_integer : SF :=
    sEx (cB F_want_within (aCons (dVar 0) (aCons (dC .non) (aCons (dC .non) (aCons (dVar 1) (aNil))))))
noncomputable def F_want_integer : List D → C D := dDef 2 2 B_want_integer
noncomputable def B_is_point : SF :=
    sRt (vAnd (cB F_is_list (aCons (dVar 0) (aCons (dVar 1) (aCons (dVar 2) (aNil))))) (cB dAll (aCons (dLc (dIt (dVar 0)) (.nm 3) (tYesD) (cB F_is_number (aCons (dVar 3) (aNil))) [3]) (aNil))))
noncomputable def F_is_point : List D → C D := dDef 4 3 B_is_point
noncomputable def B_want_free_point : SF :=
    sIf (tNotD (tV (cB F_is_point (aCons (dVar 0) (aCons (dC (.int 1)) (aCons (dC (.int 2)) (aNil)))))))
    (sRaise "BadPoint" ["part"] (aCons (dC (.str "point")) (aNil)))
    (sNx)
noncomputable def F_want_free_point : List D → C D := dDef 1 1 B_want_free_point
noncomputable def B_wholes_of : SF :=
    sSeq (sAsg (cB F_parts_of (aCons (dVar 0) (aNil))) (.tp [.nm 3, .nm 4]))
    (sRt (dLc (dRng rng2w (aCons (dVar 1) (aCons (dB dAdd (dVar 1) (dVar 2)) (aNil)))) (.nm 5) (tYesD) (dB dFdiv (dB dMul (dVar 5) (dVar 3)) (dVar 4)) [5]))
noncomputable def F_wholes_of : List D → C D := dDef 6 3 B_wholes_of
noncomputable def B_labels_at : SF :=
    sSeq (sAsg (cB F_wholes_of (aCons (dVar 0) (aCons (dB dSub (dVar 1) (dC (.int 1))) (aCons (dB dAdd (dVar 2) (dC (.int 1))) (aNil))))) (.nm 3))
    (sRt (dLc (dRng zipA (aCons (dVar 3) (aCons (dSlice (dVar 3) (pSo (dC (.int 1))) (pNo)) (aNil)))) (.tp [.nm 4, .nm 5]) (tYesD) (dB dSub (dVar 5) (dVar 4)) [4, 5]))
noncomputable def F_labels_at : List D → C D := dDef 6 3 B_labels_at
noncomputable def B_label_sum : SF :=
    sSeq (sAsg (cB F_parts_of (aCons (dVar 0) (aNil))) (.tp [.nm 3, .nm 4]))
    (sRt (dB dSub (dB dFdiv (dB dMul (dB dSub (dB dAdd (dVar 1) (dVar 2)) (dC (.int 1))) (dVar 3)) (dVar 4)) (dB dFdiv (dB dMul (dB dSub (dVar 1) (dC (.int 1))) (dVar 3)) (dVar 4))))
noncomputable def F_label_sum : List D → C D := dDef 5 3 B_label_sum
noncomputable def B_label_at : SF :=
    sSeq (sEx (cB F_want_free_point (aCons (dVar 0) (aNil))))
    (sSeq (sEx (cB F_want_integer (aCons (dVar 1) (aCons (dC (.str "place")) (aNil)))))
    (sRt (cB dTupOf (aCons (dLc (dIt (dVar 0)) (.nm 2) (tYesD) (cB F_label_sum (aCons (dVar 2) (aCons (dVar 1) (aCons (dC (.int 1)) (aNil))))) [2]) (aNil)))))
noncomputable def F_label_at : List D → C D := dDef 3 2 B_label_at
noncomputable def B_labels_of : SF :=
    sSeq (sEx (cB F_want_free_point (aCons (dVar 0) (aNil))))
    (sSeq (sEx (cB F_want_integer (aCons (dVar 1) (aCons (dC (.str "first")) (aNil)))))
    (sSeq (sEx (cB F_want_within (aCons (dVar 2) (aCons (dC (.int 0)) (aCons (dC (.int 2000)) (aCons (dC (.str "many")) (aNil)))))))
    (sSeq (sAsg (dLc (dIt (dVar 0)) (.nm 4) (tYesD) (cB F_labels_at (aCons (dVar 4) (aCons (dVar 1) (aCons (dVar 2) (aNil))))) [4]) (.nm 3))
    (sRt (dZipS .tup (dVar 3))))))
noncomputable def F_labels_of : List D → C D := dDef 5 3 B_labels_of
noncomputable def B_sum_of : SF :=
    sSeq (sEx (cB F_want_free_point (aCons (dVar 0) (aNil))))
    (sSeq (sEx (cB F_want_integer (aCons (dVar 1) (aCons (dC (.str "first")) (aNil)))))
    (sSeq (sEx (cB F_want_within (aCons (dVar 2) (aCons (dC (.int 0)) (aCons (dC .non) (aCons (dC (.str "many")) (aNil)))))))
    (sRt (cB dTupOf (aCons (dLc (dIt (dVar 0)) (.nm 3) (tYesD) (cB F_label_sum (aCons (dVar 3) (aCons (dVar 1) (aCons (dVar 2) (aNil))))) [3]) (aNil))))))
noncomputable def F_sum_of : List D → C D := dDef 4 3 B_sum_of
noncomputable def B_comes_again : SF :=
    sSeq (sEx (cB F_want_free_point (aCons (dVar 0) (aNil))))
    (sRt (cB F_common_under (aCons (dVar 0) (aNil))))
noncomputable def F_comes_again : List D → C D := dDef 1 1 B_comes_again
noncomputable def B_told_back : SF :=
    sSeq (sIf (tOrD (tNotD (tV (cB F_is_list (aCons (dVar 0) (aCons (dC (.int 1)) (aCons (dC (.int 2000)) (aNil))))))) (tNotD (tV (cB dAll (aCons (dLc (dIt (dVar 0)) (.nm 1) (tYesD) (cB F_is_integer (aCons (dVar 1) (aNil))) [1]) (aNil))))))
    (sRaise "BadNumber" ["part"] (aCons (dC (.str "labels")) (aNil)))
    (sNx))
    (sSeq (sAsg (dC (.int 0)) (.nm 2))
    (sSeq (sAsg2 (dC .non) (.nm 3) (.nm 4))
    (sSeq (sFor (dEnuS (aCons (dVar 0) (aNil)) (aCons (dC (.int 1)) aNil)) (.tp [.nm 5, .nm 1])
    (sSeq (sAsg (dB dAdd (dVar 2) (dVar 1)) (.nm 2))
    (sSeq (sIf (tOrD (tV (dB (dIsN false) (dVar 3) (dC .non))) (tV (cB F_is_less (aCons (dVar 3) (aCons (dTup (aCons (dVar 2) (aCons (dVar 5) (aNil)))) (aNil))))))
    (sAsg (dTup (aCons (dVar 2) (aCons (dVar 5) (aNil)))) (.nm 3))
    (sNx))
    (sIf (tOrD (tV (dB (dIsN false) (dVar 4) (dC .non))) (tV (cB F_is_less (aCons (dTup (aCons (dB dAdd (dVar 2) (dC (.int 1))) (aCons (dVar 5) (aNil)))) (aCons (dVar 4) (aNil))))))
    (sAsg (dTup (aCons (dB dAdd (dVar 2) (dC (.int 1))) (aCons (dVar 5) (aNil)))) (.nm 4))
    (sNx)))))
    (sSeq (sIf (tNotD (tV (cB F_is_less (aCons (dVar 3) (aCons (dVar 4) (aNil))))))
    (sRt (dC .non))
    (sNx))
    (sRt (dTup (aCons (cB F_made (aCons (dB dIx (dVar 3) (dC (.int 0))) (aCons (dB dIx (dVar 3) (dC (.int 1))) (aNil)))) (aCons (cB F_made (aCons (dB dIx (dVar 4) (dC (.int 0))) (aCons (dB dIx (dVar 4) (dC (.int 1))) (aNil)))) (aNil)))))))))
noncomputable def F_told_back : List D → C D := dDef 6 1 B_told_back
noncomputable def B__law_gate : SF :=
    sRt (dLstM (aCons (dLc (dIt (dSlice (dVar 0) (pNo) (pSo (dC (.int 60))))) (.nm 1) (tYesD) (cB dInt (aCons (dVar 1) (aNil))) [1]) (aCons (dC (.int 0)) (aCons (dC (.int 0)) (aNil)))))
noncomputable def F__law_gate : List D → C D := dDef 2 1 B__law_gate
noncomputable def B__law_knock : SF :=
    sSeq (sIf (tV (dB dGt (dB dIx (dVar 0) (dC (.int 2))) (dC (.int 0))))
    (sSeq (sAsg (cB dInt (aCons (dB dIx (dVar 0) (dC (.int 2))) (aNil))) (.nm 2))
    (sSeq (sSub (dB dFdiv (dVar 2) (dVar 1)) (dVar 0) (dC (.int 2)))
    (sRt (dB dMod (cB dInt (aCons (dVar 2) (aNil))) (dVar 1)))))
    (sNx))
    (sSeq (sAsg (dB dIx (dVar 0) (dC (.int 1))) (.nm 3))
    (sSeq (sSub (dB dAdd (dVar 3) (dC (.int 1))) (dVar 0) (dC (.int 1)))
    (sSeq (sAsg (dB dAdd (dB dMul (dC (.int 47017)) (dVar 3)) (dC (.int 6737))) (.nm 4))
    (sSeq (sIf (tV (dB (dEqv true) (dB dIx (dVar 0) (dC (.int 0))) (dLst (aNil))))
    (sAsg (dB dIx (dB dIx (dVar 0) (dC (.int 0))) (dB dMod (cB dInt (aCons (dVar 3) (aNil))) (cB dLen (aCons (dB dIx (dVar 0) (dC (.int 0))) (aNil))))) (.nm 4))
    (sNx))
    (sSeq (sIf (tAndD (tV (dB dLt (dVar 3) (cB dLen (aCons (dB dIx (dVar 0) (dC (.int 0))) (aNil))))) (tV (dB dGe (cB dAbs (aCons (dVar 4) (aNil))) (dC (.int 1000000000000000000)))))
    (sSeq (sAsg (dB dAdd (dB dMul (dC (.int 2)) (dB dSub (cB dAbs (aCons (dVar 4) (aNil))) (dC (.int 1000000000000000000)))) (cB dInt (aCons (dB dLt (dVar 4) (dC (.int 0))) (aNil)))) (.nm 2))
    (sSeq (sSub (dB dFdiv (dVar 2) (dVar 1)) (dVar 0) (dC (.int 2)))
    (sRt (dB dMod (cB dInt (aCons (dVar 2) (aNil))) (dVar 1)))))
    (sNx))
    (sSeq (sAsg (dB dMod (cB dInt (aCons (dB dPow (dB dAdd (dB dAdd (dB dMod (cB dInt (aCons (dVar 4) (aNil))) (dC (.int 2147483489))) (dB dMul (dC (.int 65147)) (dVar 3))) (dC (.int 6737))) (dC (.int 5))) (aNil))) (dC (.int 2147483477))) (.nm 5))
    (sSeq (sAsg (dB dMod (cB dInt (aCons (dB dPow (dB dAdd (dB dAdd (dB dMul (dVar 5) (dB dAdd (dB dMul (dC (.int 2)) (dVar 3)) (dC (.int 3413)))) (dB dMul (dB dMul (dC (.int 47017)) (dVar 3)) (dVar 3))) (dC (.int 65147))) (dC (.int 3))) (aNil))) (dC (.int 2147483423))) (.nm 5))
    (sRt (dB dMod (cB dInt (aCons (dB dFdiv (dVar 5) (dC (.int 64))) (aNil))) (dVar 1))))))))))
noncomputable def F__law_knock : List D → C D := dDef 6 2 B__law_knock
noncomputable def B__law_one : SF :=
    sRt (dB dIx (dVar 1) (cB F__law_knock (aCons (dVar 0) (aCons (cB dLen (aCons (dVar 1) (aNil))) (aNil)))))
noncomputable def F__law_one : List D → C D := dDef 2 2 B__law_one
noncomputable def H__law_heard : C D → C D := dHd 3 1 exT [("TileError", some 2, sAsg (dVar 2) (.nm 1))]
    (sSeq (sIf (tV (cB (dIsiC kT) (aCons (dVar 1) (aCons (dTup (aCons (dC (.cls "BadNumber")) (aCons (dC (.cls "BadPoint")) (aNil)))) (aNil)))))
    (sRt (dTup (aCons (vIf (tV (cB (dIsiC kT) (aCons (dVar 1) (aCons (dC (.cls "BadNumber")) (aNil))))) (dC (.str "number")) (dC (.str "point"))) (aCons (dFld kT "part" (dVar 1)) (aNil)))))
    (sNx))
    (sRt (vIf (tV (dB (dIsN false) (dVar 1) (dC .non))) (dC .non) (dTup (aCons (dC (.str "other")) (aCons (dC (.str "")) (aNil)))))))
noncomputable def B__law_point : SF :=
    sSeq (sAsg (dLst (aCons (dC .non) (aCons (dC (.int 5)) (aCons (dC (.str "1")) (aCons (dLst (aNil)) (aCons (dTup (aNil)) (aCons (dTup (aCons (dC (.int 1)) (aCons (dC (.int 2)) (aCons (dC (.int 3)) (aNil))))) (aCons (dLst (aCons (dC .non) (aNil))) (aCons (dLst (aCons (dC (.bl true)) (aNil))) (aCons (dLst (aCons (dC (.str "1")) (aNil))) (aCons (dLst (aCons (dTup (aCons (dC (.int 2)) (aCons (dC (.int 4)) (aNil)))) (aNil))) (aCons (dLst (aCons (dTup (aCons (dC (.int 1)) (aCons (dC (.int 1)) (aNil)))) (aNil))) (aCons (dLst (aCons (dTup (aCons (dC (.int 3)) (aCons (dC (.int 0)) (aNil)))) (aNil))) (aCons (dLst (aCons (dTup (aCons (dC (.int 1)) (aCons (dC (.int (-2))) (aNil)))) (aNil))) (aCons (dLst (aCons (dTup (aCons (dC (.int 1)) (aCons (dC (.int 2)) (aCons (dC (.int 3)) (aNil))))) (aNil))) (aCons (dLst (aCons (dLst (aCons (dC (.int 1)) (aNil))) (aNil))) (aCons (dTup (aCons (dTup (aCons (dC (.int 0)) (aCons (dC (.int 5)) (aNil)))) (aNil))) (aCons (dDic1 0 (dC (.int 1))) (aCons (dLst (aCons (dTup (aCons (dC (.int 1)) (aCons (dC (.int 2)) (aNil)))) (aCons (dC .non) (aNil)))) (aCons (dTup (aCons (dC (.int 0)) (aCons (dTup (aCons (dC (.int 6)) (aCons (dC (.int 3)) (aNil)))) (aNil)))) (aNil))))))))))))))))))))) (.nm 1))
    (sRt (cB F__law_one (aCons (dVar 0) (aCons (dVar 1) (aNil)))))
noncomputable def F__law_point : List D → C D := dDef 2 1 B__law_point
noncomputable def B__law_integer : SF :=
    sRt (cB F__law_one (aCons (dVar 0) (aCons (dLst (aCons (dC .non) (aCons (dC (.bl true)) (aCons (dC (.str "3")) (aCons (dTup (aCons (dC (.int 1)) (aCons (dC (.int 2)) (aNil)))) (aCons (dLst (aCons (dC (.int 4)) (aNil))) (aCons (dLst (aNil)) (aCons (dC (.bl false)) (aCons (dDic0) (aNil)))))))))) (aNil))))
noncomputable def F__law_integer : List D → C D := dDef 1 1 B__law_integer
noncomputable def B__law_calls_right : SF :=
    sSeq (sAsg (dTup (aCons (cB F__law_one (aCons (dVar 0) (aCons (dLst (aCons (dTup (aCons (dC (.int 1)) (aNil))) (aCons (dLst (aCons (dTup (aCons (dC (.int 1)) (aCons (dC (.int 2)) (aNil)))) (aCons (dC (.int (-3))) (aNil)))) (aCons (dTup (aCons (dTup (aCons (dC (.int (-7))) (aCons (dC (.int 4)) (aNil)))) (aNil))) (aNil))))) (aNil)))) (aCons (cB F__law_point (aCons (dVar 0) (aNil))) (aCons (cB F__law_integer (aCons (dVar 0) (aNil))) (aCons (cB F__law_integer (aCons (dVar 0) (aNil))) (aNil)))))) (.tp [.nm 1, .nm 2, .nm 3, .nm 4]))
    (sSeq (sAsg (cB F__law_one (aCons (dVar 0) (aCons (dLst (aCons (dC (.int (-1))) (aCons (dVar 4) (aCons (dU dNeg (dC (.int 100000000000000000000))) (aNil))))) (aNil)))) (.nm 5))
    (sSeq (sAsg (cB F__law_one (aCons (dVar 0) (aCons (dLst (aCons (dVar 5) (aCons (dC (.int 2001)) (aCons (dC (.int 1000000000)) (aNil))))) (aNil)))) (.nm 6))
    (sSeq (sAsg (dLstM (aCons (dLm 0 "_law_calls_right" "_law_calls_right.<locals>.<lambda>" H__law_heard (cB F_label_at (aCons (dVar 2) (aCons (dVar 3) (aNil))))) (aCons (dLm 0 "_law_calls_right" "_law_calls_right.<locals>.<lambda>" H__law_heard (cK F_label_at 0 2 [1, 0] aNil (aCons (dVar 3) (aCons (dVar 1) (aNil))))) (aNil)))) (.nm 7))
    (sSeq (sAsg (dB dAddM (dVar 7) (dLst (aCons (dLm 0 "_law_calls_right" "_law_calls_right.<locals>.<lambda>" H__law_heard (cB F_labels_of (aCons (dVar 2) (aCons (dVar 3) (aCons (dVar 6) (aNil)))))) (aCons (dLm 0 "_law_calls_right" "_law_calls_right.<locals>.<lambda>" H__law_heard (cB F_labels_of (aCons (dVar 1) (aCons (dVar 3) (aCons (dVar 6) (aNil)))))) (aNil))))) (.nm 7))
    (sSeq (sEx (mB "list" dApp (dVar 7) (aCons (dLm 0 "_law_calls_right" "_law_calls_right.<locals>.<lambda>" H__law_heard (cK F_labels_of 0 3 [2, 1, 0] aNil (aCons (dVar 6) (aCons (dC (.int 4)) (aCons (dVar 1) (aNil)))))) (aNil))))
    (sSeq (sAsg (dB dAddM (dFrz (dVar 7)) (dLst (aCons (dLm 0 "_law_calls_right" "_law_calls_right.<locals>.<lambda>" H__law_heard (cB F_sum_of (aCons (dVar 2) (aCons (dVar 3) (aCons (dVar 5) (aNil)))))) (aCons (dLm 0 "_law_calls_right" "_law_calls_right.<locals>.<lambda>" H__law_heard (cB F_sum_of (aCons (dVar 1) (aCons (dVar 3) (aCons (dVar 5) (aNil)))))) (aNil))))) (.nm 7))
    (sSeq (sAsg (dB dAddM (dFrz (dVar 7)) (dLst (aCons (dLm 0 "_law_calls_right" "_law_calls_right.<locals>.<lambda>" H__law_heard (cB F_sum_of (aCons (dVar 1) (aCons (dC (.int 0)) (aCons (dVar 5) (aNil)))))) (aCons (dLm 0 "_law_calls_right" "_law_calls_right.<locals>.<lambda>" H__law_heard (cB F_comes_again (aCons (dVar 2) (aNil)))) (aNil))))) (.nm 7))
    (sSeq (sAsg (dLst (aCons (dTup (aCons (dC (.str "point")) (aCons (dC (.str "point")) (aNil)))) (aCons (dTup (aCons (dC (.str "number")) (aCons (dC (.str "place")) (aNil)))) (aCons (dTup (aCons (dC (.str "point")) (aCons (dC (.str "point")) (aNil)))) (aCons (dTup (aCons (dC (.str "number")) (aCons (dC (.str "first")) (aNil)))) (aCons (dTup (aCons (dC (.str "number")) (aCons (dC (.str "many")) (aNil)))) (aNil))))))) (.nm 8))
    (sRt (dB (dEqv false) (dFrz (dVar 7)) (dB dAdd (dVar 8) (dLst (aCons (dTup (aCons (dC (.str "point")) (aCons (dC (.str "point")) (aNil)))) (aCons (dTup (aCons (dC (.str "number")) (aCons (dC (.str "first")) (aNil)))) (aCons (dTup (aCons (dC (.str "number")) (aCons (dC (.str "many")) (aNil)))) (aCons (dTup (aCons (dC (.str "point")) (aCons (dC (.str "point")) (aNil)))) (aNil)))))))))))))))))
noncomputable def F__law_calls_right : List D → C D := dDef 9 1 B__law_calls_right
noncomputable def B__law_labels_right : SF :=
    sSeq (sAsg (cB F__law_knock (aCons (dVar 0) (aCons (dC (.int 4)) (aNil)))) (.nm 1))
    (sSeq (sAsg (dLstM (aCons (dC (.int 1)) (aCons (dC (.int 2)) (aCons (dC (.int 1)) (aCons (dC (.int 2)) (aNil)))))) (.nm 2))
    (sSeq (sSub (cB F__law_integer (aCons (dVar 0) (aNil))) (dVar 2) (dVar 1))
    (sSeq (sAsg (cB F__law_one (aCons (dVar 0) (aCons (dLst (aCons (dC .non) (aCons (dC (.int 5)) (aCons (dC (.str "12")) (aCons (dLst (aNil)) (aCons (dTup (aNil)) (aCons (dDic1 1 (dC (.int 1))) (aCons (dFrz (dVar 2)) (aCons (cB dTupOf (aCons (dFrz (dVar 2)) (aNil))) (aCons (dB dMul (dLst (aCons (dC (.int 0)) (aNil))) (dC (.int 2001))) (aCons (dLst (aCons (dLst (aCons (dC (.int 1)) (aNil))) (aNil))) (aCons (dLst (aCons (dTup (aCons (dC (.int 1)) (aNil))) (aCons (dTup (aCons (dC (.int 1)) (aNil))) (aNil)))) (aNil))))))))))))) (aNil)))) (.nm 3))
    (sRt (vAnd (dB (dEqv false) (dLm 1 "_law_labels_right" "_law_labels_right.<locals>.<lambda>" H__law_heard (cB F_told_back (aCons (dVar 3) (aNil)))) (dTup (aCons (dC (.str "number")) (aCons (dC (.str "labels")) (aNil))))) (dB (dIsN false) (dLm 1 "_law_labels_right" "_law_labels_right.<locals>.<lambda>" H__law_heard (cK F_told_back 0 1 [0] aNil (aCons (dLst (aCons (dC (.int 7)) (aNil))) (aNil)))) (dC .non)))))))
noncomputable def F__law_labels_right : List D → C D := dDef 4 1 B__law_labels_right
noncomputable def B_law : SF :=
    sSeq (sAsg (cB F__law_gate (aCons (dVar 0) (aNil))) (.nm 1))
    (sSeq (sFor (dRng rng1 (aCons (dC (.int 4)) (aNil))) (.nm 2)
    (sIf (tOrD (tNotD (tV (cB F__law_calls_right (aCons (dVar 1) (aNil))))) (tNotD (tV (cB F__law_labels_right (aCons (dVar 1) (aNil))))))
    (sRt (dC (.bl false)))
    (sNx)))
    (sSeq (sIf (tV (dB (dEqv false) (cB F__law_knock (aCons (dVar 1) (aCons (dC (.int 12)) (aNil)))) (dC (.int 0))))
    (sRt (vAnd (dB (dEqv false) (cB dLen (aCons (cB F_labels_of (aCons (dTup (aCons (dTup (aCons (dC (.int 1)) (aCons (dC (.int 3)) (aNil)))) (aNil))) (aCons (dC (.int (-5))) (aCons (dC (.int 2000)) (aNil))))) (aNil))) (dC (.int 2000))) (dB (dEqv false) (cB F_told_back (aCons (dB dMul (dLst (aCons (dC (.int 1)) (aNil))) (dC (.int 2000))) (aNil))) (dTup (aCons (dC (.int 1)) (aCons (dTup (aCons (dC (.int 2001)) (aCons (dC (.int 2000)) (aNil)))) (aNil)))))))
    (sNx))
    (sRt (dC (.bl true)))))
noncomputable def F_law : List D → C D := dDef 3 1 B_law
noncomputable def M0 : Sto := tabM [("_law_calls_right", "_law_calls_right.<locals>.<lambda>"), ("_law_labels_right", "_law_labels_right.<locals>.<lambda>")]
section
variable {P : Program} {w : World} {K : PySem.W.Frag} {mg : Str → Option Value} {base : Heap}
theorem ok_is_integer (T : Top w K mg)  {f : Addr} {fd : FuncData} (Fx : Fun K "is_integer" "is_integer" s_is_integer f fd) : FnG P w K mg base 1 f fd ["value"] F_is_integer :=
  fn_defQ (k := 0) (b := B_is_integer) Fx sc_is_integer (fun cdv A outer s H E c =>
    dss_one (ds_ret (de_and (de_callB call_isiA isi_D (da_cons (de_var 0) (da_cons (de_ty (by rfl) T.n_int (by decide +kernel)) (da_nil))) (by rfl) T.n_isinstance (by decide +kernel)) (de_one (de_not (de_callB call_isiA isi_D (da_cons (de_var 0) (da_cons (de_ty (by rfl) T.n_bool (by decide +kernel)) (da_nil))) (by rfl) T.n_isinstance (by decide +kernel)))))))
theorem ok_is_within (T : Top w K mg) (h_is_integer : FnAt P w K mg base 1 s_is_integer "is_integer" ["value"] F_is_integer) {f : Addr} {fd : FuncData} (Fx : Fun K "is_within" "is_within" s_is_within f fd) : FnG P w K mg base 2 f fd ["value", "least", "most"] F_is_within :=
  fn_defQ (k := 1) (b := B_is_within) Fx sc_is_within (fun cdv A outer s H E c =>
    dss_cons (ds_if (dt_not (dt_val (de_call h_is_integer c.hr c.hG c.tk (da_cons (de_var 0) (da_nil)) (by rfl))))
    (dss_one (ds_ret (de_bl)))
    (dss_nil))
    (dss_one (ds_ret (de_and (de_or (de_cmp op_isN op_isND (de_var 1) (de_non)) (de_one (de_cmp op_le op_leD (de_var 1) (de_var 0)))) (de_one (de_or (de_cmp op_isN op_isND (de_var 2) (de_non)) (de_one (de_cmp op_le op_leD (de_var 0) (de_var 2)))))))))
theorem ok_is_list (T : Top w K mg)  {f : Addr} {fd : FuncData} (Fx : Fun K "is_list" "is_list" s_is_list f fd) : FnG P w K mg base 1 f fd ["value", "least", "most"] F_is_list :=
  fn_defQ (k := 0) (b := B_is_list) Fx sc_is_list (fun cdv A outer s H E c =>
    dss_cons (ds_if (dt_not (dt_val (de_callB call_isiA isi_D (da_cons (de_var 0) (da_cons (de_tup (da_cons (de_ty (by rfl) T.n_list (by decide +kernel)) (da_cons (de_ty (by rfl) T.n_tuple (by decide +kernel)) (da_nil)))) (da_nil))) (by rfl) T.n_isinstance (by decide +kernel))))
    (dss_one (ds_ret (de_bl)))
    (dss_nil))
    (dss_one (ds_ret (de_and (de_or (de_cmp op_isN op_isND (de_var 1) (de_non)) (de_one (de_cmp op_le op_leD (de_var 1) (de_callB call_len len_D (da_cons (de_var 0) (da_nil)) (by rfl) T.n_len (by decide +kernel))))) (de_one (de_or (de_cmp op_isN op_isND (de_var 2) (de_non)) (de_one (de_cmp op_le op_leD (de_callB call_len len_D (da_cons (de_var 0) (da_nil)) (by rfl) T.n_len (by decide +kernel)) (de_var 2)))))))))
theorem ok_parts_of (T : Top w K mg)  {f : Addr} {fd : FuncData} (Fx : Fun K "parts_of" "parts_of" s_parts_of f fd) : FnG P w K mg base 1 f fd ["number"] F_parts_of :=
  fn_defQ (k := 0) (b := B_parts_of) Fx sc_parts_of (fun cdv A outer s H E c =>
    dss_cons (ds_if (dt_val (de_callB call_isiA isi_D (da_cons (de_var 0) (da_cons (de_ty (by rfl) T.n_int (by decide +kernel)) (da_nil))) (by rfl) T.n_isinstance (by decide +kernel)))
    (dss_one (ds_ret (de_tup (da_cons (de_var 0) (da_cons (de_int) (da_nil))))))
    (dss_nil))
    (dss_cons (ds_asg (de_var 0) (dg_tup rfl (dgs_cons (dg_name 1 sc_parts_of.nd) (dgs_cons (dg_name 2 sc_parts_of.nd) (dgs_nil)))))
    (dss_one (ds_ret (de_tup (da_cons (de_var 1) (da_cons (de_var 2) (da_nil))))))))
theorem ok_made (T : Top w K mg)  {f : Addr} {fd : FuncData} (Fx : Fun K "made" "made" s_made f fd) : FnG P w K mg base 1 f fd ["above", "under"] F_made :=
  fn_defQ (k := 0) (b := B_made) Fx sc_made (fun cdv A outer s H E c =>
    dss_cons (ds_set 2 sc_made.nd (de_callF cr_gcd gcd_D (da_cons (de_var 0) (da_cons (de_var 1) (da_nil))) (by rfl) T.n_gcd))
    (dss_cons (ds_if (dt_cmp op_lt op_ltD (de_var 1) (de_int))
    (dss_one (ds_set 2 sc_made.nd (de_un un_neg un_negD (de_var 2))))
    (dss_nil))
    (dss_cons (ds_if (dt_cmp (op_eqA c.hu) op_eqDD (de_var 2) (de_var 1))
    (dss_one (ds_ret (de_op op_fdivW op_fdivD (de_var 0) (de_var 2))))
    (dss_nil))
    (dss_one (ds_ret (de_tup (da_cons (de_op op_fdivW op_fdivD (de_var 0) (de_var 2)) (da_cons (de_op op_fdivW op_fdivD (de_var 1) (de_var 2)) (da_nil)))))))))
theorem ok_is_less (T : Top w K mg) (h_parts_of : FnAt P w K mg base 1 s_parts_of "parts_of" ["number"] F_parts_of) {f : Addr} {fd : FuncData} (Fx : Fun K "is_less" "is_less" s_is_less f fd) : FnG P w K mg base 2 f fd ["one", "other"] F_is_less :=
  fn_defQ (k := 1) (b := B_is_less) Fx sc_is_less (fun cdv A outer s H E c =>
    dss_cons (ds_asg (de_call h_parts_of c.hr c.hG c.tk (da_cons (de_var 0) (da_nil)) (by rfl)) (dg_tup rfl (dgs_cons (dg_name 2 sc_is_less.nd) (dgs_cons (dg_name 3 sc_is_less.nd) (dgs_nil)))))
    (dss_cons (ds_asg (de_call h_parts_of c.hr c.hG c.tk (da_cons (de_var 1) (da_nil)) (by rfl)) (dg_tup rfl (dgs_cons (dg_name 4 sc_is_less.nd) (dgs_cons (dg_name 5 sc_is_less.nd) (dgs_nil)))))
    (dss_one (ds_ret (de_cmp op_lt op_ltD (de_op or_mulA op_mulD (de_var 2) (de_var 5)) (de_op or_mulA op_mulD (de_var 4) (de_var 3)))))))
theorem ok_common_under (T : Top w K mg) (h_parts_of : FnAt P w K mg base 1 s_parts_of "parts_of" ["number"] F_parts_of) {f : Addr} {fd : FuncData} (Fx : Fun K "common_under" "common_under" s_common_under f fd) : FnG P w K mg base 2 f fd ["numbers"] F_common_under :=
  fn_defQ (k := 1) (b := B_common_under) Fx sc_common_under (fun cdv A outer s H E c =>
    dss_cons (ds_set 1 sc_common_under.nd (de_int))
    (dss_cons (ds_for c.po c.calm (di_seq (de_var 0)) (dg_name 2 sc_common_under.nd)
    (dss_one (ds_set 1 sc_common_under.nd (de_callF cr_lcm lcm_D (da_cons (de_var 1) (da_cons (de_ix (de_call h_parts_of c.hr c.hG c.tk (da_cons (de_var 2) (da_nil)) (by rfl)) (de_int)) (da_nil))) (by rfl) T.n_lcm))))
    (dss_one (ds_ret (de_var 1)))))
theorem ok_is_number (T : Top w K mg) (h_is_integer : FnAt P w K mg base 2 s_is_integer "is_integer" ["value"] F_is_integer) (h_is_list : FnAt P w K mg base 2 s_is_list "is_list" ["value", "least", "most"] F_is_list) (h_is_within : FnAt P w K mg base 2 s_is_within "is_within" ["value", "least", "most"] F_is_within) {f : Addr} {fd : FuncData} (Fx : Fun K "is_number" "is_number" s_is_number f fd) : FnG P w K mg base 3 f fd ["value"] F_is_number :=
  fn_defQ (k := 2) (b := B_is_number) Fx sc_is_number (fun cdv A outer s H E c =>
    dss_cons (ds_if (dt_val (de_call h_is_integer c.hr c.hG c.tk (da_cons (de_var 0) (da_nil)) (by rfl)))
    (dss_one (ds_ret (de_bl)))
    (dss_nil))
    (dss_cons (ds_if (dt_not (dt_val (de_call h_is_list c.hr c.hG c.tk (da_cons (de_var 0) (da_cons (de_int) (da_cons (de_int) (da_nil)))) (by rfl))))
    (dss_one (ds_ret (de_bl)))
    (dss_nil))
    (dss_cons (ds_asg (de_var 0) (dg_tup rfl (dgs_cons (dg_name 1 sc_is_number.nd) (dgs_cons (dg_name 2 sc_is_number.nd) (dgs_nil)))))
    (dss_one (ds_ret (de_and (de_call h_is_integer c.hr c.hG c.tk (da_cons (de_var 1) (da_nil)) (by rfl)) (de_and (de_call h_is_within c.hr c.hG c.tk (da_cons (de_var 2) (da_cons (de_int) (da_cons (de_non) (da_nil)))) (by rfl)) (de_one (de_cmp (op_eqA c.hu) op_eqDD (de_callF cr_gcd gcd_D (da_cons (de_var 1) (da_cons (de_var 2) (da_nil))) (by rfl) T.n_gcd) (de_int))))))))))
theorem ok_want_within (T : Top w K mg) (h_is_within : FnAt P w K mg base 2 s_is_within "is_within" ["value", "least", "most"] F_is_within) (er_BadNumber : ErAt P w K mg base 1 "BadNumber" ["part"]) {f : Addr} {fd : FuncData} (Fx : Fun K "want_within" "want_within" s_want_within f fd) : FnG P w K mg base 3 f fd ["value", "least", "most", "part"] F_want_within :=
  fn_defQ (k := 2) (b := B_want_within) Fx sc_want_within (fun cdv A outer s H E c =>
    dss_one (ds_if (dt_not (dt_val (de_call h_is_within c.hr c.hG c.tk (da_cons (de_var 0) (da_cons (de_var 1) (da_cons (de_var 2) (da_nil)))) (by rfl))))
    (dss_one (ds_raise er_BadNumber c.hr c.calm c.tk (by decide) (da_cons (de_var 3) (da_nil)) (by rfl)))
    (dss_nil)))
theorem ok_want_integer (T : Top w K mg) (h_want_within : FnAt P w K mg base 3 s_want_within "want_within" ["value", "least", "most", "part"] F_want_within) {f : Addr} {fd : FuncData} (Fx : Fun K "want_integer" "want_integer" s_want_integer f fd) : FnG P w K mg base 4 f fd ["value", "part"] F_want_integer :=
  fn_defQ (k := 3) (b := B_want_integer) Fx sc_want_integer (fun cdv A outer s H E c =>
    dss_one (ds_expr (de_call h_want_within c.hr c.hG c.tk (da_cons (de_var 0) (da_cons (de_non) (da_cons (de_non) (da_cons (de_var 1) (da_nil))))) (by rfl))))
theorem ok_is_point (T : Top w K mg) (h_is_list : FnAt P w K mg base 3 s_is_list "is_list" ["value", "least", "most"] F_is_list) (h_is_number : FnAt P w K mg base 3 s_is_number "is_number" ["value"] F_is_number) {f : Addr} {fd : FuncData} (Fx : Fun K "is_point" "is_point" s_is_point f fd) : FnG P w K mg base 4 f fd ["value", "least", "most"] F_is_point :=
  fn_defQ (k := 3) (b := B_is_point) Fx sc_is_point (fun cdv A outer s H E c =>
    dss_one (ds_ret (de_and (de_call h_is_list c.hr c.hG c.tk (da_cons (de_var 0) (da_cons (de_var 1) (da_cons (de_var 2) (da_nil)))) (by rfl)) (de_one (de_callB (cr_all c.calm) all_D (da_cons (de_lc (own := [("item", 3)]) c.calm sc_is_point.nd (di_seq (de_var 0)) (blkOk_by (N := ["value", "least", "most", "item"]) (sc := defScope s_is_point) (by decide +kernel)) (by decide) (fun s1 H1 C1 cl1 fp1 => dg_name 3 sc_is_point.nd) (fun s1 H1 C1 cl1 fp1 => dts_nil) (fun s1 H1 C1 cl1 fp1 => de_call h_is_number (c.blk s1 H1 _ _ fp1).hr (c.blk s1 H1 _ _ fp1).hG (c.blk s1 H1 _ _ fp1).tk (da_cons (de_var 3) (da_nil)) (by rfl))) (da_nil)) (by rfl) T.n_all (by decide +kernel))))))
theorem ok_want_free_point (T : Top w K mg) (h_is_point : FnAt P w K mg base 4 s_is_point "is_point" ["value", "least", "most"] F_is_point) (er_BadPoint : ErAt P w K mg base 3 "BadPoint" ["part"]) {f : Addr} {fd : FuncData} (Fx : Fun K "want_free_point" "want_free_point" s_want_free_point f fd) : FnG P w K mg base 5 f fd ["point"] F_want_free_point :=
  fn_defQ (k := 4) (b := B_want_free_point) Fx sc_want_free_point (fun cdv A outer s H E c =>
    dss_one (ds_if (dt_not (dt_val (de_call h_is_point c.hr c.hG c.tk (da_cons (de_var 0) (da_cons (de_int) (da_cons (de_int) (da_nil)))) (by rfl))))
    (dss_one (ds_raise er_BadPoint c.hr c.calm c.tk (by decide) (da_cons (de_str) (da_nil)) (by rfl)))
    (dss_nil)))
theorem ok_wholes_of (T : Top w K mg) (h_parts_of : FnAt P w K mg base 1 s_parts_of "parts_of" ["number"] F_parts_of) {f : Addr} {fd : FuncData} (Fx : Fun K "wholes_of" "wholes_of" s_wholes_of f fd) : FnG P w K mg base 2 f fd ["number", "first", "many"] F_wholes_of :=
  fn_defQ (k := 1) (b := B_wholes_of) Fx sc_wholes_of (fun cdv A outer s H E c =>
    dss_cons (ds_asg (de_call h_parts_of c.hr c.hG c.tk (da_cons (de_var 0) (da_nil)) (by rfl)) (dg_tup rfl (dgs_cons (dg_name 3 sc_wholes_of.nd) (dgs_cons (dg_name 4 sc_wholes_of.nd) (dgs_nil)))))
    (dss_one (ds_ret (de_lc (own := [("place", 5)]) c.calm sc_wholes_of.nd (di_rng2w (da_cons (de_var 1) (da_cons (de_op or_addA op_addD (de_var 1) (de_var 2)) (da_nil))) (by rfl) T.n_range) (blkOk_by (N := ["number", "first", "many", "above", "under", "place"]) (sc := defScope s_wholes_of) (by decide +kernel)) (by decide) (fun s1 H1 C1 cl1 fp1 => dg_name 5 sc_wholes_of.nd) (fun s1 H1 C1 cl1 fp1 => dts_nil) (fun s1 H1 C1 cl1 fp1 => de_op op_fdivW op_fdivD (de_op or_mulA op_mulD (de_var 5) (de_var 3)) (de_var 4))))))
theorem ok_labels_at (T : Top w K mg) (h_wholes_of : FnAt P w K mg base 2 s_wholes_of "wholes_of" ["number", "first", "many"] F_wholes_of) {f : Addr} {fd : FuncData} (Fx : Fun K "labels_at" "labels_at" s_labels_at f fd) : FnG P w K mg base 3 f fd ["number", "first", "many"] F_labels_at :=
  fn_defQ (k := 2) (b := B_labels_at) Fx sc_labels_at (fun cdv A outer s H E c =>
    dss_cons (ds_set 3 sc_labels_at.nd (de_call h_wholes_of c.hr c.hG c.tk (da_cons (de_var 0) (da_cons (de_op op_sub op_subD (de_var 1) (de_int)) (da_cons (de_op or_addA op_addD (de_var 2) (de_int)) (da_nil)))) (by rfl)))
    (dss_one (ds_ret (de_lc (own := [("before", 4), ("whole", 5)]) c.calm sc_labels_at.nd (di_zipA (da_cons (de_var 3) (da_cons (de_slice (de_var 3) (dp_so (de_int)) dp_no) (da_nil))) (by rfl) T.n_zip) (blkOk_by (N := ["number", "first", "many", "wholes", "before", "whole"]) (sc := defScope s_labels_at) (by decide +kernel)) (by decide) (fun s1 H1 C1 cl1 fp1 => dg_tup rfl (dgs_cons (dg_name 4 sc_labels_at.nd) (dgs_cons (dg_name 5 sc_labels_at.nd) (dgs_nil)))) (fun s1 H1 C1 cl1 fp1 => dts_nil) (fun s1 H1 C1 cl1 fp1 => de_op op_sub op_subD (de_var 5) (de_var 4))))))
theorem ok_label_sum (T : Top w K mg) (h_parts_of : FnAt P w K mg base 1 s_parts_of "parts_of" ["number"] F_parts_of) {f : Addr} {fd : FuncData} (Fx : Fun K "label_sum" "label_sum" s_label_sum f fd) : FnG P w K mg base 2 f fd ["number", "first", "many"] F_label_sum :=
  fn_defQ (k := 1) (b := B_label_sum) Fx sc_label_sum (fun cdv A outer s H E c =>
    dss_cons (ds_asg (de_call h_parts_of c.hr c.hG c.tk (da_cons (de_var 0) (da_nil)) (by rfl)) (dg_tup rfl (dgs_cons (dg_name 3 sc_label_sum.nd) (dgs_cons (dg_name 4 sc_label_sum.nd) (dgs_nil)))))
    (dss_one (ds_ret (de_op op_sub op_subD (de_op op_fdivW op_fdivD (de_op or_mulA op_mulD (de_op op_sub op_subD (de_op or_addA op_addD (de_var 1) (de_var 2)) (de_int)) (de_var 3)) (de_var 4)) (de_op op_fdivW op_fdivD (de_op or_mulA op_mulD (de_op op_sub op_subD (de_var 1) (de_int)) (de_var 3)) (de_var 4))))))
theorem ok_label_at (T : Top w K mg) (h_want_free_point : FnAt P w K mg base 5 s_want_free_point "want_free_point" ["point"] F_want_free_point) (h_want_integer : FnAt P w K mg base 5 s_want_integer "want_integer" ["value", "part"] F_want_integer) (h_label_sum : FnAt P w K mg base 5 s_label_sum "label_sum" ["number", "first", "many"] F_label_sum) {f : Addr} {fd : FuncData} (Fx : Fun K "label_at" "label_at" s_label_at f fd) : FnG P w K mg base 6 f fd ["point", "place"] F_label_at :=
  fn_defQ (k := 5) (b := B_label_at) Fx sc_label_at (fun cdv A outer s H E c =>
    dss_cons (ds_expr (de_call h_want_free_point c.hr c.hG c.tk (da_cons (de_var 0) (da_nil)) (by rfl)))
    (dss_cons (ds_expr (de_call h_want_integer c.hr c.hG c.tk (da_cons (de_var 1) (da_cons (de_str) (da_nil))) (by rfl)))
    (dss_one (ds_ret (de_callT call_tuple_of tuple_D (da_cons (de_lc (own := [("number", 2)]) c.calm sc_label_at.nd (di_seq (de_var 0)) (blkOk_by (N := ["point", "place", "number"]) (sc := defScope s_label_at) (by decide +kernel)) (by decide) (fun s1 H1 C1 cl1 fp1 => dg_name 2 sc_label_at.nd) (fun s1 H1 C1 cl1 fp1 => dts_nil) (fun s1 H1 C1 cl1 fp1 => de_call h_label_sum (c.blk s1 H1 _ _ fp1).hr (c.blk s1 H1 _ _ fp1).hG (c.blk s1 H1 _ _ fp1).tk (da_cons (de_var 2) (da_cons (de_var 1) (da_cons (de_int) (da_nil)))) (by rfl))) (da_nil)) (by rfl) T.n_tuple (by decide +kernel))))))
theorem ok_labels_of (T : Top w K mg) (h_want_free_point : FnAt P w K mg base 5 s_want_free_point "want_free_point" ["point"] F_want_free_point) (h_want_integer : FnAt P w K mg base 5 s_want_integer "want_integer" ["value", "part"] F_want_integer) (h_want_within : FnAt P w K mg base 5 s_want_within "want_within" ["value", "least", "most", "part"] F_want_within) (h_labels_at : FnAt P w K mg base 5 s_labels_at "labels_at" ["number", "first", "many"] F_labels_at) {f : Addr} {fd : FuncData} (Fx : Fun K "labels_of" "labels_of" s_labels_of f fd) : FnG P w K mg base 6 f fd ["point", "first", "many"] F_labels_of :=
  fn_defQ (k := 5) (b := B_labels_of) Fx sc_labels_of (fun cdv A outer s H E c =>
    dss_cons (ds_expr (de_call h_want_free_point c.hr c.hG c.tk (da_cons (de_var 0) (da_nil)) (by rfl)))
    (dss_cons (ds_expr (de_call h_want_integer c.hr c.hG c.tk (da_cons (de_var 1) (da_cons (de_str) (da_nil))) (by rfl)))
    (dss_cons (ds_expr (de_call h_want_within c.hr c.hG c.tk (da_cons (de_var 2) (da_cons (de_int) (da_cons (de_kint (by rfl) T.v_MOST_LABELS) (da_cons (de_str) (da_nil))))) (by rfl)))
    (dss_cons (ds_setLc 3 (own := [("number", 4)]) c.calm sc_labels_of.nd (di_seq (de_var 0)) (blkOk_by (N := ["point", "first", "many", "rows", "number"]) (sc := defScope s_labels_of) (by decide +kernel)) (by decide) (fun s1 H1 C1 cl1 fp1 => dg_name 4 sc_labels_of.nd) (fun s1 H1 C1 cl1 fp1 => dts_nil) (fun s1 H1 C1 cl1 fp1 => de_call h_labels_at (c.blk s1 H1 _ _ fp1).hr (c.blk s1 H1 _ _ fp1).hG (c.blk s1 H1 _ _ fp1).tk (da_cons (de_var 4) (da_cons (de_var 1) (da_cons (de_var 2) (da_nil)))) (by rfl)) (sw_true rfl rfl rfl (by decide +kernel)))
    (dss_one (ds_ret (de_tupZip c.calm (de_var 3) (by rfl) T.n_tuple (by rfl) T.n_zip)))))))
theorem ok_sum_of (T : Top w K mg) (h_want_free_point : FnAt P w K mg base 5 s_want_free_point "want_free_point" ["point"] F_want_free_point) (h_want_integer : FnAt P w K mg base 5 s_want_integer "want_integer" ["value", "part"] F_want_integer) (h_want_within : FnAt P w K mg base 5 s_want_within "want_within" ["value", "least", "most", "part"] F_want_within) (h_label_sum : FnAt P w K mg base 5 s_label_sum "label_sum" ["number", "first", "many"] F_label_sum) {f : Addr} {fd : FuncData} (Fx : Fun K "sum_of" "sum_of" s_sum_of f fd) : FnG P w K mg base 6 f fd ["point", "first", "many"] F_sum_of :=
  fn_defQ (k := 5) (b := B_sum_of) Fx sc_sum_of (fun cdv A outer s H E c =>
    dss_cons (ds_expr (de_call h_want_free_point c.hr c.hG c.tk (da_cons (de_var 0) (da_nil)) (by rfl)))
    (dss_cons (ds_expr (de_call h_want_integer c.hr c.hG c.tk (da_cons (de_var 1) (da_cons (de_str) (da_nil))) (by rfl)))
    (dss_cons (ds_expr (de_call h_want_within c.hr c.hG c.tk (da_cons (de_var 2) (da_cons (de_int) (da_cons (de_non) (da_cons (de_str) (da_nil))))) (by rfl)))
    (dss_one (ds_ret (de_callT call_tuple_of tuple_D (da_cons (de_lc (own := [("number", 3)]) c.calm sc_sum_of.nd (di_seq (de_var 0)) (blkOk_by (N := ["point", "first", "many", "number"]) (sc := defScope s_sum_of) (by decide +kernel)) (by decide) (fun s1 H1 C1 cl1 fp1 => dg_name 3 sc_sum_of.nd) (fun s1 H1 C1 cl1 fp1 => dts_nil) (fun s1 H1 C1 cl1 fp1 => de_call h_label_sum (c.blk s1 H1 _ _ fp1).hr (c.blk s1 H1 _ _ fp1).hG (c.blk s1 H1 _ _ fp1).tk (da_cons (de_var 3) (da_cons (de_var 1) (da_cons (de_var 2) (da_nil)))) (by rfl))) (da_nil)) (by rfl) T.n_tuple (by decide +kernel)))))))
theorem ok_comes_again (T : Top w K mg) (h_want_free_point : FnAt P w K mg base 5 s_want_free_point "want_free_point" ["point"] F_want_free_point) (h_common_under : FnAt P w K mg base 5 s_common_under "common_under" ["numbers"] F_common_under) {f : Addr} {fd : FuncData} (Fx : Fun K "comes_again" "comes_again" s_comes_again f fd) : FnG P w K mg base 6 f fd ["point"] F_comes_again :=
  fn_defQ (k := 5) (b := B_comes_again) Fx sc_comes_again (fun cdv A outer s H E c =>
    dss_cons (ds_expr (de_call h_want_free_point c.hr c.hG c.tk (da_cons (de_var 0) (da_nil)) (by rfl)))
    (dss_one (ds_ret (de_call h_common_under c.hr c.hG c.tk (da_cons (de_var 0) (da_nil)) (by rfl)))))
theorem ok_told_back (T : Top w K mg) (h_is_list : FnAt P w K mg base 2 s_is_list "is_list" ["value", "least", "most"] F_is_list) (h_is_integer : FnAt P w K mg base 2 s_is_integer "is_integer" ["value"] F_is_integer) (h_is_less : FnAt P w K mg base 2 s_is_less "is_less" ["one", "other"] F_is_less) (h_made : FnAt P w K mg base 2 s_made "made" ["above", "under"] F_made) (er_BadNumber : ErAt P w K mg base 1 "BadNumber" ["part"]) {f : Addr} {fd : FuncData} (Fx : Fun K "told_back" "told_back" s_told_back f fd) : FnG P w K mg base 3 f fd ["labels"] F_told_back :=
  fn_defQ (k := 2) (b := B_told_back) Fx sc_told_back (fun cdv A outer s H E c =>
    dss_cons (ds_if (dw_t (dw_or (dt_not (dt_val (de_call h_is_list c.hr c.hG c.tk (da_cons (de_var 0) (da_cons (de_int) (da_cons (de_kint (by rfl) T.v_MOST_LABELS) (da_nil)))) (by rfl)))) (dw_or1 (dt_not (dt_val (de_callB (cr_all c.calm) all_D (da_cons (de_lc (own := [("label", 1)]) c.calm sc_told_back.nd (di_seq (de_var 0)) (blkOk_by (N := ["labels", "label", "total", "low", "high", "many"]) (sc := defScope s_told_back) (by decide +kernel)) (by decide) (fun s1 H1 C1 cl1 fp1 => dg_name 1 sc_told_back.nd) (fun s1 H1 C1 cl1 fp1 => dts_nil) (fun s1 H1 C1 cl1 fp1 => de_call h_is_integer (c.blk s1 H1 _ _ fp1).hr (c.blk s1 H1 _ _ fp1).hG (c.blk s1 H1 _ _ fp1).tk (da_cons (de_var 1) (da_nil)) (by rfl))) (da_nil)) (by rfl) T.n_all (by decide +kernel)))))))
    (dss_one (ds_raise er_BadNumber c.hr c.calm c.tk (by decide) (da_cons (de_str) (da_nil)) (by rfl)))
    (dss_nil))
    (dss_cons (ds_set 2 sc_told_back.nd (de_int))
    (dss_cons (ds_asg2 (de_non) (dg_name 3 sc_told_back.nd) (dg_name 4 sc_told_back.nd))
    (dss_cons (ds_for c.po c.calm (di_enuS (da_cons (de_var 0) (da_nil)) (dk_cons (de_int) dk_nil) (by rfl) T.n_enumerate) (dg_tup rfl (dgs_cons (dg_name 5 sc_told_back.nd) (dgs_cons (dg_name 1 sc_told_back.nd) (dgs_nil))))
    (dss_cons (ds_set 2 sc_told_back.nd (de_op or_addA op_addD (de_var 2) (de_var 1)))
    (dss_cons (ds_if (dw_t (dw_or (dt_cmp op_isN op_isND (de_var 3) (de_non)) (dw_or1 (dt_val (de_call h_is_less c.hr c.hG c.tk (da_cons (de_var 3) (da_cons (de_tup (da_cons (de_var 2) (da_cons (de_var 5) (da_nil)))) (da_nil))) (by rfl))))))
    (dss_one (ds_set 3 sc_told_back.nd (de_tup (da_cons (de_var 2) (da_cons (de_var 5) (da_nil))))))
    (dss_nil))
    (dss_one (ds_if (dw_t (dw_or (dt_cmp op_isN op_isND (de_var 4) (de_non)) (dw_or1 (dt_val (de_call h_is_less c.hr c.hG c.tk (da_cons (de_tup (da_cons (de_op or_addA op_addD (de_var 2) (de_int)) (da_cons (de_var 5) (da_nil)))) (da_cons (de_var 4) (da_nil))) (by rfl))))))
    (dss_one (ds_set 4 sc_told_back.nd (de_tup (da_cons (de_op or_addA op_addD (de_var 2) (de_int)) (da_cons (de_var 5) (da_nil))))))
    (dss_nil))))))
    (dss_cons (ds_if (dt_not (dt_val (de_call h_is_less c.hr c.hG c.tk (da_cons (de_var 3) (da_cons (de_var 4) (da_nil))) (by rfl))))
    (dss_one (ds_ret (de_non)))
    (dss_nil))
    (dss_one (ds_ret (de_tup (da_cons (de_call h_made c.hr c.hG c.tk (da_cons (de_ix (de_var 3) (de_int)) (da_cons (de_ix (de_var 3) (de_int)) (da_nil))) (by rfl)) (da_cons (de_call h_made c.hr c.hG c.tk (da_cons (de_ix (de_var 4) (de_int)) (da_cons (de_ix (de_var 4) (de_int)) (da_nil))) (by rfl)) (da_nil)))))))))))
theorem ok__law_gate (T : Top w K mg)  {f : Addr} {fd : FuncData} (Fx : Fun K "_law_gate" "_law_gate" s__law_gate f fd) : FnG P w K mg base 1 f fd ["script"] F__law_gate :=
  fn_defQ (k := 0) (b := B__law_gate) Fx sc__law_gate (fun cdv A outer s H E c =>
    dss_one (ds_ret (de_lstM (da_cons (de_lc (own := [("cell", 1)]) c.calm sc__law_gate.nd (di_seq (de_slice (de_var 0) dp_no (dp_so (de_int)))) (blkOk_by (N := ["script", "cell"]) (sc := defScope s__law_gate) (by decide +kernel)) (by decide) (fun s1 H1 C1 cl1 fp1 => dg_name 1 sc__law_gate.nd) (fun s1 H1 C1 cl1 fp1 => dts_nil) (fun s1 H1 C1 cl1 fp1 => de_callT call_int1 int_D (da_cons (de_var 1) (da_nil)) (by rfl) T.n_int (by decide +kernel))) (da_cons (de_int) (da_cons (de_int) (da_nil)))))))
theorem ok__law_knock (T : Top w K mg)  {f : Addr} {fd : FuncData} (Fx : Fun K "_law_knock" "_law_knock" s__law_knock f fd) : FnG P w K mg base 1 f fd ["gate", "many"] F__law_knock :=
  fn_defQ (k := 0) (b := B__law_knock) Fx sc__law_knock (fun cdv A outer s H E c =>
    dss_cons (ds_if (dt_cmp op_gt op_gtD (de_ix (de_var 0) (de_int)) (de_int))
    (dss_cons (ds_set 2 sc__law_knock.nd (de_callT call_int1 int_D (da_cons (de_ix (de_var 0) (de_int)) (da_nil)) (by rfl) T.n_int (by decide +kernel)))
    (dss_cons (ds_sub (de_op op_fdivW op_fdivD (de_var 2) (de_var 1)) (de_var 0) (de_int))
    (dss_one (ds_ret (de_op op_mod op_modD (de_callT call_int1 int_D (da_cons (de_var 2) (da_nil)) (by rfl) T.n_int (by decide +kernel)) (de_var 1))))))
    (dss_nil))
    (dss_cons (ds_set 3 sc__law_knock.nd (de_ix (de_var 0) (de_int)))
    (dss_cons (ds_sub (de_op or_addA op_addD (de_var 3) (de_int)) (de_var 0) (de_int))
    (dss_cons (ds_set 4 sc__law_knock.nd (de_op or_addA op_addD (de_op or_mulA op_mulD (de_int) (de_var 3)) (de_int)))
    (dss_cons (ds_if (dt_cmp (op_neA c.hu) op_neDD (de_ix (de_var 0) (de_int)) (de_lst (da_nil)))
    (dss_one (ds_set 4 sc__law_knock.nd (de_ix (de_ix (de_var 0) (de_int)) (de_op op_mod op_modD (de_callT call_int1 int_D (da_cons (de_var 3) (da_nil)) (by rfl) T.n_int (by decide +kernel)) (de_callB call_len len_D (da_cons (de_ix (de_var 0) (de_int)) (da_nil)) (by rfl) T.n_len (by decide +kernel))))))
    (dss_nil))
    (dss_cons (ds_if (dw_t (dw_and (dt_cmp op_lt op_ltD (de_var 3) (de_callB call_len len_D (da_cons (de_ix (de_var 0) (de_int)) (da_nil)) (by rfl) T.n_len (by decide +kernel))) (dw_and1 (dt_cmp op_ge op_geD (de_callB call_abs abs_D (da_cons (de_var 4) (da_nil)) (by rfl) T.n_abs (by decide +kernel)) (de_eq (dpow_lit (by decide)) (de_op op_pow op_powD de_int de_int))))))
    (dss_cons (ds_set 2 sc__law_knock.nd (de_op or_addA op_addD (de_op or_mulA op_mulD (de_int) (de_op op_sub op_subD (de_callB call_abs abs_D (da_cons (de_var 4) (da_nil)) (by rfl) T.n_abs (by decide +kernel)) (de_eq (dpow_lit (by decide)) (de_op op_pow op_powD de_int de_int)))) (de_callT call_int1 int_D (da_cons (de_cmp op_lt op_ltD (de_var 4) (de_int)) (da_nil)) (by rfl) T.n_int (by decide +kernel))))
    (dss_cons (ds_sub (de_op op_fdivW op_fdivD (de_var 2) (de_var 1)) (de_var 0) (de_int))
    (dss_one (ds_ret (de_op op_mod op_modD (de_callT call_int1 int_D (da_cons (de_var 2) (da_nil)) (by rfl) T.n_int (by decide +kernel)) (de_var 1))))))
    (dss_nil))
    (dss_cons (ds_set 5 sc__law_knock.nd (de_op op_mod op_modD (de_callT call_int1 int_D (da_cons (de_op op_pow op_powD (de_op or_addA op_addD (de_op or_addA op_addD (de_op op_mod op_modD (de_callT call_int1 int_D (da_cons (de_var 4) (da_nil)) (by rfl) T.n_int (by decide +kernel)) (de_int)) (de_op or_mulA op_mulD (de_int) (de_var 3))) (de_int)) (de_int)) (da_nil)) (by rfl) T.n_int (by decide +kernel)) (de_int)))
    (dss_cons (ds_set 5 sc__law_knock.nd (de_op op_mod op_modD (de_callT call_int1 int_D (da_cons (de_op op_pow op_powD (de_op or_addA op_addD (de_op or_addA op_addD (de_op or_mulA op_mulD (de_var 5) (de_op or_addA op_addD (de_op or_mulA op_mulD (de_int) (de_var 3)) (de_int))) (de_op or_mulA op_mulD (de_op or_mulA op_mulD (de_int) (de_var 3)) (de_var 3))) (de_int)) (de_int)) (da_nil)) (by rfl) T.n_int (by decide +kernel)) (de_int)))
    (dss_one (ds_ret (de_op op_mod op_modD (de_callT call_int1 int_D (da_cons (de_op op_fdivW op_fdivD (de_var 5) (de_int)) (da_nil)) (by rfl) T.n_int (by decide +kernel)) (de_var 1))))))))))))
theorem ok__law_one (T : Top w K mg) (h__law_knock : FnAt P w K mg base 1 s__law_knock "_law_knock" ["gate", "many"] F__law_knock) {f : Addr} {fd : FuncData} (Fx : Fun K "_law_one" "_law_one" s__law_one f fd) : FnG P w K mg base 2 f fd ["gate", "some"] F__law_one :=
  fn_defQ (k := 1) (b := B__law_one) Fx sc__law_one (fun cdv A outer s H E c =>
    dss_one (ds_ret (de_ix (de_var 1) (de_call h__law_knock c.hr c.hG c.tk (da_cons (de_var 0) (da_cons (de_callB call_len len_D (da_cons (de_var 1) (da_nil)) (by rfl) T.n_len (by decide +kernel)) (da_nil))) (by rfl)))))
theorem hd__law_heard (T : Top w K mg) {f : Addr} {fd : FuncData} (hm : mg "_law_heard" = some (.ref f)) (Fx : Fun K "_law_heard" "_law_heard" s__law_heard f fd) (hb : Binds K fd ["ask"] []) : HdAt P w K mg base 1 "_law_heard" ["ask", "caught", "error"] (defScope s__law_heard) "ask" H__law_heard :=
  hd_def (k := 0) (i := 1) hm Fx hb sc__law_heard T.ex rfl rfl (by decide) rfl (Or.inl rfl) rfl (fun cdv A outer s H E => (cl_named T.c_TileError (fun _ _ => dss_one (ds_set 1 sc__law_heard.nd (de_var 2))) (cl_nil))) (fun cdv A outer s H E c =>
    dss_cons (ds_if (dt_val (de_callB call_isiZ (isiC_D T.kt) (da_cons (de_var 1) (da_cons (de_tup (da_cons (de_cls (by rfl) T.c_BadNumber) (da_cons (de_cls (by rfl) T.c_BadPoint) (da_nil)))) (da_nil))) (by rfl) T.n_isinstance (by decide +kernel)))
    (dss_one (ds_ret (de_tup (da_cons (de_if (dt_val (de_callB call_isiZ (isiC_D T.kt) (da_cons (de_var 1) (da_cons (de_cls (by rfl) T.c_BadNumber) (da_nil))) (by rfl) T.n_isinstance (by decide +kernel))) (de_str) (de_str)) (da_cons (de_fld T.kt (de_var 1)) (da_nil))))))
    (dss_nil))
    (dss_one (ds_ret (de_if (dt_cmp op_isN op_isND (de_var 1) (de_non)) (de_non) (de_tup (da_cons (de_str) (da_cons (de_str) (da_nil))))))))
theorem ok__law_point (T : Top w K mg) (h__law_one : FnAt P w K mg base 2 s__law_one "_law_one" ["gate", "some"] F__law_one) {f : Addr} {fd : FuncData} (Fx : Fun K "_law_point" "_law_point" s__law_point f fd) : FnG P w K mg base 3 f fd ["gate"] F__law_point :=
  fn_defQ (k := 2) (b := B__law_point) Fx sc__law_point (fun cdv A outer s H E c =>
    dss_cons (ds_set 1 sc__law_point.nd (de_lst (da_cons (de_non) (da_cons (de_int) (da_cons (de_str) (da_cons (de_lst (da_nil)) (da_cons (de_tup (da_nil)) (da_cons (de_tup (da_cons (de_int) (da_cons (de_int) (da_cons (de_int) (da_nil))))) (da_cons (de_lst (da_cons (de_non) (da_nil))) (da_cons (de_lst (da_cons (de_bl) (da_nil))) (da_cons (de_lst (da_cons (de_str) (da_nil))) (da_cons (de_lst (da_cons (de_tup (da_cons (de_int) (da_cons (de_int) (da_nil)))) (da_nil))) (da_cons (de_lst (da_cons (de_tup (da_cons (de_int) (da_cons (de_int) (da_nil)))) (da_nil))) (da_cons (de_lst (da_cons (de_tup (da_cons (de_int) (da_cons (de_int) (da_nil)))) (da_nil))) (da_cons (de_lst (da_cons (de_tup (da_cons (de_int) (da_cons (de_eq rfl (de_un un_neg un_negD (de_int))) (da_nil)))) (da_nil))) (da_cons (de_lst (da_cons (de_tup (da_cons (de_int) (da_cons (de_int) (da_cons (de_int) (da_nil))))) (da_nil))) (da_cons (de_lst (da_cons (de_lst (da_cons (de_int) (da_nil))) (da_nil))) (da_cons (de_tup (da_cons (de_tup (da_cons (de_int) (da_cons (de_int) (da_nil)))) (da_nil))) (da_cons (de_dic1 (de_int)) (da_cons (de_lst (da_cons (de_tup (da_cons (de_int) (da_cons (de_int) (da_nil)))) (da_cons (de_non) (da_nil)))) (da_cons (de_tup (da_cons (de_int) (da_cons (de_tup (da_cons (de_int) (da_cons (de_int) (da_nil)))) (da_nil)))) (da_nil))))))))))))))))))))))
    (dss_one (ds_ret (de_call h__law_one c.hr c.hG c.tk (da_cons (de_var 0) (da_cons (de_var 1) (da_nil))) (by rfl)))))
theorem ok__law_integer (T : Top w K mg) (h__law_one : FnAt P w K mg base 2 s__law_one "_law_one" ["gate", "some"] F__law_one) {f : Addr} {fd : FuncData} (Fx : Fun K "_law_integer" "_law_integer" s__law_integer f fd) : FnG P w K mg base 3 f fd ["gate"] F__law_integer :=
  fn_defQ (k := 2) (b := B__law_integer) Fx sc__law_integer (fun cdv A outer s H E c =>
    dss_one (ds_ret (de_call h__law_one c.hr c.hG c.tk (da_cons (de_var 0) (da_cons (de_lst (da_cons (de_non) (da_cons (de_bl) (da_cons (de_str) (da_cons (de_tup (da_cons (de_int) (da_cons (de_int) (da_nil)))) (da_cons (de_lst (da_cons (de_int) (da_nil))) (da_cons (de_lst (da_nil)) (da_cons (de_bl) (da_cons (de_dic0) (da_nil)))))))))) (da_nil))) (by rfl))))
theorem ok__law_calls_right (T : Top w K mg) (h__law_integer : FnAt P w K mg base 8 s__law_integer "_law_integer" ["gate"] F__law_integer) (h__law_point : FnAt P w K mg base 8 s__law_point "_law_point" ["gate"] F__law_point) (h__law_one : FnAt P w K mg base 8 s__law_one "_law_one" ["gate", "some"] F__law_one) (lh_label_at : FnAt P w K mg base 6 s_label_at "label_at" ["point", "place"] F_label_at) (hd__law_heard : HdAt P w K mg base 7 "_law_heard" ["ask", "caught", "error"] (defScope s__law_heard) "ask" H__law_heard) (lh_labels_of : FnAt P w K mg base 6 s_labels_of "labels_of" ["point", "first", "many"] F_labels_of) (lh_sum_of : FnAt P w K mg base 6 s_sum_of "sum_of" ["point", "first", "many"] F_sum_of) (lh_comes_again : FnAt P w K mg base 6 s_comes_again "comes_again" ["point"] F_comes_again) {f : Addr} {fd : FuncData} (Fx : Fun K "_law_calls_right" "_law_calls_right" s__law_calls_right f fd) (TF : TabF K mg base "_law_calls_right" fd) : FnG P w K mg base 9 f fd ["gate"] F__law_calls_right :=
  fn_defT (k := 8) (b := B__law_calls_right) Fx TF sc__law_calls_right (fun cdv A outer s H E c tc =>
    dss_cons (ds_asg (de_tup (da_cons (de_call h__law_one c.hr c.hG c.tk (da_cons (de_var 0) (da_cons (de_lst (da_cons (de_tup (da_cons (de_int) (da_nil))) (da_cons (de_lst (da_cons (de_tup (da_cons (de_int) (da_cons (de_int) (da_nil)))) (da_cons (de_eq rfl (de_un un_neg un_negD (de_int))) (da_nil)))) (da_cons (de_tup (da_cons (de_tup (da_cons (de_eq rfl (de_un un_neg un_negD (de_int))) (da_cons (de_int) (da_nil)))) (da_nil))) (da_nil))))) (da_nil))) (by rfl)) (da_cons (de_call h__law_point c.hr c.hG c.tk (da_cons (de_var 0) (da_nil)) (by rfl)) (da_cons (de_call h__law_integer c.hr c.hG c.tk (da_cons (de_var 0) (da_nil)) (by rfl)) (da_cons (de_call h__law_integer c.hr c.hG c.tk (da_cons (de_var 0) (da_nil)) (by rfl)) (da_nil)))))) (dg_tup rfl (dgs_cons (dg_name 1 sc__law_calls_right.nd) (dgs_cons (dg_name 2 sc__law_calls_right.nd) (dgs_cons (dg_name 3 sc__law_calls_right.nd) (dgs_cons (dg_name 4 sc__law_calls_right.nd) (dgs_nil)))))))
    (dss_cons (ds_set 5 sc__law_calls_right.nd (de_call h__law_one c.hr c.hG c.tk (da_cons (de_var 0) (da_cons (de_lst (da_cons (de_eq rfl (de_un un_neg un_negD (de_int))) (da_cons (de_var 4) (da_cons (de_un un_neg un_negD (de_eq (dpow_lit (by decide)) (de_op op_pow op_powD de_int de_int))) (da_nil))))) (da_nil))) (by rfl)))
    (dss_cons (ds_set 6 sc__law_calls_right.nd (de_call h__law_one c.hr c.hG c.tk (da_cons (de_var 0) (da_cons (de_lst (da_cons (de_var 5) (da_cons (de_int) (da_cons (de_eq (dpow_lit (by decide)) (de_op op_pow op_powD de_int de_int)) (da_nil))))) (da_nil))) (by rfl)))
    (dss_cons (ds_set 7 sc__law_calls_right.nd (de_lstM (da_cons (de_lam 0 hd__law_heard tc c.hr c.hG c.tk (lmS_by (N := ["gate", "point", "bad", "odd", "none", "less", "many", "heard", "due"]) (sc := defScope s__law_calls_right) (by decide +kernel)) lm_plain (fun _ _ _ _ _ _ _ c2 => de_call lh_label_at c2.hr c2.hG c2.tk (da_cons (de_var 2) (da_cons (de_var 3) (da_nil))) (by rfl)) (by rfl) (by rfl)) (da_cons (de_lam 0 hd__law_heard tc c.hr c.hG c.tk (lmS_by (N := ["gate", "point", "bad", "odd", "none", "less", "many", "heard", "due"]) (sc := defScope s__law_calls_right) (by decide +kernel)) (lm_dflt (x := "x1")) (fun _ _ _ _ _ _ _ c1 => de_callK0 lh_label_at c1.hr c1.hG c1.tk kw_label_at_0_place_point (dk_cons (de_var 3) (dk_cons (de_var 1) (dk_nil))) (by rfl)) (by rfl) (by rfl)) (da_nil)))))
    (dss_cons (ds_set 7 sc__law_calls_right.nd (de_op or_addA op_addMD (de_var 7) (de_lst (da_cons (de_lam 0 hd__law_heard tc c.hr c.hG c.tk (lmS_by (N := ["gate", "point", "bad", "odd", "none", "less", "many", "heard", "due"]) (sc := defScope s__law_calls_right) (by decide +kernel)) lm_plain (fun _ _ _ _ _ _ _ c4 => de_call lh_labels_of c4.hr c4.hG c4.tk (da_cons (de_var 2) (da_cons (de_var 3) (da_cons (de_var 6) (da_nil)))) (by rfl)) (by rfl) (by rfl)) (da_cons (de_lam 0 hd__law_heard tc c.hr c.hG c.tk (lmS_by (N := ["gate", "point", "bad", "odd", "none", "less", "many", "heard", "due"]) (sc := defScope s__law_calls_right) (by decide +kernel)) (lm_dflt (x := "x1")) (fun _ _ _ _ _ _ _ c3 => de_call lh_labels_of c3.hr c3.hG c3.tk (da_cons (de_var 1) (da_cons (de_var 3) (da_cons (de_var 6) (da_nil)))) (by rfl)) (by rfl) (by rfl)) (da_nil))))))
    (dss_cons (ds_expr (de_append (de_var 7) (da_cons (de_lam 0 hd__law_heard tc c.hr c.hG c.tk (lmS_by (N := ["gate", "point", "bad", "odd", "none", "less", "many", "heard", "due"]) (sc := defScope s__law_calls_right) (by decide +kernel)) lm_plain (fun _ _ _ _ _ _ _ c5 => de_callK0 lh_labels_of c5.hr c5.hG c5.tk kw_labels_of_0_many_first_point (dk_cons (de_var 6) (dk_cons (de_int) (dk_cons (de_var 1) (dk_nil)))) (by rfl)) (by rfl) (by rfl)) (da_nil))))
    (dss_cons (ds_set 7 sc__law_calls_right.nd (de_op or_addA op_addMD (de_frz (de_var 7)) (de_lst (da_cons (de_lam 0 hd__law_heard tc c.hr c.hG c.tk (lmS_by (N := ["gate", "point", "bad", "odd", "none", "less", "many", "heard", "due"]) (sc := defScope s__law_calls_right) (by decide +kernel)) lm_plain (fun _ _ _ _ _ _ _ c7 => de_call lh_sum_of c7.hr c7.hG c7.tk (da_cons (de_var 2) (da_cons (de_var 3) (da_cons (de_var 5) (da_nil)))) (by rfl)) (by rfl) (by rfl)) (da_cons (de_lam 0 hd__law_heard tc c.hr c.hG c.tk (lmS_by (N := ["gate", "point", "bad", "odd", "none", "less", "many", "heard", "due"]) (sc := defScope s__law_calls_right) (by decide +kernel)) (lm_dflt (x := "x1")) (fun _ _ _ _ _ _ _ c6 => de_call lh_sum_of c6.hr c6.hG c6.tk (da_cons (de_var 1) (da_cons (de_var 3) (da_cons (de_var 5) (da_nil)))) (by rfl)) (by rfl) (by rfl)) (da_nil))))))
    (dss_cons (ds_set 7 sc__law_calls_right.nd (de_op or_addA op_addMD (de_frz (de_var 7)) (de_lst (da_cons (de_lam 0 hd__law_heard tc c.hr c.hG c.tk (lmS_by (N := ["gate", "point", "bad", "odd", "none", "less", "many", "heard", "due"]) (sc := defScope s__law_calls_right) (by decide +kernel)) lm_plain (fun _ _ _ _ _ _ _ c9 => de_call lh_sum_of c9.hr c9.hG c9.tk (da_cons (de_var 1) (da_cons (de_int) (da_cons (de_var 5) (da_nil)))) (by rfl)) (by rfl) (by rfl)) (da_cons (de_lam 0 hd__law_heard tc c.hr c.hG c.tk (lmS_by (N := ["gate", "point", "bad", "odd", "none", "less", "many", "heard", "due"]) (sc := defScope s__law_calls_right) (by decide +kernel)) (lm_dflt (x := "x1")) (fun _ _ _ _ _ _ _ c8 => de_call lh_comes_again c8.hr c8.hG c8.tk (da_cons (de_var 2) (da_nil)) (by rfl)) (by rfl) (by rfl)) (da_nil))))))
    (dss_cons (ds_set 8 sc__law_calls_right.nd (de_lst (da_cons (de_tup (da_cons (de_str) (da_cons (de_str) (da_nil)))) (da_cons (de_tup (da_cons (de_str) (da_cons (de_str) (da_nil)))) (da_cons (de_tup (da_cons (de_str) (da_cons (de_str) (da_nil)))) (da_cons (de_tup (da_cons (de_str) (da_cons (de_str) (da_nil)))) (da_cons (de_tup (da_cons (de_str) (da_cons (de_str) (da_nil)))) (da_nil))))))))
    (dss_one (ds_ret (de_cmp (op_eqA c.hu) op_eqDD (de_frz (de_var 7)) (de_op or_addA op_addD (de_var 8) (de_lst (da_cons (de_tup (da_cons (de_str) (da_cons (de_str) (da_nil)))) (da_cons (de_tup (da_cons (de_str) (da_cons (de_str) (da_nil)))) (da_cons (de_tup (da_cons (de_str) (da_cons (de_str) (da_nil)))) (da_cons (de_tup (da_cons (de_str) (da_cons (de_str) (da_nil)))) (da_nil)))))))))))))))))))
theorem ok__law_labels_right (T : Top w K mg) (h__law_knock : FnAt P w K mg base 5 s__law_knock "_law_knock" ["gate", "many"] F__law_knock) (h__law_integer : FnAt P w K mg base 5 s__law_integer "_law_integer" ["gate"] F__law_integer) (h__law_one : FnAt P w K mg base 5 s__law_one "_law_one" ["gate", "some"] F__law_one) (lh_told_back : FnAt P w K mg base 3 s_told_back "told_back" ["labels"] F_told_back) (hd__law_heard : HdAt P w K mg base 4 "_law_heard" ["ask", "caught", "error"] (defScope s__law_heard) "ask" H__law_heard) {f : Addr} {fd : FuncData} (Fx : Fun K "_law_labels_right" "_law_labels_right" s__law_labels_right f fd) (TF : TabF K mg base "_law_labels_right" fd) : FnG P w K mg base 6 f fd ["gate"] F__law_labels_right :=
  fn_defT (k := 5) (b := B__law_labels_right) Fx TF sc__law_labels_right (fun cdv A outer s H E c tc =>
    dss_cons (ds_set 1 sc__law_labels_right.nd (de_call h__law_knock c.hr c.hG c.tk (da_cons (de_var 0) (da_cons (de_int) (da_nil))) (by rfl)))
    (dss_cons (ds_set 2 sc__law_labels_right.nd (de_lstM (da_cons (de_int) (da_cons (de_int) (da_cons (de_int) (da_cons (de_int) (da_nil)))))))
    (dss_cons (ds_sub (de_call h__law_integer c.hr c.hG c.tk (da_cons (de_var 0) (da_nil)) (by rfl)) (de_var 2) (de_var 1))
    (dss_cons (ds_set 3 sc__law_labels_right.nd (de_call h__law_one c.hr c.hG c.tk (da_cons (de_var 0) (da_cons (de_lst (da_cons (de_non) (da_cons (de_int) (da_cons (de_str) (da_cons (de_lst (da_nil)) (da_cons (de_tup (da_nil)) (da_cons (de_dic1 (de_int)) (da_cons (de_frz (de_var 2)) (da_cons (de_callT call_tuple_of tuple_D (da_cons (de_frz (de_var 2)) (da_nil)) (by rfl) T.n_tuple (by decide +kernel)) (da_cons (de_op or_mulA op_mulD (de_lst (da_cons (de_int) (da_nil))) (de_int)) (da_cons (de_lst (da_cons (de_lst (da_cons (de_int) (da_nil))) (da_nil))) (da_cons (de_lst (da_cons (de_tup (da_cons (de_int) (da_nil))) (da_cons (de_tup (da_cons (de_int) (da_nil))) (da_nil)))) (da_nil))))))))))))) (da_nil))) (by rfl)))
    (dss_one (ds_ret (de_and (de_cmp (op_eqA c.hu) op_eqDD (de_lam 1 hd__law_heard tc c.hr c.hG c.tk (lmS_by (N := ["gate", "spot", "bent", "odd"]) (sc := defScope s__law_labels_right) (by decide +kernel)) lm_plain (fun _ _ _ _ _ _ _ c1 => de_call lh_told_back c1.hr c1.hG c1.tk (da_cons (de_var 3) (da_nil)) (by rfl)) (by rfl) (by rfl)) (de_tup (da_cons (de_str) (da_cons (de_str) (da_nil))))) (de_one (de_cmp op_isN op_isND (de_lam 1 hd__law_heard tc c.hr c.hG c.tk (lmS_by (N := ["gate", "spot", "bent", "odd"]) (sc := defScope s__law_labels_right) (by decide +kernel)) (lm_dflt (x := "x1")) (fun _ _ _ _ _ _ _ c2 => de_callK0 lh_told_back c2.hr c2.hG c2.tk kw_told_back_0_labels (dk_cons (de_lst (da_cons (de_int) (da_nil))) (dk_nil)) (by rfl)) (by rfl) (by rfl)) (de_non))))))))))
theorem ok_law (T : Top w K mg) (h__law_gate : FnAt P w K mg base 9 s__law_gate "_law_gate" ["script"] F__law_gate) (h__law_calls_right : FnAt P w K mg base 9 s__law_calls_right "_law_calls_right" ["gate"] F__law_calls_right) (h__law_labels_right : FnAt P w K mg base 9 s__law_labels_right "_law_labels_right" ["gate"] F__law_labels_right) (h__law_knock : FnAt P w K mg base 9 s__law_knock "_law_knock" ["gate", "many"] F__law_knock) (h_labels_of : FnAt P w K mg base 9 s_labels_of "labels_of" ["point", "first", "many"] F_labels_of) (h_told_back : FnAt P w K mg base 9 s_told_back "told_back" ["labels"] F_told_back) {f : Addr} {fd : FuncData} (Fx : Fun K "law" "law" s_law f fd) : FnG P w K mg base 10 f fd ["script"] F_law :=
  fn_defQ (k := 9) (b := B_law) Fx sc_law (fun cdv A outer s H E c =>
    dss_cons (ds_set 1 sc_law.nd (de_call h__law_gate c.hr c.hG c.tk (da_cons (de_var 0) (da_nil)) (by rfl)))
    (dss_cons (ds_for c.po c.calm (di_rng1 (da_cons (de_int) (da_nil)) (by rfl) T.n_range) (dg_name 2 sc_law.nd)
    (dss_one (ds_if (dw_t (dw_or (dt_not (dt_val (de_call h__law_calls_right c.hr c.hG c.tk (da_cons (de_var 1) (da_nil)) (by rfl)))) (dw_or1 (dt_not (dt_val (de_call h__law_labels_right c.hr c.hG c.tk (da_cons (de_var 1) (da_nil)) (by rfl)))))))
    (dss_one (ds_ret (de_bl)))
    (dss_nil))))
    (dss_cons (ds_if (dt_cmp (op_eqA c.hu) op_eqDD (de_call h__law_knock c.hr c.hG c.tk (da_cons (de_var 1) (da_cons (de_int) (da_nil))) (by rfl)) (de_int))
    (dss_one (ds_ret (de_and (de_cmp (op_eqA c.hu) op_eqDD (de_callB call_len len_D (da_cons (de_call h_labels_of c.hr c.hG c.tk (da_cons (de_tup (da_cons (de_tup (da_cons (de_int) (da_cons (de_int) (da_nil)))) (da_nil))) (da_cons (de_eq rfl (de_un un_neg un_negD (de_int))) (da_cons (de_int) (da_nil)))) (by rfl)) (da_nil)) (by rfl) T.n_len (by decide +kernel)) (de_int)) (de_one (de_cmp (op_eqA c.hu) op_eqDD (de_call h_told_back c.hr c.hG c.tk (da_cons (de_op or_mulA op_mulD (de_lst (da_cons (de_int) (da_nil))) (de_int)) (da_nil)) (by rfl)) (de_tup (da_cons (de_int) (da_cons (de_tup (da_cons (de_int) (da_cons (de_int) (da_nil)))) (da_nil)))))))))
    (dss_nil))
    (dss_one (ds_ret (de_bl))))))
end
end My
end
section
set_option Elab.async false
set_option linter.all false
set_option maxRecDepth 100000
set_option maxHeartbeats 2000000
namespace My
open PySem PySem.Spec PyProof.Rows L2 DL
local macro_rules | `(tactic| walk_at "bd") => `(tactic| first
  | assumption
  | exact Bd.lit8 (by decide)
  | exact Bd.lit (by decide)
  | (with_reducible apply Bd.mul <;> walk_at "bd")
  | (with_reducible apply Bd.add <;> walk_at "bd")
  | (with_reducible apply Bd.sub <;> walk_at "bd")
  | (with_reducible apply Bd.neg <;> walk_at "bd")
  | (with_reducible apply Bd.div <;> walk_at "bd"))
/-- a number as data -/
inductive Num : D → Int → Int → Prop
  | i {a : Int} : Num (.int a) a 1
  | t {a u : Int} (h : 2 ≤ u) (g : Nat.gcd a.natAbs u.natAbs = 1) : Num (.tup [.int a, .int u]) a u
  | l {a u : Int} (h : 2 ≤ u) (g : Nat.gcd a.natAbs u.natAbs = 1) : Num (.lst [.int a, .int u]) a u
section
variable {M : Sto} {d : D} {a u v lo hi : Int} {ds : List D} {Q : D → Sto → Prop} {E : EC}
theorem Num.pos (h : Num d a u) : 0 < u := by cases h <;> omega
theorem isint_int : F_is_integer [.int v] M = .ok (.bl true) M := by rfl
theorem isint_lst : F_is_integer [.lst ds] M = .ok (.bl false) M := by rfl
theorem isint_tup : F_is_integer [.tup ds] M = .ok (.bl false) M := by rfl
theorem isi_i : dIsi [.int v, .ty "int"] M = .ok (.bl true) M := by rfl
theorem isi_l : dIsi [.lst ds, .ty "int"] M = .ok (.bl false) M := by rfl
theorem isi_t : dIsi [.tup ds, .ty "int"] M = .ok (.bl false) M := by rfl
theorem isi_sl : dIsi [.lst ds, .tup [.ty "list", .ty "tuple"]] M = .ok (.bl true) M := by rfl
theorem isi_st : dIsi [.tup ds, .tup [.ty "list", .ty "tuple"]] M = .ok (.bl true) M := by rfl
theorem len_l : dLen [.lst ds] M = .ok (.int ds.length) M := by rfl
theorem len_t : dLen [.tup ds] M = .ok (.int ds.length) M := by rfl
theorem le2 : 2 ≤ sizeLine := by decide
theorem sz4 : 10000 ≤ sizeLine := by decide
theorem bdS {i : Int} (h : i.natAbs ≤ 2 ^ 62) : Bd 400 i := Nat.lt_of_le_of_lt h (by decide)
theorem bd1 : Bd 400 1 := bdS (by decide)
local macro_rules | `(tactic| walk_at "wp") => `(tactic| simp only [isint_int, isint_lst, isint_tup, isi_i, isi_l, isi_t, isi_sl, isi_st, len_l, len_t, le2, true_and, sizeLine_eq, Int.reduceLE, Int.reduceLT, Int.reduceAbs, Int.natAbs_neg, Nat.reducePow, Nat.reduceLT, Nat.reduceLeDiff, true_and, and_true, Int.reduceToNat, Int.reducePow, Int.reduceNeg, Int.reduceAdd, Int.reduceSub, Int.reduceMul, and_self, List.length_map, Int.cast_ofNat_Int, Std.le_refl, Int.natCast_one, Int.natCast_zero, Int.natCast_add, Bool.and_self, Bool.and_true, Bool.true_and, Bool.and_false, Bool.false_and, Int.reduceEq, wp_dSlice, wp_pNo, wp_pSo, wp_asIo, wp_dSlL, wp_dSlT, wp_revL, wp_kRevL, wp_dZipS, ix_t0, ix_t1, ix_l0, ix_l1, put2_t, put2_l, wp_sAsg2', wp_dRng, wp_zipLL, wp_zipLT, wp_zipTL, wp_zipTT, wp_enuL, wp_enuT, wp_rng1, wp_rng2, wp_chain, wp_sAug, wp_iadd, wp_isub, wp_par3, wp_dLcm, wp_eqs, wp_eqi, wp_isN, wp_isNn, isNon_int, isNon_non, wp_def, wp_seq, wp_sIf, seqQ_nx, seqQ_rt, seqQ_ex, seqQ_bk, seqQ_ct, wp_sNx, wp_sSet, wp_sAsgT, wp_sRt, wp_sEx, wp_par2, wp_sSub, wp_tV, wp_asB, wp_tNot, wp_tAnd, wp_tOr, wp_vAnd, wp_vOr, wp_vNot, wp_vIf, wp_dB, wp_dU, wp_cB, wp_aNil, wp_aCons, wp_dC, wp_var0, wp_varS, wp_dTup, wp_dLst, wp_dLstM, wp_dDic0, wp_sub, wp_add, wp_lt, wp_le, wp_gt, wp_ge, wp_neg, wp_mod, wp_fdiv, wp_pow, wp_mul, wp_int, wp_intb, wp_abs, wp_gcd, wp_bind, wp_pure, wp_ok, wp_cbad, wp_bad, wp_if, outC_rt, outC_nx, outC_ex, List.length_cons, List.length_nil, Nat.zero_add, Nat.reduceAdd, Nat.reduceSub, if_true, if_false, Bool.false_eq_true, List.map_cons, List.map_nil, List.replicate, List.cons_append, List.nil_append, List.set_cons_zero, List.set_cons_succ, List.set_nil, decide_true, decide_false, not_true, not_false_eq_true, Bool.not_true, Bool.not_false])
theorem within_ii : F_is_within [.int v, .int lo, .int hi] M = .ok (.bl (decide (lo ≤ v) && decide (v ≤ hi))) M := by
  refine wp_eq ?_
  unfold F_is_within B_is_within
  walk_at "wp"
  by_cases z : lo ≤ v <;> simp only [z] <;> (try walk_at "wp") <;> simp
theorem within_in : F_is_within [.int v, .int lo, .non] M = .ok (.bl (decide (lo ≤ v))) M := by
  refine wp_eq ?_
  unfold F_is_within B_is_within
  walk_at "wp"
  by_cases z : lo ≤ v <;> simp only [z] <;> (try walk_at "wp") <;> simp
theorem within_nn : F_is_within [.int v, .non, .non] M = .ok (.bl true) M := by rfl
theorem islist_l : F_is_list [.lst ds, .int lo, .int hi] M = .ok (.bl (decide (lo ≤ ds.length) && decide ((ds.length : Int) ≤ hi))) M := by
  refine wp_eq ?_
  unfold F_is_list B_is_list
  walk_at "wp"
  by_cases z : lo ≤ (ds.length : Int) <;> simp only [z] <;> (try walk_at "wp") <;> (try simp)
theorem islist_t : F_is_list [.tup ds, .int lo, .int hi] M = .ok (.bl (decide (lo ≤ ds.length) && decide ((ds.length : Int) ≤ hi))) M := by
  refine wp_eq ?_
  unfold F_is_list B_is_list
  walk_at "wp"
  by_cases z : lo ≤ (ds.length : Int) <;> simp only [z] <;> (try walk_at "wp") <;> (try simp)
local macro_rules | `(tactic| walk_at "w1") => `(tactic| simp only [wp_rng2w, within_ii, within_in, islist_l, islist_t, isint_int, isint_lst, isint_tup, isi_i, isi_l, isi_t, isi_sl, isi_st, len_l, len_t, le2, true_and, sizeLine_eq, Int.reduceLE, Int.reduceLT, Int.reduceAbs, Int.natAbs_neg, Nat.reducePow, Nat.reduceLT, Nat.reduceLeDiff, true_and, and_true, Int.reduceToNat, Int.reducePow, Int.reduceNeg, Int.reduceAdd, Int.reduceSub, Int.reduceMul, and_self, List.length_map, Int.cast_ofNat_Int, Std.le_refl, Int.natCast_one, Int.natCast_zero, Int.natCast_add, Bool.and_self, Bool.and_true, Bool.true_and, Bool.and_false, Bool.false_and, Int.reduceEq, wp_dSlice, wp_pNo, wp_pSo, wp_asIo, wp_dSlL, wp_dSlT, wp_revL, wp_kRevL, wp_dZipS, ix_t0, ix_t1, ix_l0, ix_l1, put2_t, put2_l, wp_sAsg2', wp_dRng, wp_zipLL, wp_zipLT, wp_zipTL, wp_zipTT, wp_enuL, wp_enuT, wp_rng1, wp_rng2, wp_chain, wp_sAug, wp_iadd, wp_isub, wp_par3, wp_dLcm, wp_eqs, wp_eqi, wp_isN, wp_isNn, isNon_int, isNon_non, wp_def, wp_seq, wp_sIf, seqQ_nx, seqQ_rt, seqQ_ex, seqQ_bk, seqQ_ct, wp_sNx, wp_sSet, wp_sAsgT, wp_sRt, wp_sEx, wp_par2, wp_sSub, wp_tV, wp_asB, wp_tNot, wp_tAnd, wp_tOr, wp_vAnd, wp_vOr, wp_vNot, wp_vIf, wp_dB, wp_dU, wp_cB, wp_aNil, wp_aCons, wp_dC, wp_var0, wp_varS, wp_dTup, wp_dLst, wp_dLstM, wp_dDic0, wp_sub, wp_add, wp_lt, wp_le, wp_gt, wp_ge, wp_neg, wp_mod, wp_fdiv, wp_pow, wp_mul, wp_int, wp_intb, wp_abs, wp_gcd, wp_bind, wp_pure, wp_ok, wp_cbad, wp_bad, wp_if, outC_rt, outC_nx, outC_ex, List.length_cons, List.length_nil, Nat.zero_add, Nat.reduceAdd, Nat.reduceSub, if_true, if_false, Bool.false_eq_true, List.map_cons, List.map_nil, List.replicate, List.cons_append, List.nil_append, List.set_cons_zero, List.set_cons_succ, List.set_nil, decide_true, decide_false, not_true, not_false_eq_true, Bool.not_true, Bool.not_false])
theorem isnum (h : Num d a u) : F_is_number [d] M = .ok (.bl true) M := by
  cases h with
  | i => rfl
  | t h g =>
    refine wp_eq ?_
    unfold F_is_number B_is_number
    walk_at "w1"
    simp [h, g]
  | l h g =>
    refine wp_eq ?_
    unfold F_is_number B_is_number
    walk_at "w1"
    simp [h, g]
theorem parts (h : Num d a u) : F_parts_of [d] M = .ok (.tup [.int a, .int u]) M := by
  cases h <;> (refine wp_eq ?_; unfold F_parts_of B_parts_of; walk_at "w1")
/-- the number that data are -/
def numOf : D → Int × Int
  | .int a => (a, 1)
  | .tup [.int a, .int u] => (a, u)
  | .lst [.int a, .int u] => (a, u)
  | _ => (0, 1)
theorem Num.of (h : Num d a u) : numOf d = (a, u) := by cases h <;> rfl
/-- points: lists of numbers -/
def Pts (ds : List D) : Prop := ∀ d ∈ ds, Num d (numOf d).1 (numOf d).2
theorem Pts.one (h : Num d a u) : Pts [d] := fun e he => by simp at he; subst he; rw [h.of]; exact h
theorem Pts.two {d' : D} {a' u' : Int} (h : Num d a u) (h' : Num d' a' u') : Pts [d, d'] := fun e he => by
  simp at he
  rcases he with rfl | rfl
  · rw [h.of]; exact h
  · rw [h'.of]; exact h'
def PB (ds : List D) : Prop := ∀ d ∈ ds, Bd 400 (numOf d).1 ∧ Bd 400 (numOf d).2
theorem PB.one (h : Num d a u) (b : Bd 400 a) (b' : Bd 400 u) : PB [d] := fun e he => by simp at he; subst he; rw [h.of]; exact ⟨b, b'⟩
theorem PB.two {d' : D} {a' u' : Int} (h : Num d a u) (h' : Num d' a' u') (b : Bd 400 a) (c : Bd 400 u) (b' : Bd 400 a') (c' : Bd 400 u') : PB [d, d'] := fun e he => by
  simp at he
  rcases he with rfl | rfl
  · rw [h.of]; exact ⟨b, c⟩
  · rw [h'.of]; exact ⟨b', c'⟩
theorem all_true {n : List D} : wp (dAll [.lst (n.map fun _ => .bl true)] M) Q E = Q (.bl true) M := by
  have : n.map (fun _ => D.bl true) = (n.map fun _ => true).map D.bl := by rw [List.map_map]; rfl
  rw [this, wp_all, show (n.map fun _ => true).all id = true by simp]
theorem itL {i : Nat} {ρ : DL.Env} (h : ρ[i]? = some (some (.lst ds))) : dIt (dVar i) ρ M = .ok ds M := by
  unfold dIt C.bind; rw [dVar_at h]; rfl
theorem itT {i : Nat} {ρ : DL.Env} (h : ρ[i]? = some (some (.tup ds))) : dIt (dVar i) ρ M = .ok ds M := by
  unfold dIt C.bind; rw [dVar_at h]; rfl
/-- a point as a list or a tuple -/
inductive Pt : D → List D → Prop
  | l {ds : List D} : Pt (.lst ds) ds
  | t {ds : List D} : Pt (.tup ds) ds
theorem itP {i : Nat} {ρ : DL.Env} (p : Pt d ds) (h : ρ[i]? = some (some d)) : dIt (dVar i) ρ M = .ok ds M := by
  cases p with
  | l => exact itL h
  | t => exact itT h
theorem islist_p (p : Pt d ds) : F_is_list [d, .int lo, .int hi] M = .ok (.bl (decide (lo ≤ ds.length) && decide ((ds.length : Int) ≤ hi))) M := by
  cases p with
  | l => exact islist_l
  | t => exact islist_t
local macro_rules | `(tactic| walk_at "w2") => `(tactic| simp only [wp_rng2w, within_nn, within_ii, within_in, islist_l, islist_t, isint_int, isint_lst, isint_tup, isi_i, isi_l, isi_t, isi_sl, isi_st, len_l, len_t, le2, true_and, sizeLine_eq, Int.reduceLE, Int.reduceLT, Int.reduceAbs, Int.natAbs_neg, Nat.reducePow, Nat.reduceLT, Nat.reduceLeDiff, true_and, and_true, Int.reduceToNat, Int.reducePow, Int.reduceNeg, Int.reduceAdd, Int.reduceSub, Int.reduceMul, and_self, List.length_map, Int.cast_ofNat_Int, Std.le_refl, Int.natCast_one, Int.natCast_zero, Int.natCast_add, Bool.and_self, Bool.and_true, Bool.true_and, Bool.and_false, Bool.false_and, Int.reduceEq, wp_dSlice, wp_pNo, wp_pSo, wp_asIo, wp_dSlL, wp_dSlT, wp_revL, wp_kRevL, wp_dZipS, ix_t0, ix_t1, ix_l0, ix_l1, put2_t, put2_l, wp_sAsg2', wp_dRng, wp_zipLL, wp_zipLT, wp_zipTL, wp_zipTT, wp_enuL, wp_enuT, wp_rng1, wp_rng2, wp_chain, wp_sAug, wp_iadd, wp_isub, wp_par3, wp_dLcm, wp_eqs, wp_eqi, wp_isN, wp_isNn, isNon_int, isNon_non, wp_def, wp_seq, wp_sIf, seqQ_nx, seqQ_rt, seqQ_ex, seqQ_bk, seqQ_ct, wp_sNx, wp_sSet, wp_sAsgT, wp_sRt, wp_sEx, wp_par2, wp_sSub, wp_tV, wp_asB, wp_tNot, wp_tAnd, wp_tOr, wp_vAnd, wp_vOr, wp_vNot, wp_vIf, wp_dB, wp_dU, wp_cB, wp_aNil, wp_aCons, wp_dC, wp_var0, wp_varS, wp_dTup, wp_dLst, wp_dLstM, wp_dDic0, wp_sub, wp_add, wp_lt, wp_le, wp_gt, wp_ge, wp_neg, wp_mod, wp_fdiv, wp_pow, wp_mul, wp_int, wp_intb, wp_abs, wp_gcd, wp_bind, wp_pure, wp_ok, wp_cbad, wp_bad, wp_if, outC_rt, outC_nx, outC_ex, List.length_cons, List.length_nil, Nat.zero_add, Nat.reduceAdd, Nat.reduceSub, if_true, if_false, Bool.false_eq_true, List.map_cons, List.map_nil, List.replicate, List.cons_append, List.nil_append, List.set_cons_zero, List.set_cons_succ, List.set_nil, decide_true, decide_false, not_true, not_false_eq_true, Bool.not_true, Bool.not_false])
theorem ispoint (p : Pt d ds) (h : Pts ds) (h1 : 1 ≤ ds.length) (h2 : ds.length ≤ 2) : F_is_point [d, .int 1, .int 2] M = .ok (.bl true) M := by
  refine wp_eq ?_
  unfold F_is_point B_is_point
  have e1 : decide ((1 : Int) ≤ (ds.length : Int)) = true := by rw [decide_eq_true_eq]; omega
  have e2 : decide ((ds.length : Int) ≤ 2) = true := by rw [decide_eq_true_eq]; omega
  walk_at "w2"
  rw [islist_p p, e1, e2]
  walk_at "w2"
  rw [wp_lcMap (g := fun _ => .bl true) (ds := ds) (itP p rfl) (fun e he => ?_) (by have : 2 ≤ sizeLine := le2; omega)]
  · rw [all_true]; exact ⟨rfl, rfl⟩
  · have hq := h e he
    refine ⟨_, rfl, ?_⟩
    refine wp_eq ?_
    dsimp only [wipeE, List.set]
    walk_at "w2"
    rw [isnum hq]; exact ⟨rfl, rfl⟩
theorem want_pt (p : Pt d ds) (h : Pts ds) (h1 : 1 ≤ ds.length) (h2 : ds.length ≤ 2) : F_want_free_point [d] M = .ok .non M := by
  refine wp_eq ?_
  unfold F_want_free_point B_want_free_point
  walk_at "w2"
  rw [ispoint p h h1 h2]
  walk_at "w2"
theorem want_int {s : Str} : F_want_integer [.int v, .str s] M = .ok .non M := by
  refine wp_eq ?_
  unfold F_want_integer B_want_integer F_want_within B_want_within
  walk_at "w2"
theorem want_in {s : Str} (h : lo ≤ v) : F_want_within [.int v, .int lo, .non, .str s] M = .ok .non M := by
  refine wp_eq ?_
  unfold F_want_within B_want_within
  walk_at "w2"
  simp only [h]
  walk_at "w2"
theorem want_ii {s : Str} (h : lo ≤ v) (h2 : v ≤ hi) : F_want_within [.int v, .int lo, .int hi, .str s] M = .ok .non M := by
  refine wp_eq ?_
  unfold F_want_within B_want_within
  walk_at "w2"
  simp only [h, h2]
  walk_at "w2"
/-- so many labels, summed -/
def lab (f m : Int) (p : Int × Int) : Int := (f + m - 1) * p.1 / p.2 - (f - 1) * p.1 / p.2
theorem lsum {f m : Int} (h : Num d a u) (b1 : Bd 400 f) (b2 : Bd 400 m) (b3 : Bd 400 a) (b4 : Bd 400 u) : F_label_sum [d, .int f, .int m] M = .ok (.int (lab f m (a, u))) M := by
  refine wp_eq ?_
  unfold F_label_sum B_label_sum
  walk_at "w2"
  rw [parts h]
  walk_at "w2"
  refine ⟨mulOk_bd (by walk_at "bd") b3 (by decide), ⟨h.pos, small2_bd b4 (by decide)⟩, mulOk_bd (by walk_at "bd") b3 (by decide), ⟨h.pos, small2_bd b4 (by decide)⟩, rfl⟩
theorem label_at_ok {f : Int} (p : Pt d ds) (h : Pts ds) (hb : PB ds) (h1 : 1 ≤ ds.length) (h2 : ds.length ≤ 2) (b1 : Bd 400 f) : F_label_at [d, .int f] M = .ok (.tup (ds.map fun d => .int (lab f 1 (numOf d)))) M := by
  refine wp_eq ?_
  unfold F_label_at B_label_at
  walk_at "w2"
  rw [want_pt p h h1 h2]
  walk_at "w2"
  rw [want_int]
  walk_at "w2"
  rw [wp_lcMap (g := fun d => .int (lab f 1 (numOf d))) (ds := ds) (itP p rfl) (fun e he => ⟨_, rfl, ?_⟩) (by have : 2 ≤ sizeLine := le2; omega)]
  · exact ⟨rfl, rfl⟩
  · refine wp_eq ?_
    dsimp only [wipeE, List.set]
    walk_at "w2"
    rw [lsum (h e he) b1 bd1 (hb e he).1 (hb e he).2]
    exact ⟨rfl, rfl⟩
/-! rows of labels -/
theorem rg_mem {lo : Int} {n : Nat} {x : D} (h : x ∈ rgI lo n) : ∃ k : Nat, k < n ∧ x = .int (lo + k) := by
  unfold rgI at h
  obtain ⟨k, hk, e⟩ := List.mem_map.mp h
  exact ⟨k, List.mem_range.mp hk, e.symm⟩
theorem rg_len {lo : Int} {n : Nat} : (rgI lo n).length = n := by unfold rgI; simp
def intD : D → Int
  | .int i => i
  | _ => 0
theorem wholes_ok {f m : Int} (h : Num d a u) (b3 : Bd 400 a) (b4 : Bd 400 u) (hf : Bd 390 f) (hm : 0 ≤ m ∧ m ≤ 10000) : F_wholes_of [d, .int f, .int m] M = .ok (.lst ((rgI f m.toNat).map fun x => .int (intD x * a / u))) M := by
  refine wp_eq ?_
  unfold F_wholes_of B_wholes_of
  walk_at "w2"
  rw [parts h]
  walk_at "w2"
  have hi : dRng rng2w (aCons (dVar 1) (aCons (dB dAdd (dVar 1) (dVar 2)) aNil)) [some d, some (.int f), some (.int m), some (.int a), some (.int u), none] M = .ok (rgI f m.toNat) M := by
    have : wp (dRng rng2w (aCons (dVar 1) (aCons (dB dAdd (dVar 1) (dVar 2)) aNil)) [some d, some (.int f), some (.int m), some (.int a), some (.int u), none] M) (fun x M' => x = rgI f m.toNat ∧ M' = M) (fun _ _ _ _ => False) := by
      walk_at "w2"
      rw [show f + m - f = m by omega]
      (try exact ⟨rfl, rfl⟩)
    exact wp_eq this
  rw [wp_lcMap (g := fun x => .int (intD x * a / u)) (ds := rgI f m.toNat) hi (fun e he => ⟨_, rfl, ?_⟩) (by rw [rg_len]; have := sz4; omega)]
  · exact ⟨rfl, rfl⟩
  · obtain ⟨k, hk, ek⟩ := rg_mem he
    subst ek
    refine wp_eq ?_
    dsimp only [wipeE, List.set]
    walk_at "w2"
    refine ⟨mulOk_bd (hf.add (Bd.lit (i := (k : Int)) (by omega))) b3 (by decide), ⟨h.pos, small2_bd b4 (by decide)⟩, rfl⟩
theorem rg_get {lo : Int} {n k : Nat} (h : k < n) : (rgI lo n)[k]? = some (.int (lo + k)) := by
  unfold rgI
  rw [List.getElem?_map, List.getElem?_range h]; rfl
theorem zip_next {g : Int → Int} {lo : Int} : ∀ {n : Nat}, zipD ((rgI lo (n + 1)).map fun x => .int (g (intD x))) (((rgI lo (n + 1)).map fun x => .int (g (intD x))).drop 1) = (rgI lo n).map fun x => .tup [.int (g (intD x)), .int (g (intD x + 1))] := by
  intro n
  apply List.ext_getElem?
  intro k
  by_cases hk : k < n
  · have e1 : ((rgI lo (n + 1)).map fun x => D.int (g (intD x)))[k]? = some (.int (g (lo + k))) := by rw [List.getElem?_map, rg_get (by omega)]; rfl
    have e2 : (((rgI lo (n + 1)).map fun x => D.int (g (intD x))).drop 1)[k]? = some (.int (g (lo + k + 1))) := by
      rw [List.getElem?_drop, List.getElem?_map, rg_get (by omega)]
      show some (D.int (g (lo + ((1 + k : Nat) : Int)))) = _
      rw [show lo + ((1 + k : Nat) : Int) = lo + k + 1 by omega]
    rw [List.getElem?_map, rg_get hk]
    have hl : k < (zipD ((rgI lo (n + 1)).map fun x => D.int (g (intD x))) (((rgI lo (n + 1)).map fun x => D.int (g (intD x))).drop 1)).length := by
      rw [zipD_len, List.length_drop, List.length_map, rg_len]; omega
    obtain ⟨x, y, a, b, c⟩ := zipD_get (List.getElem?_eq_getElem hl)
    rw [List.getElem?_eq_getElem hl, c]
    rw [e1] at a; rw [e2] at b
    cases a; cases b
    rfl
  · rw [List.getElem?_eq_none (by rw [zipD_len, List.length_drop, List.length_map, rg_len]; omega), List.getElem?_eq_none (by rw [List.length_map, rg_len]; omega)]
/-- the label at a place -/
def lb (p : Int × Int) (k : Int) : Int := k * p.1 / p.2 - (k - 1) * p.1 / p.2
theorem labels_at_ok {f m : Int} (h : Num d a u) (b3 : Bd 400 a) (b4 : Bd 400 u) (hf : Bd 300 f) (hm : 0 ≤ m ∧ m ≤ 9000) : F_labels_at [d, .int f, .int m] M = .ok (.lst ((rgI f m.toNat).map fun x => .int (lb (a, u) (intD x)))) M := by
  refine wp_eq ?_
  unfold F_labels_at B_labels_at
  walk_at "w2"
  rw [wholes_ok h b3 b4 ((hf.sub (Bd.lit8 (i := 1) (by decide))).le (by decide)) (by omega)]
  walk_at "w2"
  have e1 : (m + 1).toNat = m.toNat + 1 := by omega
  have hi : dRng zipA (aCons (dVar 3) (aCons (dSlice (dVar 3) (pSo (dC (.int 1))) pNo) aNil)) [some d, some (.int f), some (.int m), some (.lst ((rgI (f - 1) (m + 1).toNat).map fun x => .int (intD x * a / u))), none, none] M = .ok ((rgI (f - 1) m.toNat).map fun x => .tup [.int (intD x * a / u), .int ((intD x + 1) * a / u)]) M := by
    refine wp_eq ?_
    walk_at "w2"
    rw [show (some (1 : Int)) = some ((1 : Nat) : Int) from rfl, cut_from (by rw [List.length_map, rg_len]; omega), e1, zip_next (g := fun z => z * a / u)]
    (try exact ⟨rfl, rfl⟩)
  rw [wp_lcMap (g := fun x => match x with | .tup [.int i, .int j] => .int (j - i) | _ => .non) hi (fun e he => ?_) (by rw [List.length_map, rg_len]; have := sz4; omega)]
  · refine ⟨?_, rfl⟩
    rw [List.map_map]
    unfold rgI
    rw [List.map_map, List.map_map]
    refine congrArg D.lst (List.map_congr_left fun k hk => ?_)
    show D.int ((f - 1 + (k : Int) + 1) * a / u - (f - 1 + (k : Int)) * a / u) = .int ((f + k) * a / u - (f + k - 1) * a / u)
    rw [show f - 1 + (k : Int) + 1 = f + k by omega, show f - 1 + (k : Int) = f + k - 1 by omega]
  · obtain ⟨x, hx, ex⟩ := List.mem_map.mp he
    subst ex
    refine ⟨_, put2_t, ?_⟩
    refine wp_eq ?_
    dsimp only [wipeE, List.set]
    walk_at "w2"
/-- the row of labels at places f, f + 1, .. -/
def labRow (ds : List D) (f : Int) (m : Nat) : List D := (List.range m).map fun k : Nat => .tup (ds.map fun d => .int (lb (numOf d) (f + k)))
theorem labels_of_ok {f m : Int} (p : Pt d ds) (h : Pts ds) (hb : PB ds) (h1 : 1 ≤ ds.length) (h2 : ds.length ≤ 2) (hf : Bd 300 f) (hm : 0 ≤ m ∧ m ≤ 2000) : F_labels_of [d, .int f, .int m] M = .ok (.tup (labRow ds f m.toNat)) M := by
  refine wp_eq ?_
  unfold F_labels_of B_labels_of
  walk_at "w2"
  rw [want_pt p h h1 h2]
  walk_at "w2"
  rw [want_int]
  walk_at "w2"
  rw [want_ii hm.1 hm.2]
  walk_at "w2"
  rw [wp_lcMap (g := fun d => .lst ((rgI f m.toNat).map fun x => .int (lb (numOf d) (intD x)))) (ds := ds) (itP p rfl) (fun e he => ⟨_, rfl, ?_⟩) (by have : 2 ≤ sizeLine := le2; omega)]
  · (try walk_at "w2")
    have e0 : (ds.map fun d => D.lst ((rgI f m.toNat).map fun x => .int (lb (numOf d) (intD x)))) = (ds.map fun d => (rgI f m.toNat).map fun x => D.int (lb (numOf d) (intD x))).map D.lst := by rw [List.map_map]; rfl
    rw [wp_kZipS, e0]
    have ml : minLen (ds.map fun d => (rgI f m.toNat).map fun x => D.int (lb (numOf d) (intD x))) = m.toNat := by
      have hne : (ds.map fun d => (rgI f m.toNat).map fun x => D.int (lb (numOf d) (intD x))) ≠ [] := by
        intro z; have := congrArg List.length z; rw [List.length_map, List.length_nil] at this; omega
      obtain ⟨r, hr, e⟩ := minLen_ex hne
      obtain ⟨d', _, ed⟩ := List.mem_map.mp hr
      rw [← e, ← ed, List.length_map, rg_len]
    refine ⟨_, _, rfl, rowsOf_lsts, ?_, by rw [ml]; have := sz4; omega, ?_, rfl⟩
    · intro z; have := congrArg List.length z; rw [List.length_map, List.length_nil] at this; omega
    · unfold zipS labRow
      rw [ml, List.map_map]
      refine congrArg D.tup (List.map_congr_left fun k hk => ?_)
      show D.tup (colD _ k) = _
      unfold colD
      rw [List.map_map]
      refine congrArg D.tup (List.map_congr_left fun e he => ?_)
      show ((rgI f m.toNat).map fun x => D.int (lb (numOf e) (intD x))).getD k .non = _
      rw [List.getD_eq_getElem?_getD, List.getElem?_map, rg_get (List.mem_range.mp hk)]
      rfl
  · refine wp_eq ?_
    dsimp only [wipeE, List.set]
    walk_at "w2"
    rw [labels_at_ok (h e he) (hb e he).1 (hb e he).2 hf (by omega)]
    exact ⟨rfl, rfl⟩
end
end My
end
section
set_option Elab.async false
set_option linter.all false
set_option maxRecDepth 100000
set_option maxHeartbeats 2000000
namespace My
open PySem PySem.Spec PyProof.Rows L2 DL
theorem knock_ok : DialW F__law_knock := dialB_okW (fl := false) (c0 := 47017) (d0 := 6737) (p1 := 2147483489) (a1 := 65147) (b1 := 6737) (p2 := 2147483477) (b2 := 3413) (a2 := 47017) (c2 := 65147) (p3 := 2147483423) (by omega) (by omega) (by omega) (by omega) (by omega) (by omega)
/-- the tables stand -/
def Tb (M : Sto) : Prop := M[0]? = some (.tbl "_law_calls_right" "_law_calls_right.<locals>.<lambda>") ∧ M[1]? = some (.tbl "_law_labels_right" "_law_labels_right.<locals>.<lambda>")
structure Sg (n : Nat) (B : Int) (M : Sto) : Prop where
  two : 2 ≤ n
  gau : Gau n B M
  tb : Tb M
section
variable {n : Nat} {B m : Int} {M : Sto} {E : EC} {ds : List D} {Q : D → Sto → Prop} {d : D} {a u : Int} {s : Str}
theorem Sg.but {M' : Sto} (h : Sg n B M) (b : But n M M') {C : Int} (g : Gau n C M') : Sg n C M' := by
  have h2 := h.two
  exact ⟨h.two, g, by rw [b.2 0 (by omega)]; exact h.tb.1, by rw [b.2 1 (by omega)]; exact h.tb.2⟩
theorem knock (h : Sg n B M) (hB : B ≤ 500000) (hm : 1 ≤ m) (hm2 : Bd 2000 m) (q : ∀ v M', 0 ≤ v → v < m → Sg n (B + 1) M' → M'.length = M.length → Q (.int v) M') : wp (F__law_knock [.ptr n, .int m] M) Q E :=
  knock_ok.dial h.gau hB hm hm2 fun v M' a b c d => q v M' a b (h.but d c) d.1
theorem one (h : Sg n B M) (hB : B ≤ 500000) (h1 : 1 ≤ ds.length) (h2 : ds.length < 2 ^ 64) (q : ∀ d M', d ∈ ds → Sg n (B + 1) M' → M'.length = M.length → Q d M') : wp (F__law_one [.ptr n, .lst ds] M) Q E :=
  knock_ok.pick h.gau hB h1 h2 fun v M' a b c => q v M' a (h.but c b) c.1
def oddL : List D := [.non, .bl true, .str "3", .tup [.int 1, .int 2], .lst [.int 4], .lst [], .bl false, .dic [] []]
def badL : List D := [.non, .int 5, .str "1", .lst [], .tup [], .tup [.int 1, .int 2, .int 3], .lst [.non], .lst [.bl true], .lst [.str "1"], .lst [.tup [.int 2, .int 4]], .lst [.tup [.int 1, .int 1]], .lst [.tup [.int 3, .int 0]], .lst [.tup [.int 1, .int (-2)]],
  .lst [.tup [.int 1, .int 2, .int 3]], .lst [.lst [.int 1]], .tup [.tup [.int 0, .int 5]], .dic [.inl 0] [.int 1], .lst [.tup [.int 1, .int 2], .non], .tup [.int 0, .tup [.int 6, .int 3]]]
def goodL : List D := [.tup [.int 1], .lst [.tup [.int 1, .int 2], .int (-3)], .tup [.tup [.int (-7), .int 4]]]
theorem wp_dDic1 {i : Int} {f : DL.Env → C D} {ρ : DL.Env} : wp (dDic1 i f ρ M) Q E = wp (f ρ M) (fun d M' => Q (.dic [.inl i] [d]) M') E := by
  unfold dDic1; rw [wp_bind]; rfl
theorem odd_refused (h : d ∈ oddL) : F_want_integer [d, .str s] M = .err "BadNumber" ["part"] [.str s] M := by
  simp only [oddL, List.mem_cons, List.not_mem_nil, or_false] at h
  rcases h with rfl | rfl | rfl | rfl | rfl | rfl | rfl | rfl <;> rfl
theorem bad_refused (h : d ∈ badL) : F_want_free_point [d] M = .err "BadPoint" ["part"] [.str "point"] M := by
  simp only [badL, List.mem_cons, List.not_mem_nil, or_false] at h
  rcases h with rfl | rfl | rfl | rfl | rfl | rfl | rfl | rfl | rfl | rfl | rfl | rfl | rfl | rfl | rfl | rfl | rfl | rfl | rfl <;> rfl
theorem good_taken (h : d ∈ goodL) : F_want_free_point [d] M = .ok .non M := by
  simp only [goodL, List.mem_cons, List.not_mem_nil, or_false] at h
  rcases h with rfl | rfl | rfl <;> rfl
end
end My
end
section
set_option Elab.async false
set_option linter.all false
set_option maxRecDepth 100000
set_option maxHeartbeats 2000000
namespace My
open PySem PySem.Spec PyProof.Rows L2 DL
section
variable {n : Nat} {B m : Int} {M : Sto} {E : EC} {ds es : List D} {Q : D → Sto → Prop} {d o p w : D} {a u : Int} {s x : Str} {fn : List Str} {ρ ρ' : DL.Env} {t : DL.Env → C D} {v : SF} {F : List D → C D} {g : DL.Env → C (List D)}
theorem ex_err (h : t ρ M = .err x fn es M) : sSeq (sEx t) v ρ M = .ok (.ex x fn es ρ) M := by unfold sSeq sEx lift; rw [h]
theorem ex_ok (h : t ρ M = .ok d M) : sSeq (sEx t) v ρ M = v ρ M := by unfold sSeq sEx lift; rw [h]; rfl
theorem cB_eq (h : g ρ M = .ok ds M) : cB F g ρ M = F ds M := by
  show (g ρ M).bind _ = _
  rw [h]; rfl
theorem def_ex {k np : Nat} {b : SF} (hl : ds.length = np) (h : b (ds.map some ++ List.replicate (k - np) none) M = .ok (.ex x fn es ρ') M) : dDef k np b ds M = .err x fn es M := by
  unfold dDef; rw [if_pos hl, h]; rfl
/-- the drawn things that are too small, or no number; too great as well -/
def LessD (d : D) : Prop := d = .int (-1) ∨ d ∈ oddL ∨ d = .int (-100000000000000000000)
def ManyD (d : D) : Prop := LessD d ∨ d = .int 2001 ∨ d = .int 1000000000
theorem less_refused (h : LessD d) : F_want_within [d, .int 0, .non, .str s] M = .err "BadNumber" ["part"] [.str s] M := by
  rcases h with rfl | h | rfl
  · rfl
  · simp only [oddL, List.mem_cons, List.not_mem_nil, or_false] at h
    rcases h with rfl | rfl | rfl | rfl | rfl | rfl | rfl | rfl <;> rfl
  · rfl
theorem many_refused (h : ManyD d) : F_want_within [d, .int 0, .int 2000, .str s] M = .err "BadNumber" ["part"] [.str s] M := by
  rcases h with (rfl | h | rfl) | rfl | rfl
  · rfl
  · simp only [oddL, List.mem_cons, List.not_mem_nil, or_false] at h
    rcases h with rfl | rfl | rfl | rfl | rfl | rfl | rfl | rfl <;> rfl
  · rfl
  · rfl
  · rfl
theorem int_taken : F_want_integer [.int a, .str s] M = .ok .non M := want_int
/-! the nine calls -/
theorem c1 (hd : d ∈ badL) : F_label_at [d, o] M = .err "BadPoint" ["part"] [.str "point"] M := by
  unfold F_label_at B_label_at
  exact def_ex rfl (ex_err ((cB_eq rfl).trans (bad_refused hd)))
theorem c2 (hp : p ∈ goodL) (ho : o ∈ oddL) : F_label_at [p, o] M = .err "BadNumber" ["part"] [.str "place"] M := by
  unfold F_label_at B_label_at
  exact def_ex rfl ((ex_ok ((cB_eq rfl).trans (good_taken hp))).trans (ex_err ((cB_eq rfl).trans (odd_refused ho))))
theorem c3 (hd : d ∈ badL) : F_labels_of [d, o, w] M = .err "BadPoint" ["part"] [.str "point"] M := by
  unfold F_labels_of B_labels_of
  exact def_ex rfl (ex_err ((cB_eq rfl).trans (bad_refused hd)))
theorem c4 (hp : p ∈ goodL) (ho : o ∈ oddL) : F_labels_of [p, o, w] M = .err "BadNumber" ["part"] [.str "first"] M := by
  unfold F_labels_of B_labels_of
  exact def_ex rfl ((ex_ok ((cB_eq rfl).trans (good_taken hp))).trans (ex_err ((cB_eq rfl).trans (odd_refused ho))))
theorem c5 (hp : p ∈ goodL) (hw : ManyD w) : F_labels_of [p, .int a, w] M = .err "BadNumber" ["part"] [.str "many"] M := by
  unfold F_labels_of B_labels_of
  exact def_ex rfl ((ex_ok ((cB_eq rfl).trans (good_taken hp))).trans ((ex_ok ((cB_eq rfl).trans int_taken)).trans (ex_err ((cB_eq rfl).trans (many_refused hw)))))
theorem c6 (hd : d ∈ badL) : F_sum_of [d, o, w] M = .err "BadPoint" ["part"] [.str "point"] M := by
  unfold F_sum_of B_sum_of
  exact def_ex rfl (ex_err ((cB_eq rfl).trans (bad_refused hd)))
theorem c7 (hp : p ∈ goodL) (ho : o ∈ oddL) : F_sum_of [p, o, w] M = .err "BadNumber" ["part"] [.str "first"] M := by
  unfold F_sum_of B_sum_of
  exact def_ex rfl ((ex_ok ((cB_eq rfl).trans (good_taken hp))).trans (ex_err ((cB_eq rfl).trans (odd_refused ho))))
theorem c8 (hp : p ∈ goodL) (hw : LessD w) : F_sum_of [p, .int a, w] M = .err "BadNumber" ["part"] [.str "many"] M := by
  unfold F_sum_of B_sum_of
  exact def_ex rfl ((ex_ok ((cB_eq rfl).trans (good_taken hp))).trans ((ex_ok ((cB_eq rfl).trans int_taken)).trans (ex_err ((cB_eq rfl).trans (less_refused hw)))))
theorem c9 (hd : d ∈ badL) : F_comes_again [d] M = .err "BadPoint" ["part"] [.str "point"] M := by
  unfold F_comes_again B_comes_again
  exact def_ex rfl (ex_err ((cB_eq rfl).trans (bad_refused hd)))
/-! what is heard -/
variable {act : C D}
theorem heard_n (h : act M = .err "BadNumber" ["part"] [.str s] M) : H__law_heard act M = .ok (.tup [.str "number", .str s]) M := by
  unfold H__law_heard dHd sSeq sTry sEx lift
  simp only [h]
  rfl
theorem heard_p (h : act M = .err "BadPoint" ["part"] [.str s] M) : H__law_heard act M = .ok (.tup [.str "point", .str s]) M := by
  unfold H__law_heard dHd sSeq sTry sEx lift
  simp only [h]
  rfl
theorem heard_none (h : act M = .ok d M) : H__law_heard act M = .ok .non M := by
  unfold H__law_heard dHd sSeq sTry sEx lift
  simp only [h]
  rfl
variable {fE : DL.Env → C D} {HH : C D → C D}
theorem lm0 (h : Tb M) (e : HH (fE ρ) M = .ok w M) : dLm 0 "_law_calls_right" "_law_calls_right.<locals>.<lambda>" HH fE ρ M = .ok w M := by
  unfold dLm
  rw [h.1]
  exact (if_pos ⟨rfl, rfl⟩).trans e
theorem lm1 (h : Tb M) (e : HH (fE ρ) M = .ok w M) : dLm 1 "_law_labels_right" "_law_labels_right.<locals>.<lambda>" HH fE ρ M = .ok w M := by
  unfold dLm
  rw [h.2]
  exact (if_pos ⟨rfl, rfl⟩).trans e
end
end My
end
section
set_option Elab.async false
set_option linter.all false
set_option maxRecDepth 100000
set_option maxHeartbeats 4000000
namespace My
open PySem PySem.Spec PyProof.Rows L2 DL
local macro_rules | `(tactic| walk_at "st") => `(tactic| repeat (first | with_reducible refine Eq.mpr wp_seq ?_ | with_reducible refine Eq.mpr wp_sSet ?_ | with_reducible refine Eq.mpr wp_sIf ?_ | with_reducible refine Eq.mpr wp_sRt ?_ | with_reducible refine Eq.mpr wp_sEx ?_ | with_reducible refine Eq.mpr seqQ_nx ?_ | ((with_reducible apply st_var); exact rfl) | with_reducible refine Eq.mpr seqQ_rt ?_ | with_reducible refine Eq.mpr seqQ_ex ?_ | with_reducible refine Eq.mpr seqQ_bk ?_ | with_reducible refine Eq.mpr seqQ_ct ?_ | with_reducible refine Eq.mpr wp_sNx ?_ | with_reducible refine Eq.mpr wp_par2 ?_ | with_reducible refine Eq.mpr wp_par3 ?_ | with_reducible refine Eq.mpr wp_sAsg2' ?_ | with_reducible refine Eq.mpr wp_sAug ?_ | with_reducible refine Eq.mpr wp_sSub ?_ | with_reducible refine Eq.mpr wp_tV ?_ | with_reducible refine Eq.mpr wp_asB ?_ | with_reducible refine Eq.mpr wp_tNot ?_ | with_reducible refine Eq.mpr wp_tAnd ?_ | with_reducible refine Eq.mpr wp_tOr ?_ | with_reducible refine Eq.mpr wp_vAnd ?_ | with_reducible refine Eq.mpr wp_vOr ?_ | with_reducible refine Eq.mpr wp_vNot ?_ | with_reducible refine Eq.mpr wp_vIf ?_ | with_reducible refine Eq.mpr wp_dB ?_ | with_reducible refine Eq.mpr wp_dU ?_ | with_reducible refine Eq.mpr wp_cB ?_ | with_reducible refine Eq.mpr wp_aNil ?_ | with_reducible refine Eq.mpr wp_aCons ?_ | with_reducible refine Eq.mpr wp_dC ?_ | with_reducible refine Eq.mpr wp_chain ?_ | with_reducible refine Eq.mpr wp_sub ?_ | with_reducible refine Eq.mpr wp_add ?_ | with_reducible refine Eq.mpr wp_lt ?_ | with_reducible refine Eq.mpr wp_le ?_ | with_reducible refine Eq.mpr wp_gt ?_ | with_reducible refine Eq.mpr wp_ge ?_ | with_reducible refine Eq.mpr wp_neg ?_ | with_reducible refine Eq.mpr wp_eqs ?_ | with_reducible refine Eq.mpr wp_eqi ?_ | with_reducible refine Eq.mpr wp_isN ?_ | with_reducible refine Eq.mpr wp_isNn ?_ | with_reducible refine Eq.mpr wp_int ?_ | with_reducible refine Eq.mpr wp_intb ?_ | with_reducible refine Eq.mpr wp_abs ?_ | with_reducible refine Eq.mpr wp_gcd ?_ | with_reducible refine Eq.mpr wp_iadd ?_ | with_reducible refine Eq.mpr wp_isub ?_ | with_reducible refine Eq.mpr wp_dDic0 ?_ | with_reducible refine Eq.mpr wp_pure ?_ | with_reducible refine Eq.mpr wp_ok ?_ | with_reducible refine Eq.mpr outC_rt ?_ | with_reducible refine Eq.mpr outC_nx ?_ | with_reducible refine Eq.mpr outC_ex ?_ | with_reducible refine Eq.mpr wp_dSlice ?_ | with_reducible refine Eq.mpr wp_pNo ?_ | with_reducible refine Eq.mpr wp_pSo ?_ | with_reducible refine Eq.mpr wp_asIo ?_ | with_reducible refine Eq.mpr wp_dSlL ?_ | with_reducible refine Eq.mpr wp_dSlT ?_ | with_reducible refine Eq.mpr wp_revL ?_ | with_reducible refine Eq.mpr wp_kRevL ?_ | with_reducible refine Eq.mpr wp_dZipS ?_ | with_reducible refine Eq.mpr wp_dRng ?_ | with_reducible refine Eq.mpr wp_zipLL ?_ | with_reducible refine Eq.mpr wp_zipLT ?_ | with_reducible refine Eq.mpr wp_zipTL ?_ | with_reducible refine Eq.mpr wp_zipTT ?_ | with_reducible refine Eq.mpr wp_enuL ?_ | with_reducible refine Eq.mpr wp_enuT ?_ | with_reducible refine wp_eqok ix_t0 ?_ | with_reducible refine wp_eqok ix_t1 ?_ | with_reducible refine wp_eqok ix_l0 ?_ | with_reducible refine wp_eqok ix_l1 ?_ | with_reducible refine Eq.mpr wp_dDic1 ?_ | with_reducible refine Eq.mpr wp_dTup ?_ | with_reducible refine Eq.mpr wp_dLst ?_ | with_reducible refine Eq.mpr wp_dLstM ?_ | ((with_reducible refine Eq.mpr wp_mod ⟨?_, ?_⟩); (first | decide | omega | (walk_at "sd"))) | ((with_reducible refine Eq.mpr wp_fdiv ⟨?_, ?_⟩); (first | decide | omega | (walk_at "sd"))) | ((with_reducible refine Eq.mpr wp_pow ⟨?_, ?_⟩); (first | decide | omega | (walk_at "sd"))) | ((with_reducible refine Eq.mpr wp_mul ⟨?_, ?_⟩); (first | decide | omega | (walk_at "sd"))) | ((with_reducible refine Eq.mpr wp_rng1 ⟨?_, ?_⟩); (first | decide | omega | (walk_at "sd"))) | ((with_reducible refine Eq.mpr wp_rng2 ⟨?_, ?_⟩); (first | decide | omega | (walk_at "sd"))) | ((with_reducible refine Eq.mpr wp_dLcm ⟨?_, ?_⟩); (first | decide | omega | (walk_at "sd"))) | (refine And.intro (by simp only [List.length_cons, List.length_nil, Nat.reduceAdd, Nat.zero_add]; decide) ?_) | with_reducible refine st_ift rfl ?_ | with_reducible refine st_iff (by decide) ?_ | with_reducible refine Eq.mpr (if_pos rfl) ?_ | with_reducible refine Eq.mpr (if_neg (by decide)) ?_ | (with_reducible refine st_asg ?_) | (refine ⟨_, put2_t, ?_⟩) | (refine ⟨_, put2_l, ?_⟩)))
section
variable {n : Nat} {B m : Int} {M : Sto} {E : EC} {ds ls es : List D} {Q : D → Sto → Prop} {d o p w : D} {a u : Int} {s x : Str}
theorem law_integer_ok (h : Sg n B M) (hB : B ≤ 400000) (q : ∀ d M', d ∈ oddL → Sg n (B + 1) M' → M'.length = M.length → Q d M') : wp (F__law_integer [.ptr n] M) Q E := by
  unfold F__law_integer
  refine st_def rfl ?_
  simp only [List.map_cons, List.map_nil, List.replicate, Nat.reduceSub, List.cons_append, List.nil_append]
  unfold B__law_integer
  walk_at "st"
  exact one h (by omega) (by decide) (by decide) fun d M' hd h1 h2 => q d M' hd h1 h2
theorem law_point_ok (h : Sg n B M) (hB : B ≤ 400000) (q : ∀ d M', d ∈ badL → Sg n (B + 1) M' → M'.length = M.length → Q d M') : wp (F__law_point [.ptr n] M) Q E := by
  unfold F__law_point
  refine st_def rfl ?_
  simp only [List.map_cons, List.map_nil, List.replicate, Nat.reduceSub, List.cons_append, List.nil_append]
  unfold B__law_point
  walk_at "st"
  exact one h (by omega) (by decide) (by decide) fun d M' hd h1 h2 => q d M' hd h1 h2
theorem getL {x : MO} : (M ++ [x])[M.length]? = some x := by simp
theorem Sg.lt (h : Sg n B M) : n < M.length := by
  obtain ⟨cs, t, l, h1, _⟩ := h.gau
  exact (List.getElem?_eq_some_iff.mp h1).1
theorem Sg.app {z : MO} (h : Sg n B M) : Sg n B (M ++ [z]) := by
  have l := h.lt
  have h2 := h.two
  obtain ⟨cs, t, k, h1, r⟩ := h.gau
  exact ⟨h2, ⟨cs, t, k, by rw [List.getElem?_append_left l]; exact h1, r⟩, by rw [List.getElem?_append_left (by omega)]; exact h.tb.1, by rw [List.getElem?_append_left (by omega)]; exact h.tb.2⟩
theorem Sg.set {z : MO} {k : Nat} (h : Sg n B M) (hk : n < k) : Sg n B (M.set k z) := by
  have h2 := h.two
  obtain ⟨cs, t, l, h1, r⟩ := h.gau
  exact ⟨h2, ⟨cs, t, l, by rw [List.getElem?_set_ne (by omega)]; exact h1, r⟩, by rw [List.getElem?_set_ne (by omega)]; exact h.tb.1, by rw [List.getElem?_set_ne (by omega)]; exact h.tb.2⟩
theorem Sg.mono {C : Int} (h : Sg n B M) (l : B ≤ C) : Sg n C M := ⟨h.two, h.gau.mono l, h.tb⟩
theorem addM_p {k : Nat} (hp : M[k]? = some (.lst ls)) (hl : ls.length + ds.length ≤ sizeLine) (q : Q (.ptr M.length) (M ++ [.lst (ls ++ ds)])) : wp (dAddM (.ptr k) (.lst ds) M) Q E := by
  have : dAddM (.ptr k) (.lst ds) M = .ok (.ptr M.length) (M ++ [.lst (ls ++ ds)]) := by
    unfold dAddM
    have e1 : lstIn M (.ptr k) = some ls := by
      have : lstIn M (.ptr k) = (match M[k]? with
        | some (MO.lst ds) => some ds
        | _ => none) := rfl
      rw [this, hp]
    have e2 : lstIn M (.lst ds) = some ds := rfl
    rw [e1, e2]
    dsimp only
    rw [if_pos hl]
    rfl
  exact wp_eqok this q
theorem addM_l (hl : ls.length + ds.length ≤ sizeLine) (q : Q (.ptr M.length) (M ++ [.lst (ls ++ ds)])) : wp (dAddM (.lst ls) (.lst ds) M) Q E := by
  have : dAddM (.lst ls) (.lst ds) M = .ok (.ptr M.length) (M ++ [.lst (ls ++ ds)]) := by
    unfold dAddM
    have e1 : lstIn M (.lst ls) = some ls := rfl
    have e2 : lstIn M (.lst ds) = some ds := rfl
    rw [e1, e2]
    dsimp only
    rw [if_pos hl]
    rfl
  exact wp_eqok this q
def tn (s : Str) : D := .tup [.str "number", .str s]
def tp' : D := .tup [.str "point", .str "point"]
end
/-- the law's calls, from the first that is heard -/
noncomputable def B_calls2 : SF :=
    sSeq (sAsg (dLstM (aCons (dLm 0 "_law_calls_right" "_law_calls_right.<locals>.<lambda>" H__law_heard (cB F_label_at (aCons (dVar 2) (aCons (dVar 3) (aNil))))) (aCons (dLm 0 "_law_calls_right" "_law_calls_right.<locals>.<lambda>" H__law_heard (cK F_label_at 0 2 [1, 0] aNil (aCons (dVar 3) (aCons (dVar 1) (aNil))))) (aNil)))) (.nm 7))
    (sSeq (sAsg (dB dAddM (dVar 7) (dLst (aCons (dLm 0 "_law_calls_right" "_law_calls_right.<locals>.<lambda>" H__law_heard (cB F_labels_of (aCons (dVar 2) (aCons (dVar 3) (aCons (dVar 6) (aNil)))))) (aCons (dLm 0 "_law_calls_right" "_law_calls_right.<locals>.<lambda>" H__law_heard (cB F_labels_of (aCons (dVar 1) (aCons (dVar 3) (aCons (dVar 6) (aNil)))))) (aNil))))) (.nm 7))
    (sSeq (sEx (mB "list" dApp (dVar 7) (aCons (dLm 0 "_law_calls_right" "_law_calls_right.<locals>.<lambda>" H__law_heard (cK F_labels_of 0 3 [2, 1, 0] aNil (aCons (dVar 6) (aCons (dC (.int 4)) (aCons (dVar 1) (aNil)))))) (aNil))))
    (sSeq (sAsg (dB dAddM (dFrz (dVar 7)) (dLst (aCons (dLm 0 "_law_calls_right" "_law_calls_right.<locals>.<lambda>" H__law_heard (cB F_sum_of (aCons (dVar 2) (aCons (dVar 3) (aCons (dVar 5) (aNil)))))) (aCons (dLm 0 "_law_calls_right" "_law_calls_right.<locals>.<lambda>" H__law_heard (cB F_sum_of (aCons (dVar 1) (aCons (dVar 3) (aCons (dVar 5) (aNil)))))) (aNil))))) (.nm 7))
    (sSeq (sAsg (dB dAddM (dFrz (dVar 7)) (dLst (aCons (dLm 0 "_law_calls_right" "_law_calls_right.<locals>.<lambda>" H__law_heard (cB F_sum_of (aCons (dVar 1) (aCons (dC (.int 0)) (aCons (dVar 5) (aNil)))))) (aCons (dLm 0 "_law_calls_right" "_law_calls_right.<locals>.<lambda>" H__law_heard (cB F_comes_again (aCons (dVar 2) (aNil)))) (aNil))))) (.nm 7))
    (sSeq (sAsg (dLst (aCons (dTup (aCons (dC (.str "point")) (aCons (dC (.str "point")) (aNil)))) (aCons (dTup (aCons (dC (.str "number")) (aCons (dC (.str "place")) (aNil)))) (aCons (dTup (aCons (dC (.str "point")) (aCons (dC (.str "point")) (aNil)))) (aCons (dTup (aCons (dC (.str "number")) (aCons (dC (.str "first")) (aNil)))) (aCons (dTup (aCons (dC (.str "number")) (aCons (dC (.str "many")) (aNil)))) (aNil))))))) (.nm 8))
    (sRt (dB (dEqv false) (dFrz (dVar 7)) (dB dAdd (dVar 8) (dLst (aCons (dTup (aCons (dC (.str "point")) (aCons (dC (.str "point")) (aNil)))) (aCons (dTup (aCons (dC (.str "number")) (aCons (dC (.str "first")) (aNil)))) (aCons (dTup (aCons (dC (.str "number")) (aCons (dC (.str "many")) (aNil)))) (aCons (dTup (aCons (dC (.str "point")) (aCons (dC (.str "point")) (aNil)))) (aNil))))))))))))))
end My
end
section
set_option Elab.async false
set_option linter.all false
set_option maxRecDepth 100000
set_option maxHeartbeats 4000000
namespace My
open PySem PySem.Spec PyProof.Rows L2 DL
local macro_rules | `(tactic| walk_at "st") => `(tactic| repeat (first | with_reducible refine Eq.mpr wp_seq ?_ | with_reducible refine Eq.mpr wp_sSet ?_ | with_reducible refine Eq.mpr wp_sIf ?_ | with_reducible refine Eq.mpr wp_sRt ?_ | with_reducible refine Eq.mpr wp_sEx ?_ | with_reducible refine Eq.mpr seqQ_nx ?_ | ((with_reducible apply st_var); exact rfl) | with_reducible refine Eq.mpr seqQ_rt ?_ | with_reducible refine Eq.mpr seqQ_ex ?_ | with_reducible refine Eq.mpr seqQ_bk ?_ | with_reducible refine Eq.mpr seqQ_ct ?_ | with_reducible refine Eq.mpr wp_sNx ?_ | with_reducible refine Eq.mpr wp_par2 ?_ | with_reducible refine Eq.mpr wp_par3 ?_ | with_reducible refine Eq.mpr wp_sAsg2' ?_ | with_reducible refine Eq.mpr wp_sAug ?_ | with_reducible refine Eq.mpr wp_sSub ?_ | with_reducible refine Eq.mpr wp_tV ?_ | with_reducible refine Eq.mpr wp_asB ?_ | with_reducible refine Eq.mpr wp_tNot ?_ | with_reducible refine Eq.mpr wp_tAnd ?_ | with_reducible refine Eq.mpr wp_tOr ?_ | with_reducible refine Eq.mpr wp_vAnd ?_ | with_reducible refine Eq.mpr wp_vOr ?_ | with_reducible refine Eq.mpr wp_vNot ?_ | with_reducible refine Eq.mpr wp_vIf ?_ | with_reducible refine Eq.mpr wp_dB ?_ | with_reducible refine Eq.mpr wp_dU ?_ | with_reducible refine Eq.mpr wp_cB ?_ | with_reducible refine Eq.mpr wp_aNil ?_ | with_reducible refine Eq.mpr wp_aCons ?_ | with_reducible refine Eq.mpr wp_dC ?_ | with_reducible refine Eq.mpr wp_chain ?_ | with_reducible refine Eq.mpr wp_sub ?_ | with_reducible refine Eq.mpr wp_add ?_ | with_reducible refine Eq.mpr wp_lt ?_ | with_reducible refine Eq.mpr wp_le ?_ | with_reducible refine Eq.mpr wp_gt ?_ | with_reducible refine Eq.mpr wp_ge ?_ | with_reducible refine Eq.mpr wp_neg ?_ | with_reducible refine Eq.mpr wp_eqs ?_ | with_reducible refine Eq.mpr wp_eqi ?_ | with_reducible refine Eq.mpr wp_isN ?_ | with_reducible refine Eq.mpr wp_isNn ?_ | with_reducible refine Eq.mpr wp_int ?_ | with_reducible refine Eq.mpr wp_intb ?_ | with_reducible refine Eq.mpr wp_abs ?_ | with_reducible refine Eq.mpr wp_gcd ?_ | with_reducible refine Eq.mpr wp_iadd ?_ | with_reducible refine Eq.mpr wp_isub ?_ | with_reducible refine Eq.mpr wp_dDic0 ?_ | with_reducible refine Eq.mpr wp_pure ?_ | with_reducible refine Eq.mpr wp_ok ?_ | with_reducible refine Eq.mpr outC_rt ?_ | with_reducible refine Eq.mpr outC_nx ?_ | with_reducible refine Eq.mpr outC_ex ?_ | with_reducible refine Eq.mpr wp_dSlice ?_ | with_reducible refine Eq.mpr wp_pNo ?_ | with_reducible refine Eq.mpr wp_pSo ?_ | with_reducible refine Eq.mpr wp_asIo ?_ | with_reducible refine Eq.mpr wp_dSlL ?_ | with_reducible refine Eq.mpr wp_dSlT ?_ | with_reducible refine Eq.mpr wp_revL ?_ | with_reducible refine Eq.mpr wp_kRevL ?_ | with_reducible refine Eq.mpr wp_dZipS ?_ | with_reducible refine Eq.mpr wp_dRng ?_ | with_reducible refine Eq.mpr wp_zipLL ?_ | with_reducible refine Eq.mpr wp_zipLT ?_ | with_reducible refine Eq.mpr wp_zipTL ?_ | with_reducible refine Eq.mpr wp_zipTT ?_ | with_reducible refine Eq.mpr wp_enuL ?_ | with_reducible refine Eq.mpr wp_enuT ?_ | with_reducible refine wp_eqok ix_t0 ?_ | with_reducible refine wp_eqok ix_t1 ?_ | with_reducible refine wp_eqok ix_l0 ?_ | with_reducible refine wp_eqok ix_l1 ?_ | with_reducible refine Eq.mpr wp_dDic1 ?_ | with_reducible refine Eq.mpr wp_dTup ?_ | with_reducible refine Eq.mpr wp_dLst ?_ | with_reducible refine Eq.mpr wp_dLstM ?_ | ((with_reducible refine Eq.mpr wp_mod ⟨?_, ?_⟩); (first | decide | omega | (walk_at "sd"))) | ((with_reducible refine Eq.mpr wp_fdiv ⟨?_, ?_⟩); (first | decide | omega | (walk_at "sd"))) | ((with_reducible refine Eq.mpr wp_pow ⟨?_, ?_⟩); (first | decide | omega | (walk_at "sd"))) | ((with_reducible refine Eq.mpr wp_mul ⟨?_, ?_⟩); (first | decide | omega | (walk_at "sd"))) | ((with_reducible refine Eq.mpr wp_rng1 ⟨?_, ?_⟩); (first | decide | omega | (walk_at "sd"))) | ((with_reducible refine Eq.mpr wp_rng2 ⟨?_, ?_⟩); (first | decide | omega | (walk_at "sd"))) | ((with_reducible refine Eq.mpr wp_dLcm ⟨?_, ?_⟩); (first | decide | omega | (walk_at "sd"))) | (refine And.intro (by simp only [List.length_cons, List.length_nil, Nat.reduceAdd, Nat.zero_add]; decide) ?_) | with_reducible refine st_ift rfl ?_ | with_reducible refine st_iff (by decide) ?_ | with_reducible refine Eq.mpr (if_pos rfl) ?_ | with_reducible refine Eq.mpr (if_neg (by decide)) ?_ | (with_reducible refine st_asg ?_) | (refine ⟨_, put2_t, ?_⟩) | (refine ⟨_, put2_l, ?_⟩)))
theorem eq_same {M : Sto} {d : D} {q : PyData} (e : ∀ M, pyM M d = some q) (hn : notStr d = true) (hs : SeqAt.shaped q = true) (he : PyData.eqv q q = true) : dEqv false d d M = .ok (.bl true) M := by
  rw [eqv_unf hn, e M]
  dsimp only
  rw [hs, he]
  rfl
def dueL : D := .lst [.tup [.str "point", .str "point"], .tup [.str "number", .str "place"], .tup [.str "point", .str "point"], .tup [.str "number", .str "first"], .tup [.str "number", .str "many"], .tup [.str "point", .str "point"], .tup [.str "number", .str "first"], .tup [.str "number", .str "many"], .tup [.str "point", .str "point"]]
theorem due_same {M : Sto} : dEqv false dueL dueL M = .ok (.bl true) M := eq_same (fun _ => rfl) rfl (by decide +kernel) (by decide +kernel)
section
variable {n : Nat} {B : Int} {M : Sto} {E : EC} {p d o nn le ma : D}
theorem calls2 (h : Sg n B M) (hp : p ∈ goodL) (hd : d ∈ badL) (ho : o ∈ oddL) (hle : LessD le) (hma : ManyD ma) :
    wp (B_calls2 [some (.ptr n), some p, some d, some o, some nn, some le, some ma, none, none] M) (fun o' M' => o' = .rt (.bl true) ∧ Sg n B M') (fun _ _ _ _ => False) := by
  unfold B_calls2
  walk_at "st"
  refine wp_eqok (lm0 h.tb (heard_p ((cB_eq rfl).trans (c1 hd)))) ?_
  walk_at "st"
  refine wp_eqok (lm0 h.tb (heard_n ((show cK F_label_at 0 2 [1, 0] aNil _ _ M = F_label_at [p, o] M from rfl).trans (c2 hp ho)))) ?_
  walk_at "st"
  have h1 := h.app (z := .lst [.tup [.str "point", .str "point"], .tup [.str "number", .str "place"]])
  refine wp_eqok (lm0 h1.tb (heard_p ((cB_eq rfl).trans (c3 hd)))) ?_
  walk_at "st"
  refine wp_eqok (lm0 h1.tb (heard_n ((cB_eq rfl).trans (c4 hp ho)))) ?_
  walk_at "st"
  refine addM_p getL (show 2 + 2 ≤ sizeLine by decide) ?_
  walk_at "st"
  have h2 := h1.app (z := .lst ([.tup [.str "point", .str "point"], .tup [.str "number", .str "place"]] ++ [.tup [.str "point", .str "point"], .tup [.str "number", .str "first"]]))
  have l1 := h1.lt
  have g2 := getL (M := M ++ [MO.lst [.tup [.str "point", .str "point"], .tup [.str "number", .str "place"]]]) (x := .lst ([.tup [.str "point", .str "point"], .tup [.str "number", .str "place"]] ++ [.tup [.str "point", .str "point"], .tup [.str "number", .str "first"]]))
  generalize (M ++ [MO.lst [D.tup [.str "point", .str "point"], D.tup [.str "number", .str "place"]]]) ++ [MO.lst ([D.tup [.str "point", .str "point"], D.tup [.str "number", .str "place"]] ++ [D.tup [.str "point", .str "point"], D.tup [.str "number", .str "first"]])] = M2 at *
  generalize (M ++ [MO.lst [D.tup [.str "point", .str "point"], D.tup [.str "number", .str "place"]]]).length = k2 at *
  refine wp_app rfl g2 ?_
  walk_at "st"
  refine wp_eqok (lm0 h2.tb (heard_n ((show cK F_labels_of 0 3 [2, 1, 0] aNil _ _ M2 = F_labels_of [p, .int 4, ma] M2 from rfl).trans (c5 hp hma)))) ?_
  walk_at "st"
  refine ⟨_, _, rfl, g2, (by decide), ?_⟩
  walk_at "st"
  have h3 := h2.set (k := k2) (z := .lst ([D.tup [.str "point", .str "point"], D.tup [.str "number", .str "place"]] ++ [D.tup [.str "point", .str "point"], D.tup [.str "number", .str "first"]] ++ [D.tup [.str "number", .str "many"]])) l1
  have g3 : (M2.set k2 (.lst ([D.tup [.str "point", .str "point"], D.tup [.str "number", .str "place"]] ++ [D.tup [.str "point", .str "point"], D.tup [.str "number", .str "first"]] ++ [D.tup [.str "number", .str "many"]])))[k2]? = some (.lst ([D.tup [.str "point", .str "point"], D.tup [.str "number", .str "place"]] ++ [D.tup [.str "point", .str "point"], D.tup [.str "number", .str "first"]] ++ [D.tup [.str "number", .str "many"]])) :=
    List.getElem?_set_self (List.getElem?_eq_some_iff.mp g2).1
  generalize M2.set k2 (.lst ([D.tup [.str "point", .str "point"], D.tup [.str "number", .str "place"]] ++ [D.tup [.str "point", .str "point"], D.tup [.str "number", .str "first"]] ++ [D.tup [.str "number", .str "many"]])) = M3 at *
  refine wp_frz rfl g3 ?_
  have h4 := h3.set (k := k2) (z := .frz (.lst ([D.tup [.str "point", .str "point"], D.tup [.str "number", .str "place"]] ++ [D.tup [.str "point", .str "point"], D.tup [.str "number", .str "first"]] ++ [D.tup [.str "number", .str "many"]]))) l1
  generalize M3.set k2 (.frz (.lst ([D.tup [.str "point", .str "point"], D.tup [.str "number", .str "place"]] ++ [D.tup [.str "point", .str "point"], D.tup [.str "number", .str "first"]] ++ [D.tup [.str "number", .str "many"]]))) = M4 at *
  walk_at "st"
  refine wp_eqok (lm0 h4.tb (heard_p ((cB_eq rfl).trans (c6 hd)))) ?_
  walk_at "st"
  refine wp_eqok (lm0 h4.tb (heard_n ((cB_eq rfl).trans (c7 hp ho)))) ?_
  walk_at "st"
  refine addM_l (show 5 + 2 ≤ sizeLine by decide) ?_
  walk_at "st"
  generalize hL7 : [D.tup [.str "point", .str "point"], D.tup [.str "number", .str "place"]] ++ [D.tup [.str "point", .str "point"], D.tup [.str "number", .str "first"]] ++ [D.tup [.str "number", .str "many"]] ++ [D.tup [.str "point", .str "point"], D.tup [.str "number", .str "first"]] = L7
  refine wp_frz rfl getL ?_
  have h5 := (h4.app (z := .lst L7)).set (k := M4.length) (z := .frz (.lst L7)) h4.lt
  generalize (M4 ++ [MO.lst L7]).set M4.length (.frz (.lst L7)) = M5 at *
  walk_at "st"
  refine wp_eqok (lm0 h5.tb (heard_n ((cB_eq rfl).trans (c8 hp hle)))) ?_
  walk_at "st"
  refine wp_eqok (lm0 h5.tb (heard_p ((cB_eq rfl).trans (c9 hd)))) ?_
  walk_at "st"
  refine addM_l (show L7.length + 2 ≤ sizeLine by rw [← hL7]; decide) ?_
  walk_at "st"
  generalize hL9 : L7 ++ [D.tup [.str "number", .str "many"], D.tup [.str "point", .str "point"]] = L9
  refine wp_frz rfl getL ?_
  have h6 := (h5.app (z := .lst L9)).set (k := M5.length) (z := .frz (.lst L9)) h5.lt
  generalize (M5 ++ [MO.lst L9]).set M5.length (.frz (.lst L9)) = M6 at *
  walk_at "st"
  refine wp_eqok rfl ?_
  subst hL9
  subst hL7
  refine wp_eqok (show dEqv false dueL dueL M6 = .ok (.bl true) M6 from due_same) ?_
  walk_at "st"
  exact ⟨rfl, h6⟩
end
end My
end
section
set_option Elab.async false
set_option linter.all false
set_option maxRecDepth 100000
set_option maxHeartbeats 4000000
namespace My
open PySem PySem.Spec PyProof.Rows L2 DL
local macro_rules | `(tactic| walk_at "st") => `(tactic| repeat (first | with_reducible refine Eq.mpr wp_seq ?_ | with_reducible refine Eq.mpr wp_sSet ?_ | with_reducible refine Eq.mpr wp_sIf ?_ | with_reducible refine Eq.mpr wp_sRt ?_ | with_reducible refine Eq.mpr wp_sEx ?_ | with_reducible refine Eq.mpr seqQ_nx ?_ | ((with_reducible apply st_var); exact rfl) | with_reducible refine Eq.mpr seqQ_rt ?_ | with_reducible refine Eq.mpr seqQ_ex ?_ | with_reducible refine Eq.mpr seqQ_bk ?_ | with_reducible refine Eq.mpr seqQ_ct ?_ | with_reducible refine Eq.mpr wp_sNx ?_ | with_reducible refine Eq.mpr wp_par2 ?_ | with_reducible refine Eq.mpr wp_par3 ?_ | with_reducible refine Eq.mpr wp_sAsg2' ?_ | with_reducible refine Eq.mpr wp_sAug ?_ | with_reducible refine Eq.mpr wp_sSub ?_ | with_reducible refine Eq.mpr wp_tV ?_ | with_reducible refine Eq.mpr wp_asB ?_ | with_reducible refine Eq.mpr wp_tNot ?_ | with_reducible refine Eq.mpr wp_tAnd ?_ | with_reducible refine Eq.mpr wp_tOr ?_ | with_reducible refine Eq.mpr wp_vAnd ?_ | with_reducible refine Eq.mpr wp_vOr ?_ | with_reducible refine Eq.mpr wp_vNot ?_ | with_reducible refine Eq.mpr wp_vIf ?_ | with_reducible refine Eq.mpr wp_dB ?_ | with_reducible refine Eq.mpr wp_dU ?_ | with_reducible refine Eq.mpr wp_cB ?_ | with_reducible refine Eq.mpr wp_aNil ?_ | with_reducible refine Eq.mpr wp_aCons ?_ | with_reducible refine Eq.mpr wp_dC ?_ | with_reducible refine Eq.mpr wp_chain ?_ | with_reducible refine Eq.mpr wp_sub ?_ | with_reducible refine Eq.mpr wp_add ?_ | with_reducible refine Eq.mpr wp_lt ?_ | with_reducible refine Eq.mpr wp_le ?_ | with_reducible refine Eq.mpr wp_gt ?_ | with_reducible refine Eq.mpr wp_ge ?_ | with_reducible refine Eq.mpr wp_neg ?_ | with_reducible refine Eq.mpr wp_eqs ?_ | with_reducible refine Eq.mpr wp_eqi ?_ | with_reducible refine Eq.mpr wp_isN ?_ | with_reducible refine Eq.mpr wp_isNn ?_ | with_reducible refine Eq.mpr wp_int ?_ | with_reducible refine Eq.mpr wp_intb ?_ | with_reducible refine Eq.mpr wp_abs ?_ | with_reducible refine Eq.mpr wp_gcd ?_ | with_reducible refine Eq.mpr wp_iadd ?_ | with_reducible refine Eq.mpr wp_isub ?_ | with_reducible refine Eq.mpr wp_dDic0 ?_ | with_reducible refine Eq.mpr wp_pure ?_ | with_reducible refine Eq.mpr wp_ok ?_ | with_reducible refine Eq.mpr outC_rt ?_ | with_reducible refine Eq.mpr outC_nx ?_ | with_reducible refine Eq.mpr outC_ex ?_ | with_reducible refine Eq.mpr wp_dSlice ?_ | with_reducible refine Eq.mpr wp_pNo ?_ | with_reducible refine Eq.mpr wp_pSo ?_ | with_reducible refine Eq.mpr wp_asIo ?_ | with_reducible refine Eq.mpr wp_dSlL ?_ | with_reducible refine Eq.mpr wp_dSlT ?_ | with_reducible refine Eq.mpr wp_revL ?_ | with_reducible refine Eq.mpr wp_kRevL ?_ | with_reducible refine Eq.mpr wp_dZipS ?_ | with_reducible refine Eq.mpr wp_dRng ?_ | with_reducible refine Eq.mpr wp_zipLL ?_ | with_reducible refine Eq.mpr wp_zipLT ?_ | with_reducible refine Eq.mpr wp_zipTL ?_ | with_reducible refine Eq.mpr wp_zipTT ?_ | with_reducible refine Eq.mpr wp_enuL ?_ | with_reducible refine Eq.mpr wp_enuT ?_ | with_reducible refine wp_eqok ix_t0 ?_ | with_reducible refine wp_eqok ix_t1 ?_ | with_reducible refine wp_eqok ix_l0 ?_ | with_reducible refine wp_eqok ix_l1 ?_ | with_reducible refine Eq.mpr wp_dDic1 ?_ | with_reducible refine Eq.mpr wp_dTup ?_ | with_reducible refine Eq.mpr wp_dLst ?_ | with_reducible refine Eq.mpr wp_dLstM ?_ | ((with_reducible refine Eq.mpr wp_mod ⟨?_, ?_⟩); (first | decide | omega | (walk_at "sd"))) | ((with_reducible refine Eq.mpr wp_fdiv ⟨?_, ?_⟩); (first | decide | omega | (walk_at "sd"))) | ((with_reducible refine Eq.mpr wp_pow ⟨?_, ?_⟩); (first | decide | omega | (walk_at "sd"))) | ((with_reducible refine Eq.mpr wp_mul ⟨?_, ?_⟩); (first | decide | omega | (walk_at "sd"))) | ((with_reducible refine Eq.mpr wp_rng1 ⟨?_, ?_⟩); (first | decide | omega | (walk_at "sd"))) | ((with_reducible refine Eq.mpr wp_rng2 ⟨?_, ?_⟩); (first | decide | omega | (walk_at "sd"))) | ((with_reducible refine Eq.mpr wp_dLcm ⟨?_, ?_⟩); (first | decide | omega | (walk_at "sd"))) | (refine And.intro (by simp only [List.length_cons, List.length_nil, Nat.reduceAdd, Nat.zero_add]; decide) ?_) | with_reducible refine st_ift rfl ?_ | with_reducible refine st_iff (by decide) ?_ | with_reducible refine Eq.mpr (if_pos rfl) ?_ | with_reducible refine Eq.mpr (if_neg (by decide)) ?_ | (with_reducible refine st_asg ?_) | (refine ⟨_, put2_t, ?_⟩) | (refine ⟨_, put2_l, ?_⟩)))
section
variable {n : Nat} {B : Int} {M : Sto} {E : EC} {Q : D → Sto → Prop}
theorem calls_ok (h : Sg n B M) (hB : B ≤ 300000) (q : ∀ M', Sg n (B + 10) M' → Q (.bl true) M') : wp (F__law_calls_right [.ptr n] M) Q E := by
  unfold F__law_calls_right
  refine st_def rfl ?_
  simp only [List.map_cons, List.map_nil, List.replicate, Nat.reduceSub, List.cons_append, List.nil_append]
  rw [show B__law_calls_right = sSeq _ (sSeq _ (sSeq _ B_calls2)) from rfl]
  walk_at "st"
  refine one h (by omega) (by decide) (by decide) fun p M1 hp h1 l1 => ?_
  walk_at "st"
  refine law_point_ok h1 (by omega) fun d M2 hd h2 l2 => ?_
  walk_at "st"
  refine law_integer_ok h2 (by omega) fun o M3 ho h3 l3 => ?_
  walk_at "st"
  refine law_integer_ok h3 (by omega) fun nn M4 hn h4 l4 => ?_
  walk_at "st"
  refine ⟨_, rfl, ?_⟩
  walk_at "st"
  refine one h4 (by omega) (by simp) (by simp) fun le M5 hle h5 l5 => ?_
  have hle : LessD le := by
    simp only [List.mem_cons, List.not_mem_nil, or_false] at hle
    rcases hle with rfl | rfl | rfl
    · exact .inl rfl
    · exact .inr (.inl hn)
    · exact .inr (.inr rfl)
  walk_at "st"
  refine one h5 (by omega) (by simp) (by simp) fun ma M6 hma h6 l6 => ?_
  have hma : ManyD ma := by
    simp only [List.mem_cons, List.not_mem_nil, or_false] at hma
    rcases hma with rfl | rfl | rfl
    · exact .inl hle
    · exact .inr (.inl rfl)
    · exact .inr (.inr rfl)
  walk_at "st"
  exact wp_mono (calls2 (B := B + 10) (h6.mono (by omega)) hp hd ho hle hma) (fun o' M' ⟨e, g⟩ => by subst e; rw [outC_rt]; exact q M' g) fun _ _ _ _ z => z
end
end My
end
section
set_option Elab.async false
set_option linter.all false
set_option maxRecDepth 100000
set_option maxHeartbeats 4000000
namespace My
open PySem PySem.Spec PyProof.Rows L2 DL
/-! labels that are none -/
section
variable {M : Sto} {d o : D} {ds : List D} {a : Int}
theorem mul_l {k : Int} (h : 0 ≤ k ∧ k ≤ 9000) : dMul (.lst [.int a]) (.int k) M = .ok (.lst (List.replicate k.toNat (.int a))) M := by
  have e : dMul (.lst [.int a]) (.int k) = if -(2 ^ 63) ≤ k ∧ k < 2 ^ 63 ∧ [D.int a].length * k.toNat ≤ sizeLine then C.pure (.lst (List.replicate k.toNat [D.int a]).flatten) else C.bad := rfl
  have s : 10000 ≤ sizeLine := by decide
  rw [e, if_pos ⟨by omega, by omega, by simp only [List.length_cons, List.length_nil]; omega⟩, List.flatten_replicate_singleton]
  rfl
def bent (v : Nat) (o : D) : List D := [.int 1, .int 2, .int 1, .int 2].set v o
/-- what told_back refuses -/
def RefD (d : D) : Prop := (d = .non ∨ d = .int 5 ∨ d = .str "12" ∨ d = .lst [] ∨ d = .tup [] ∨ d = .dic [.inl 1] [.int 1] ∨ d = .lst [.lst [.int 1]] ∨ d = .lst [.tup [.int 1], .tup [.int 1]]) ∨
  (∃ v o, v < 4 ∧ o ∈ oddL ∧ (d = .lst (bent v o) ∨ d = .tup (bent v o))) ∨ d = .lst (List.replicate 2001 (.int 0))
theorem isl_long : F_is_list [.lst (List.replicate 2001 (.int 0)), .int 1, .int 2000] M = .ok (.bl false) M := by
  rw [islist_l]
  simp
theorem told_refused (h : RefD d) : F_told_back [d] M = .err "BadNumber" ["part"] [.str "labels"] M := by
  rcases h with (rfl | rfl | rfl | rfl | rfl | rfl | rfl | rfl) | ⟨v, o, hv, ho, h⟩ | rfl
  · rfl
  · rfl
  · rfl
  · rfl
  · rfl
  · rfl
  · rfl
  · rfl
  · simp only [oddL, List.mem_cons, List.not_mem_nil, or_false] at ho
    have hv : v = 0 ∨ v = 1 ∨ v = 2 ∨ v = 3 := by omega
    rcases h with rfl | rfl <;> rcases hv with rfl | rfl | rfl | rfl <;> rcases ho with rfl | rfl | rfl | rfl | rfl | rfl | rfl | rfl <;> rfl
  · unfold F_told_back B_told_back
    refine def_ex rfl (ρ' := [some (.lst (List.replicate 2001 (.int 0))), none, none, none, none, none]) ?_
    have e : cB F_is_list (aCons (dVar 0) (aCons (dC (.int 1)) (aCons (dC (.int 2000)) aNil))) [some (.lst (List.replicate 2001 (.int 0))), none, none, none, none, none] M = .ok (.bl false) M := (cB_eq rfl).trans isl_long
    show sSeq (sIf (tOrD (tNotD (tV _)) _) _ _) _ [some (.lst (List.replicate 2001 (.int 0))), none, none, none, none, none] M = _
    unfold sSeq sIf lift tOrD tNotD tV C.bind
    rw [e]
    rfl
theorem told_seven : F_told_back [.lst [.int 7]] M = .ok (.tup [.int 7, .int 8]) M := by rfl
end
end My
end
section
set_option Elab.async false
set_option linter.all false
set_option maxRecDepth 100000
set_option maxHeartbeats 4000000
namespace My
open PySem PySem.Spec PyProof.Rows L2 DL
local macro_rules | `(tactic| walk_at "st") => `(tactic| repeat (first | with_reducible refine Eq.mpr wp_seq ?_ | with_reducible refine Eq.mpr wp_sSet ?_ | with_reducible refine Eq.mpr wp_sIf ?_ | with_reducible refine Eq.mpr wp_sRt ?_ | with_reducible refine Eq.mpr wp_sEx ?_ | with_reducible refine Eq.mpr seqQ_nx ?_ | ((with_reducible apply st_var); exact rfl) | with_reducible refine Eq.mpr seqQ_rt ?_ | with_reducible refine Eq.mpr seqQ_ex ?_ | with_reducible refine Eq.mpr seqQ_bk ?_ | with_reducible refine Eq.mpr seqQ_ct ?_ | with_reducible refine Eq.mpr wp_sNx ?_ | with_reducible refine Eq.mpr wp_par2 ?_ | with_reducible refine Eq.mpr wp_par3 ?_ | with_reducible refine Eq.mpr wp_sAsg2' ?_ | with_reducible refine Eq.mpr wp_sAug ?_ | with_reducible refine Eq.mpr wp_sSub ?_ | with_reducible refine Eq.mpr wp_tV ?_ | with_reducible refine Eq.mpr wp_asB ?_ | with_reducible refine Eq.mpr wp_tNot ?_ | with_reducible refine Eq.mpr wp_tAnd ?_ | with_reducible refine Eq.mpr wp_tOr ?_ | with_reducible refine Eq.mpr wp_vAnd ?_ | with_reducible refine Eq.mpr wp_vOr ?_ | with_reducible refine Eq.mpr wp_vNot ?_ | with_reducible refine Eq.mpr wp_vIf ?_ | with_reducible refine Eq.mpr wp_dB ?_ | with_reducible refine Eq.mpr wp_dU ?_ | with_reducible refine Eq.mpr wp_cB ?_ | with_reducible refine Eq.mpr wp_aNil ?_ | with_reducible refine Eq.mpr wp_aCons ?_ | with_reducible refine Eq.mpr wp_dC ?_ | with_reducible refine Eq.mpr wp_chain ?_ | with_reducible refine Eq.mpr wp_sub ?_ | with_reducible refine Eq.mpr wp_add ?_ | with_reducible refine Eq.mpr wp_lt ?_ | with_reducible refine Eq.mpr wp_le ?_ | with_reducible refine Eq.mpr wp_gt ?_ | with_reducible refine Eq.mpr wp_ge ?_ | with_reducible refine Eq.mpr wp_neg ?_ | with_reducible refine Eq.mpr wp_eqs ?_ | with_reducible refine Eq.mpr wp_eqi ?_ | with_reducible refine Eq.mpr wp_isN ?_ | with_reducible refine Eq.mpr wp_isNn ?_ | with_reducible refine Eq.mpr wp_int ?_ | with_reducible refine Eq.mpr wp_intb ?_ | with_reducible refine Eq.mpr wp_abs ?_ | with_reducible refine Eq.mpr wp_gcd ?_ | with_reducible refine Eq.mpr wp_iadd ?_ | with_reducible refine Eq.mpr wp_isub ?_ | with_reducible refine Eq.mpr wp_dDic0 ?_ | with_reducible refine Eq.mpr wp_pure ?_ | with_reducible refine Eq.mpr wp_ok ?_ | with_reducible refine Eq.mpr outC_rt ?_ | with_reducible refine Eq.mpr outC_nx ?_ | with_reducible refine Eq.mpr outC_ex ?_ | with_reducible refine Eq.mpr wp_dSlice ?_ | with_reducible refine Eq.mpr wp_pNo ?_ | with_reducible refine Eq.mpr wp_pSo ?_ | with_reducible refine Eq.mpr wp_asIo ?_ | with_reducible refine Eq.mpr wp_dSlL ?_ | with_reducible refine Eq.mpr wp_dSlT ?_ | with_reducible refine Eq.mpr wp_revL ?_ | with_reducible refine Eq.mpr wp_kRevL ?_ | with_reducible refine Eq.mpr wp_dZipS ?_ | with_reducible refine Eq.mpr wp_dRng ?_ | with_reducible refine Eq.mpr wp_zipLL ?_ | with_reducible refine Eq.mpr wp_zipLT ?_ | with_reducible refine Eq.mpr wp_zipTL ?_ | with_reducible refine Eq.mpr wp_zipTT ?_ | with_reducible refine Eq.mpr wp_enuL ?_ | with_reducible refine Eq.mpr wp_enuT ?_ | with_reducible refine wp_eqok ix_t0 ?_ | with_reducible refine wp_eqok ix_t1 ?_ | with_reducible refine wp_eqok ix_l0 ?_ | with_reducible refine wp_eqok ix_l1 ?_ | with_reducible refine Eq.mpr wp_dDic1 ?_ | with_reducible refine wp_eqok mul_l ⟨by decide, by decide⟩ ?_ | with_reducible refine Eq.mpr wp_dTup ?_ | with_reducible refine Eq.mpr wp_dLst ?_ | with_reducible refine Eq.mpr wp_dLstM ?_ | ((with_reducible refine Eq.mpr wp_mod ⟨?_, ?_⟩); (first | decide | omega | (walk_at "sd"))) | ((with_reducible refine Eq.mpr wp_fdiv ⟨?_, ?_⟩); (first | decide | omega | (walk_at "sd"))) | ((with_reducible refine Eq.mpr wp_pow ⟨?_, ?_⟩); (first | decide | omega | (walk_at "sd"))) | ((with_reducible refine Eq.mpr wp_mul ⟨?_, ?_⟩); (first | decide | omega | (walk_at "sd"))) | ((with_reducible refine Eq.mpr wp_rng1 ⟨?_, ?_⟩); (first | decide | omega | (walk_at "sd"))) | ((with_reducible refine Eq.mpr wp_rng2 ⟨?_, ?_⟩); (first | decide | omega | (walk_at "sd"))) | ((with_reducible refine Eq.mpr wp_dLcm ⟨?_, ?_⟩); (first | decide | omega | (walk_at "sd"))) | (refine And.intro (by simp only [List.length_cons, List.length_nil, Nat.reduceAdd, Nat.zero_add]; decide) ?_) | with_reducible refine st_ift rfl ?_ | with_reducible refine st_iff (by decide) ?_ | with_reducible refine Eq.mpr (if_pos rfl) ?_ | with_reducible refine Eq.mpr (if_neg (by decide)) ?_ | (with_reducible refine st_asg ?_) | (refine ⟨_, put2_t, ?_⟩) | (refine ⟨_, put2_l, ?_⟩)))
theorem bdK {i : Int} (h : i.natAbs ≤ 2 ^ 62) : Bd 2000 i := Nat.lt_of_le_of_lt h (Nat.pow_lt_pow_right (by omega) (by omega))
section
variable {n : Nat} {B : Int} {M : Sto} {E : EC} {Q : D → Sto → Prop} {d : D} {ds : List D}
theorem ixN4 {v : Int} (h0 : 0 ≤ v) (h1 : v < 4) : ixN 4 v = some v.toNat := by
  have : v = 0 ∨ v = 1 ∨ v = 2 ∨ v = 3 := by omega
  rcases this with rfl | rfl | rfl | rfl <;> rfl
theorem oneB (h : Sg n B M) (hB : B ≤ 500000) (h1 : 1 ≤ ds.length) (h2 : ds.length < 2 ^ 64) (q : ∀ d M', d ∈ ds → Sg n (B + 1) M' → But n M M' → Q d M') : wp (F__law_one [.ptr n, .lst ds] M) Q E :=
  knock_ok.pick h.gau hB h1 h2 fun v M' a b c => q v M' a (h.but c b) c
theorem law_integerB (h : Sg n B M) (hB : B ≤ 400000) (q : ∀ d M', d ∈ oddL → Sg n (B + 1) M' → But n M M' → Q d M') : wp (F__law_integer [.ptr n] M) Q E := by
  unfold F__law_integer
  refine st_def rfl ?_
  simp only [List.map_cons, List.map_nil, List.replicate, Nat.reduceSub, List.cons_append, List.nil_append]
  unfold B__law_integer
  walk_at "st"
  exact oneB h (by omega) (by decide) (by decide) fun d M' hd h1 h2 => q d M' hd h1 h2
def labE : D := .tup [.str "number", .str "labels"]
theorem lab_same : dEqv false labE labE M = .ok (.bl true) M := eq_same (fun _ => rfl) rfl (by decide +kernel) (by decide +kernel)
theorem labels_ok (h : Sg n B M) (hB : B ≤ 300000) (q : ∀ M', Sg n (B + 10) M' → Q (.bl true) M') : wp (F__law_labels_right [.ptr n] M) Q E := by
  unfold F__law_labels_right
  refine st_def rfl ?_
  simp only [List.map_cons, List.map_nil, List.replicate, Nat.reduceSub, List.cons_append, List.nil_append]
  unfold B__law_labels_right
  walk_at "st"
  refine knock h (by omega) (by decide) (bdK (by decide)) fun v M1 v0 v1 h1 l1 => ?_
  walk_at "st"
  have h2 := h1.app (z := .lst [.int 1, .int 2, .int 1, .int 2])
  have g2 := getL (M := M1) (x := .lst [.int 1, .int 2, .int 1, .int 2])
  have k2 := h1.lt
  generalize M1 ++ [MO.lst [.int 1, .int 2, .int 1, .int 2]] = M2 at *
  generalize M1.length = k at *
  refine law_integerB h2 (by omega) fun o M3 ho h3 b3 => ?_
  have g3 : M3[k]? = some (.lst [.int 1, .int 2, .int 1, .int 2]) := by rw [b3.2 k (by omega)]; exact g2
  walk_at "st"
  refine set_intro g3 (ixN4 v0 v1) ?_
  have h4 := h3.set (k := k) (z := .lst (bent v.toNat o)) k2
  have g4 : (M3.set k (.lst (bent v.toNat o)))[k]? = some (.lst (bent v.toNat o)) := List.getElem?_set_self (List.getElem?_eq_some_iff.mp g3).1
  rw [show M3.set k (.lst ([D.int 1, .int 2, .int 1, .int 2].set v.toNat o)) = M3.set k (.lst (bent v.toNat o)) from rfl]
  generalize M3.set k (.lst (bent v.toNat o)) = M4 at *
  have bl : (bent v.toNat o).length = 4 := by unfold bent; simp
  walk_at "st"
  refine wp_frz rfl g4 ?_
  have h5 := h4.set (k := k) (z := .frz (.lst (bent v.toNat o))) k2
  have g5 : (M4.set k (.frz (.lst (bent v.toNat o))))[k]? = some (.frz (.lst (bent v.toNat o))) := List.getElem?_set_self (List.getElem?_eq_some_iff.mp g4).1
  generalize M4.set k (.frz (.lst (bent v.toNat o))) = M5 at *
  walk_at "st"
  refine wp_frz2 rfl g5 ?_
  walk_at "st"
  rw [show (List.replicate (Int.toNat 2001) [D.int 0]).flatten = List.replicate 2001 (.int 0) by rw [List.flatten_replicate_singleton]; rfl]
  refine oneB h5 (by omega) (by simp) (by simp) fun d M6 hd h6 b6 => ?_
  have hd : RefD d := by
    simp only [List.mem_cons, List.not_mem_nil, or_false] at hd
    have hv : v.toNat < 4 := by omega
    rcases hd with rfl | rfl | rfl | rfl | rfl | rfl | rfl | rfl | rfl | rfl | rfl
    · exact .inl (by simp)
    · exact .inl (by simp)
    · exact .inl (by simp)
    · exact .inl (by simp)
    · exact .inl (by simp)
    · exact .inl (by simp)
    · exact .inr (.inl ⟨_, _, hv, ho, .inl rfl⟩)
    · exact .inr (.inl ⟨_, _, hv, ho, .inr rfl⟩)
    · exact .inr (.inr rfl)
    · exact .inl (by simp)
    · exact .inl (by simp)
  walk_at "st"
  refine wp_eqok (lm1 h6.tb (heard_n ((cB_eq rfl).trans (told_refused hd)))) ?_
  walk_at "st"
  refine wp_eqok (show dEqv false labE labE M6 = .ok (.bl true) M6 from lab_same) ?_
  walk_at "st"
  refine wp_eqok (lm1 h6.tb (heard_none ((show cK F_told_back 0 1 [0] aNil _ _ M6 = F_told_back [.lst [.int 7]] M6 from rfl).trans told_seven))) ?_
  walk_at "st"
  trace_state
  exact q M6 (h6.mono (by omega))
end
end My
end
section
set_option Elab.async false
set_option linter.all false
set_option maxRecDepth 100000
set_option maxHeartbeats 2000000
namespace My
open PySem PySem.Spec PyProof.Rows L2 DL
local macro_rules | `(tactic| walk_at "bd") => `(tactic| first
  | assumption
  | exact Bd.lit8 (by decide)
  | exact Bd.lit (by decide)
  | (with_reducible apply Bd.mul <;> walk_at "bd")
  | (with_reducible apply Bd.add <;> walk_at "bd")
  | (with_reducible apply Bd.sub <;> walk_at "bd")
  | (with_reducible apply Bd.neg <;> walk_at "bd")
  | (with_reducible apply Bd.div <;> walk_at "bd"))
section
variable {M : Sto} {d : D} {a u v lo hi : Int} {ds : List D} {Q : D → Sto → Prop} {E : EC}
local macro_rules | `(tactic| walk_at "wp") => `(tactic| simp only [isint_int, isint_lst, isint_tup, isi_i, isi_l, isi_t, isi_sl, isi_st, len_l, len_t, le2, true_and, sizeLine_eq, Int.reduceLE, Int.reduceLT, Int.reduceAbs, Int.natAbs_neg, Nat.reducePow, Nat.reduceLT, Nat.reduceLeDiff, true_and, and_true, Int.reduceToNat, Int.reducePow, Int.reduceNeg, Int.reduceAdd, Int.reduceSub, Int.reduceMul, and_self, List.length_map, Int.cast_ofNat_Int, Std.le_refl, Int.natCast_one, Int.natCast_zero, Int.natCast_add, Bool.and_self, Bool.and_true, Bool.true_and, Bool.and_false, Bool.false_and, Int.reduceEq, wp_dSlice, wp_pNo, wp_pSo, wp_asIo, wp_dSlL, wp_dSlT, wp_revL, wp_kRevL, wp_dZipS, ix_t0, ix_t1, ix_l0, ix_l1, put2_t, put2_l, wp_sAsg2', wp_dRng, wp_zipLL, wp_zipLT, wp_zipTL, wp_zipTT, wp_enuL, wp_enuT, wp_rng1, wp_rng2, wp_chain, wp_sAug, wp_iadd, wp_isub, wp_par3, wp_dLcm, wp_eqs, wp_eqi, wp_isN, wp_isNn, isNon_int, isNon_non, wp_def, wp_seq, wp_sIf, seqQ_nx, seqQ_rt, seqQ_ex, seqQ_bk, seqQ_ct, wp_sNx, wp_sSet, wp_sAsgT, wp_sRt, wp_sEx, wp_par2, wp_sSub, wp_tV, wp_asB, wp_tNot, wp_tAnd, wp_tOr, wp_vAnd, wp_vOr, wp_vNot, wp_vIf, wp_dB, wp_dU, wp_cB, wp_aNil, wp_aCons, wp_dC, wp_var0, wp_varS, wp_dTup, wp_dLst, wp_dLstM, wp_dDic0, wp_sub, wp_add, wp_lt, wp_le, wp_gt, wp_ge, wp_neg, wp_mod, wp_fdiv, wp_pow, wp_mul, wp_int, wp_intb, wp_abs, wp_gcd, wp_bind, wp_pure, wp_ok, wp_cbad, wp_bad, wp_if, outC_rt, outC_nx, outC_ex, List.length_cons, List.length_nil, Nat.zero_add, Nat.reduceAdd, Nat.reduceSub, if_true, if_false, Bool.false_eq_true, List.map_cons, List.map_nil, List.replicate, List.cons_append, List.nil_append, List.set_cons_zero, List.set_cons_succ, List.set_nil, decide_true, decide_false, not_true, not_false_eq_true, Bool.not_true, Bool.not_false])
local macro_rules | `(tactic| walk_at "w1") => `(tactic| simp only [wp_rng2w, within_ii, within_in, islist_l, islist_t, isint_int, isint_lst, isint_tup, isi_i, isi_l, isi_t, isi_sl, isi_st, len_l, len_t, le2, true_and, sizeLine_eq, Int.reduceLE, Int.reduceLT, Int.reduceAbs, Int.natAbs_neg, Nat.reducePow, Nat.reduceLT, Nat.reduceLeDiff, true_and, and_true, Int.reduceToNat, Int.reducePow, Int.reduceNeg, Int.reduceAdd, Int.reduceSub, Int.reduceMul, and_self, List.length_map, Int.cast_ofNat_Int, Std.le_refl, Int.natCast_one, Int.natCast_zero, Int.natCast_add, Bool.and_self, Bool.and_true, Bool.true_and, Bool.and_false, Bool.false_and, Int.reduceEq, wp_dSlice, wp_pNo, wp_pSo, wp_asIo, wp_dSlL, wp_dSlT, wp_revL, wp_kRevL, wp_dZipS, ix_t0, ix_t1, ix_l0, ix_l1, put2_t, put2_l, wp_sAsg2', wp_dRng, wp_zipLL, wp_zipLT, wp_zipTL, wp_zipTT, wp_enuL, wp_enuT, wp_rng1, wp_rng2, wp_chain, wp_sAug, wp_iadd, wp_isub, wp_par3, wp_dLcm, wp_eqs, wp_eqi, wp_isN, wp_isNn, isNon_int, isNon_non, wp_def, wp_seq, wp_sIf, seqQ_nx, seqQ_rt, seqQ_ex, seqQ_bk, seqQ_ct, wp_sNx, wp_sSet, wp_sAsgT, wp_sRt, wp_sEx, wp_par2, wp_sSub, wp_tV, wp_asB, wp_tNot, wp_tAnd, wp_tOr, wp_vAnd, wp_vOr, wp_vNot, wp_vIf, wp_dB, wp_dU, wp_cB, wp_aNil, wp_aCons, wp_dC, wp_var0, wp_varS, wp_dTup, wp_dLst, wp_dLstM, wp_dDic0, wp_sub, wp_add, wp_lt, wp_le, wp_gt, wp_ge, wp_neg, wp_mod, wp_fdiv, wp_pow, wp_mul, wp_int, wp_intb, wp_abs, wp_gcd, wp_bind, wp_pure, wp_ok, wp_cbad, wp_bad, wp_if, outC_rt, outC_nx, outC_ex, List.length_cons, List.length_nil, Nat.zero_add, Nat.reduceAdd, Nat.reduceSub, if_true, if_false, Bool.false_eq_true, List.map_cons, List.map_nil, List.replicate, List.cons_append, List.nil_append, List.set_cons_zero, List.set_cons_succ, List.set_nil, decide_true, decide_false, not_true, not_false_eq_true, Bool.not_true, Bool.not_false])
local macro_rules | `(tactic| walk_at "w2") => `(tactic| simp only [wp_rng2w, within_nn, within_ii, within_in, islist_l, islist_t, isint_int, isint_lst, isint_tup, isi_i, isi_l, isi_t, isi_sl, isi_st, len_l, len_t, le2, true_and, sizeLine_eq, Int.reduceLE, Int.reduceLT, Int.reduceAbs, Int.natAbs_neg, Nat.reducePow, Nat.reduceLT, Nat.reduceLeDiff, true_and, and_true, Int.reduceToNat, Int.reducePow, Int.reduceNeg, Int.reduceAdd, Int.reduceSub, Int.reduceMul, and_self, List.length_map, Int.cast_ofNat_Int, Std.le_refl, Int.natCast_one, Int.natCast_zero, Int.natCast_add, Bool.and_self, Bool.and_true, Bool.true_and, Bool.and_false, Bool.false_and, Int.reduceEq, wp_dSlice, wp_pNo, wp_pSo, wp_asIo, wp_dSlL, wp_dSlT, wp_revL, wp_kRevL, wp_dZipS, ix_t0, ix_t1, ix_l0, ix_l1, put2_t, put2_l, wp_sAsg2', wp_dRng, wp_zipLL, wp_zipLT, wp_zipTL, wp_zipTT, wp_enuL, wp_enuT, wp_rng1, wp_rng2, wp_chain, wp_sAug, wp_iadd, wp_isub, wp_par3, wp_dLcm, wp_eqs, wp_eqi, wp_isN, wp_isNn, isNon_int, isNon_non, wp_def, wp_seq, wp_sIf, seqQ_nx, seqQ_rt, seqQ_ex, seqQ_bk, seqQ_ct, wp_sNx, wp_sSet, wp_sAsgT, wp_sRt, wp_sEx, wp_par2, wp_sSub, wp_tV, wp_asB, wp_tNot, wp_tAnd, wp_tOr, wp_vAnd, wp_vOr, wp_vNot, wp_vIf, wp_dB, wp_dU, wp_cB, wp_aNil, wp_aCons, wp_dC, wp_var0, wp_varS, wp_dTup, wp_dLst, wp_dLstM, wp_dDic0, wp_sub, wp_add, wp_lt, wp_le, wp_gt, wp_ge, wp_neg, wp_mod, wp_fdiv, wp_pow, wp_mul, wp_int, wp_intb, wp_abs, wp_gcd, wp_bind, wp_pure, wp_ok, wp_cbad, wp_bad, wp_if, outC_rt, outC_nx, outC_ex, List.length_cons, List.length_nil, Nat.zero_add, Nat.reduceAdd, Nat.reduceSub, if_true, if_false, Bool.false_eq_true, List.map_cons, List.map_nil, List.replicate, List.cons_append, List.nil_append, List.set_cons_zero, List.set_cons_succ, List.set_nil, decide_true, decide_false, not_true, not_false_eq_true, Bool.not_true, Bool.not_false])
end

local macro_rules | `(tactic| walk_at "bd") => `(tactic| first
  | assumption
  | exact Bd.lit8 (by decide)
  | exact Bd.lit (by decide)
  | (with_reducible apply Bd.mul <;> walk_at "bd")
  | (with_reducible apply Bd.add <;> walk_at "bd")
  | (with_reducible apply Bd.sub <;> walk_at "bd")
  | (with_reducible apply Bd.neg <;> walk_at "bd")
  | (with_reducible apply Bd.div <;> walk_at "bd"))
section
variable {n : Nat} {B m : Int} {M : Sto} {E : EC} {ds : List D} {Q : D → Sto → Prop} {d : D} {a u : Int}
theorem tupOf_l : dTupOf [.lst ds] M = .ok (.tup ds) M := by rfl
theorem lstOf_l : dLstOf [.lst ds] M = .ok (.lst ds) M := by rfl
local macro_rules | `(tactic| walk_at "st") => `(tactic| repeat (first | with_reducible refine Eq.mpr wp_seq ?_ | with_reducible refine Eq.mpr wp_sSet ?_ | with_reducible refine Eq.mpr wp_sIf ?_ | with_reducible refine Eq.mpr wp_sRt ?_ | with_reducible refine Eq.mpr wp_sEx ?_ | with_reducible refine Eq.mpr seqQ_nx ?_ | ((with_reducible apply st_var); exact rfl) | with_reducible refine Eq.mpr seqQ_rt ?_ | with_reducible refine Eq.mpr seqQ_ex ?_ | with_reducible refine Eq.mpr seqQ_bk ?_ | with_reducible refine Eq.mpr seqQ_ct ?_ | with_reducible refine Eq.mpr wp_sNx ?_ | with_reducible refine Eq.mpr wp_par2 ?_ | with_reducible refine Eq.mpr wp_par3 ?_ | with_reducible refine Eq.mpr wp_sAsg2' ?_ | with_reducible refine Eq.mpr wp_sAug ?_ | with_reducible refine Eq.mpr wp_sSub ?_ | with_reducible refine Eq.mpr wp_tV ?_ | with_reducible refine Eq.mpr wp_asB ?_ | with_reducible refine Eq.mpr wp_tNot ?_ | with_reducible refine Eq.mpr wp_tAnd ?_ | with_reducible refine Eq.mpr wp_tOr ?_ | with_reducible refine Eq.mpr wp_vAnd ?_ | with_reducible refine Eq.mpr wp_vOr ?_ | with_reducible refine Eq.mpr wp_vNot ?_ | with_reducible refine Eq.mpr wp_vIf ?_ | with_reducible refine Eq.mpr wp_dB ?_ | with_reducible refine Eq.mpr wp_dU ?_ | with_reducible refine Eq.mpr wp_cB ?_ | with_reducible refine Eq.mpr wp_aNil ?_ | with_reducible refine Eq.mpr wp_aCons ?_ | with_reducible refine Eq.mpr wp_dC ?_ | with_reducible refine Eq.mpr wp_chain ?_ | with_reducible refine Eq.mpr wp_sub ?_ | with_reducible refine Eq.mpr wp_add ?_ | with_reducible refine Eq.mpr wp_lt ?_ | with_reducible refine Eq.mpr wp_le ?_ | with_reducible refine Eq.mpr wp_gt ?_ | with_reducible refine Eq.mpr wp_ge ?_ | with_reducible refine Eq.mpr wp_neg ?_ | with_reducible refine Eq.mpr wp_eqs ?_ | with_reducible refine Eq.mpr wp_eqi ?_ | with_reducible refine Eq.mpr wp_isN ?_ | with_reducible refine Eq.mpr wp_isNn ?_ | with_reducible refine Eq.mpr wp_int ?_ | with_reducible refine Eq.mpr wp_intb ?_ | with_reducible refine Eq.mpr wp_abs ?_ | with_reducible refine Eq.mpr wp_gcd ?_ | with_reducible refine Eq.mpr wp_iadd ?_ | with_reducible refine Eq.mpr wp_isub ?_ | with_reducible refine Eq.mpr wp_dDic0 ?_ | with_reducible refine Eq.mpr wp_pure ?_ | with_reducible refine Eq.mpr wp_ok ?_ | with_reducible refine Eq.mpr outC_rt ?_ | with_reducible refine Eq.mpr outC_nx ?_ | with_reducible refine Eq.mpr outC_ex ?_ | with_reducible refine Eq.mpr wp_dSlice ?_ | with_reducible refine Eq.mpr wp_pNo ?_ | with_reducible refine Eq.mpr wp_pSo ?_ | with_reducible refine Eq.mpr wp_asIo ?_ | with_reducible refine Eq.mpr wp_dSlL ?_ | with_reducible refine Eq.mpr wp_dSlT ?_ | with_reducible refine Eq.mpr wp_revL ?_ | with_reducible refine Eq.mpr wp_kRevL ?_ | with_reducible refine Eq.mpr wp_dZipS ?_ | with_reducible refine Eq.mpr wp_dRng ?_ | with_reducible refine Eq.mpr wp_zipLL ?_ | with_reducible refine Eq.mpr wp_zipLT ?_ | with_reducible refine Eq.mpr wp_zipTL ?_ | with_reducible refine Eq.mpr wp_zipTT ?_ | with_reducible refine Eq.mpr wp_enuL ?_ | with_reducible refine Eq.mpr wp_enuT ?_ | with_reducible refine wp_eqok ix_t0 ?_ | with_reducible refine wp_eqok ix_t1 ?_ | with_reducible refine wp_eqok ix_l0 ?_ | with_reducible refine wp_eqok ix_l1 ?_ | with_reducible refine wp_eqok tupOf_l ?_ | with_reducible refine wp_eqok lstOf_l ?_ | with_reducible refine wp_eqok isint_int ?_ | with_reducible refine wp_eqok isint_lst ?_ | with_reducible refine wp_eqok isint_tup ?_ | with_reducible refine wp_eqok isi_i ?_ | with_reducible refine wp_eqok isi_l ?_ | with_reducible refine wp_eqok isi_t ?_ | with_reducible refine wp_eqok isi_sl ?_ | with_reducible refine wp_eqok isi_st ?_ | with_reducible refine wp_eqok len_l ?_ | with_reducible refine wp_eqok len_t ?_ | with_reducible refine Eq.mpr wp_dEnuS ?_ | with_reducible refine Eq.mpr wp_enuSL ?_ | with_reducible refine Eq.mpr wp_enuST ?_ | with_reducible refine Eq.mpr wp_dTup ?_ | with_reducible refine Eq.mpr wp_dLst ?_ | with_reducible refine Eq.mpr wp_dLstM ?_ | ((with_reducible refine Eq.mpr wp_mod ⟨?_, ?_⟩); (first | decide | omega | (walk_at "sd"))) | ((with_reducible refine Eq.mpr wp_fdiv ⟨?_, ?_⟩); (first | decide | omega | (walk_at "sd"))) | ((with_reducible refine Eq.mpr wp_pow ⟨?_, ?_⟩); (first | decide | omega | (walk_at "sd"))) | ((with_reducible refine Eq.mpr wp_mul ⟨?_, ?_⟩); (first | decide | omega | (walk_at "sd"))) | ((with_reducible refine Eq.mpr wp_rng1 ⟨?_, ?_⟩); (first | decide | omega | (walk_at "sd"))) | ((with_reducible refine Eq.mpr wp_rng2 ⟨?_, ?_⟩); (first | decide | omega | (walk_at "sd"))) | ((with_reducible refine Eq.mpr wp_dLcm ⟨?_, ?_⟩); (first | decide | omega | (walk_at "sd"))) | (refine And.intro (by simp only [List.length_cons, List.length_nil, Nat.reduceAdd, Nat.zero_add]; decide) ?_) | with_reducible refine st_ift rfl ?_ | with_reducible refine st_iff (by decide) ?_ | with_reducible refine Eq.mpr (if_pos rfl) ?_ | with_reducible refine Eq.mpr (if_neg (by decide)) ?_ | (with_reducible refine st_asg ?_) | (refine ⟨_, put2_t, ?_⟩) | (refine ⟨_, put2_l, ?_⟩)))
local macro_rules | `(tactic| walk_at "w2") => `(tactic| simp only [within_nn, within_ii, within_in, islist_l, islist_t, isint_int, isint_lst, isint_tup, isi_i, isi_l, isi_t, isi_sl, isi_st, len_l, len_t, le2, true_and, sizeLine_eq, Int.reduceLE, Int.reduceLT, Int.reduceAbs, Int.natAbs_neg, Nat.reducePow, Nat.reduceLT, Nat.reduceLeDiff, true_and, and_true, Int.reduceToNat, Int.reducePow, Int.reduceNeg, Int.reduceAdd, Int.reduceSub, Int.reduceMul, and_self, List.length_map, Int.cast_ofNat_Int, Std.le_refl, Int.natCast_one, Int.natCast_zero, Int.natCast_add, Bool.and_self, Bool.and_true, Bool.true_and, Bool.and_false, Bool.false_and, Int.reduceEq, wp_dSlice, wp_pNo, wp_pSo, wp_asIo, wp_dSlL, wp_dSlT, wp_revL, wp_kRevL, wp_dZipS, ix_t0, ix_t1, ix_l0, ix_l1, put2_t, put2_l, wp_sAsg2', wp_dRng, wp_zipLL, wp_zipLT, wp_zipTL, wp_zipTT, wp_enuL, wp_enuT, wp_rng1, wp_rng2, wp_chain, wp_sAug, wp_iadd, wp_isub, wp_par3, wp_dLcm, wp_eqs, wp_eqi, wp_isN, wp_isNn, isNon_int, isNon_non, wp_def, wp_seq, wp_sIf, seqQ_nx, seqQ_rt, seqQ_ex, seqQ_bk, seqQ_ct, wp_sNx, wp_sSet, wp_sAsgT, wp_sRt, wp_sEx, wp_par2, wp_sSub, wp_tV, wp_asB, wp_tNot, wp_tAnd, wp_tOr, wp_vAnd, wp_vOr, wp_vNot, wp_vIf, wp_dB, wp_dU, wp_cB, wp_aNil, wp_aCons, wp_dC, wp_var0, wp_varS, wp_dTup, wp_dLst, wp_dLstM, wp_dDic0, wp_sub, wp_add, wp_lt, wp_le, wp_gt, wp_ge, wp_neg, wp_mod, wp_fdiv, wp_pow, wp_mul, wp_int, wp_intb, wp_abs, wp_gcd, wp_bind, wp_pure, wp_ok, wp_cbad, wp_bad, wp_if, outC_rt, outC_nx, outC_ex, List.length_cons, List.length_nil, Nat.zero_add, Nat.reduceAdd, Nat.reduceSub, if_true, if_false, Bool.false_eq_true, List.map_cons, List.map_nil, List.replicate, List.cons_append, List.nil_append, List.set_cons_zero, List.set_cons_succ, List.set_nil, decide_true, decide_false, not_true, not_false_eq_true, Bool.not_true, Bool.not_false])
/-- the number as the law makes it -/
def mkN (a u : Int) : D := if u = gc a u then .int (a / gc a u) else .tup [.int (a / gc a u), .int (u / gc a u)]
theorem mkN_num (h : 0 < u) : Num (mkN a u) (a / gc a u) (u / gc a u) := by
  unfold mkN
  by_cases z : u = gc a u
  · rw [if_pos z]
    have : u / gc a u = 1 := by rw [← z]; exact Int.ediv_self (by omega)
    rw [this]; exact .i
  · rw [if_neg z]
    refine .t ?_ (gc_low h)
    have hg := gc_pos (a := a) h
    obtain ⟨y, hy⟩ := gc_dvd_r (a := a) (u := u)
    generalize gc a u = g at *
    subst hy
    rw [Int.mul_ediv_cancel_left _ (show g ≠ 0 by omega)]
    by_cases y1 : y ≤ 0
    · have := Int.mul_nonpos_of_nonneg_of_nonpos (show 0 ≤ g by omega) y1; omega
    · by_cases y2 : y = 1
      · subst y2; simp at z
      · omega
theorem parts_t {b v : Int} : F_parts_of [.tup [.int b, .int v]] M = .ok (.tup [.int b, .int v]) M := by
  refine wp_eq ?_
  unfold F_parts_of
  refine st_def rfl ?_
  simp only [List.map_cons, List.map_nil, List.replicate, Nat.reduceSub, List.cons_append, List.nil_append]
  unfold B_parts_of
  walk_at "st"
  exact ⟨rfl, rfl⟩
theorem less_t {b v : Int} (h1 : Bd 400 a) (h2 : Bd 400 u) (h3 : Bd 400 b) (h4 : Bd 400 v) : F_is_less [.tup [.int a, .int u], .tup [.int b, .int v]] M = .ok (.bl (decide (a * v < b * u))) M := by
  refine wp_eq ?_
  unfold F_is_less
  refine st_def rfl ?_
  simp only [List.map_cons, List.map_nil, List.replicate, Nat.reduceSub, List.cons_append, List.nil_append]
  unfold B_is_less
  walk_at "st"
  (try refine wp_eqok parts_t ?_)
  (try walk_at "st")
  (try refine wp_eqok parts_t ?_)
  (try walk_at "st")
  refine Eq.mpr wp_mul ⟨mulOk_bd h1 h4 (by decide), ?_⟩
  walk_at "st"
  refine Eq.mpr wp_mul ⟨mulOk_bd h3 h2 (by decide), ?_⟩
  walk_at "st"
  exact ⟨rfl, rfl⟩
theorem made_ok (h : 0 < u) (b : Bd 400 u) (ba : Bd 400 a) : F_made [.int a, .int u] M = .ok (mkN a u) M := by
  refine wp_eq ?_
  unfold F_made
  refine st_def rfl ?_
  simp only [List.map_cons, List.map_nil, List.replicate, Nat.reduceSub, List.cons_append, List.nil_append]
  unfold B_made
  walk_at "st"
  have hg := gc_pos (a := a) h
  have bg : Bd 400 (gc a u) := by
    have := Nat.gcd_le_right (n := u.natAbs) a.natAbs (by omega)
    exact b.of_le (by unfold gc; rw [Int.natAbs_natCast]; exact this)
  rw [show ((a.natAbs.gcd u.natAbs : Nat) : Int) = gc a u from rfl]
  refine st_iff (by rw [decide_eq_true_eq]; omega) ?_
  walk_at "st"
  unfold mkN
  by_cases z : u = gc a u
  · refine st_ift (by simpa using z.symm) ?_
    walk_at "st"
    refine Eq.mpr wp_fdiv ⟨⟨hg, small2_bd bg (by decide)⟩, ?_⟩
    walk_at "st"
    exact ⟨by rw [if_pos z], rfl⟩
  · refine st_iff (by simpa using fun y => z y.symm) ?_
    walk_at "st"
    refine Eq.mpr wp_fdiv ⟨⟨hg, small2_bd bg (by decide)⟩, ?_⟩
    walk_at "st"
    refine Eq.mpr wp_fdiv ⟨⟨hg, small2_bd bg (by decide)⟩, ?_⟩
    walk_at "st"
    exact ⟨by rw [if_neg z], rfl⟩
/-! ### what labels tell -/
/-- the greatest of f k / k at places 1 .. i is at j -/
structure Lo (f : Nat → Int) (i j : Nat) : Prop where
  one : 1 ≤ j
  le : j ≤ i
  top : ∀ k : Nat, 1 ≤ k → k ≤ i → f k * j ≤ f j * k
theorem Lo.first {f : Nat → Int} : Lo f 1 1 where
  one := by omega
  le := by omega
  top := fun k h1 h2 => by
    have e : k = 1 := by omega
    subst e
    exact Int.le_refl _
theorem Lo.stay {f : Nat → Int} {i j : Nat} (h : Lo f i j) (g : f (i + 1) * j ≤ f j * ((i + 1 : Nat) : Int)) : Lo f (i + 1) j := ⟨h.one, by have := h.le; omega, fun k h1 h2 => by
  by_cases z : k ≤ i
  · exact h.top k h1 z
  · have : k = i + 1 := by omega
    subst this; exact g⟩
theorem Lo.new {f : Nat → Int} {i j : Nat} (h : Lo f i j) (g : f j * ((i + 1 : Nat) : Int) < f (i + 1) * j) : Lo f (i + 1) (i + 1) := ⟨by omega, by omega, fun k h1 h2 => by
  by_cases z : k ≤ i
  · have h3 := h.top k h1 z
    have j0 : (0 : Int) < j := by have := h.one; omega
    have e1 : f k * j * ((i + 1 : Nat) : Int) ≤ f j * k * ((i + 1 : Nat) : Int) := Int.mul_le_mul_of_nonneg_right h3 (by omega)
    have e2 : f j * ((i + 1 : Nat) : Int) * k ≤ f (i + 1) * j * k := Int.mul_le_mul_of_nonneg_right (Int.le_of_lt g) (by omega)
    have e3 : f k * ((i + 1 : Nat) : Int) * j ≤ f (i + 1) * k * j := by
      rw [Int.mul_right_comm (f k), Int.mul_right_comm (f (i + 1)) k]
      rw [Int.mul_right_comm (f j)] at e1
      exact Int.le_trans e1 e2
    exact Int.le_of_mul_le_mul_right e3 j0
  · have : k = i + 1 := by omega
    subst this; exact Int.le_refl _⟩
/-- the greatest lower end, the least upper end -/
abbrev Hi (f : Nat → Int) (i j : Nat) : Prop := Lo (fun k => -(f k + 1)) i j
/-- labels with these sums -/
def labs (S : Nat → Int) (m : Nat) : List D := (List.range m).map fun i => .int (S (i + 1) - S i)
theorem labs_len {S : Nat → Int} {m : Nat} : (labs S m).length = m := by unfold labs; simp
theorem enu_labs {S : Nat → Int} {m i : Nat} {d : D} (h : (enuD 1 (labs S m))[i]? = some d) : i < m ∧ d = .tup [.int ((1 + i : Nat) : Int), .int (S (i + 1) - S i)] := by
  obtain ⟨x, h1, h2⟩ := enuD_get h
  have hi : i < m := by have := (List.getElem?_eq_some_iff.mp h1).1; rwa [labs_len] at this
  unfold labs at h1
  rw [List.getElem?_map, List.getElem?_range hi] at h1
  cases h1
  exact ⟨hi, h2⟩
end

section
variable {n : Nat} {B m : Int} {M : Sto} {E : EC} {ds : List D} {Q : D → Sto → Prop} {d e : D} {a u b v : Int}
local macro_rules | `(tactic| walk_at "st") => `(tactic| repeat (first | with_reducible refine Eq.mpr wp_seq ?_ | with_reducible refine Eq.mpr wp_sSet ?_ | with_reducible refine Eq.mpr wp_sIf ?_ | with_reducible refine Eq.mpr wp_sRt ?_ | with_reducible refine Eq.mpr wp_sEx ?_ | with_reducible refine Eq.mpr seqQ_nx ?_ | ((with_reducible apply st_var); exact rfl) | with_reducible refine Eq.mpr seqQ_rt ?_ | with_reducible refine Eq.mpr seqQ_ex ?_ | with_reducible refine Eq.mpr seqQ_bk ?_ | with_reducible refine Eq.mpr seqQ_ct ?_ | with_reducible refine Eq.mpr wp_sNx ?_ | with_reducible refine Eq.mpr wp_par2 ?_ | with_reducible refine Eq.mpr wp_par3 ?_ | with_reducible refine Eq.mpr wp_sAsg2' ?_ | with_reducible refine Eq.mpr wp_sAug ?_ | with_reducible refine Eq.mpr wp_sSub ?_ | with_reducible refine Eq.mpr wp_tV ?_ | with_reducible refine Eq.mpr wp_asB ?_ | with_reducible refine Eq.mpr wp_tNot ?_ | with_reducible refine Eq.mpr wp_tAnd ?_ | with_reducible refine Eq.mpr wp_tOr ?_ | with_reducible refine Eq.mpr wp_vAnd ?_ | with_reducible refine Eq.mpr wp_vOr ?_ | with_reducible refine Eq.mpr wp_vNot ?_ | with_reducible refine Eq.mpr wp_vIf ?_ | with_reducible refine Eq.mpr wp_dB ?_ | with_reducible refine Eq.mpr wp_dU ?_ | with_reducible refine Eq.mpr wp_cB ?_ | with_reducible refine Eq.mpr wp_aNil ?_ | with_reducible refine Eq.mpr wp_aCons ?_ | with_reducible refine Eq.mpr wp_dC ?_ | with_reducible refine Eq.mpr wp_chain ?_ | with_reducible refine Eq.mpr wp_sub ?_ | with_reducible refine Eq.mpr wp_add ?_ | with_reducible refine Eq.mpr wp_lt ?_ | with_reducible refine Eq.mpr wp_le ?_ | with_reducible refine Eq.mpr wp_gt ?_ | with_reducible refine Eq.mpr wp_ge ?_ | with_reducible refine Eq.mpr wp_neg ?_ | with_reducible refine Eq.mpr wp_eqs ?_ | with_reducible refine Eq.mpr wp_eqi ?_ | with_reducible refine Eq.mpr wp_isN ?_ | with_reducible refine Eq.mpr wp_isNn ?_ | with_reducible refine Eq.mpr wp_int ?_ | with_reducible refine Eq.mpr wp_intb ?_ | with_reducible refine Eq.mpr wp_abs ?_ | with_reducible refine Eq.mpr wp_gcd ?_ | with_reducible refine Eq.mpr wp_iadd ?_ | with_reducible refine Eq.mpr wp_isub ?_ | with_reducible refine Eq.mpr wp_dDic0 ?_ | with_reducible refine Eq.mpr wp_pure ?_ | with_reducible refine Eq.mpr wp_ok ?_ | with_reducible refine Eq.mpr outC_rt ?_ | with_reducible refine Eq.mpr outC_nx ?_ | with_reducible refine Eq.mpr outC_ex ?_ | with_reducible refine Eq.mpr wp_dSlice ?_ | with_reducible refine Eq.mpr wp_pNo ?_ | with_reducible refine Eq.mpr wp_pSo ?_ | with_reducible refine Eq.mpr wp_asIo ?_ | with_reducible refine Eq.mpr wp_dSlL ?_ | with_reducible refine Eq.mpr wp_dSlT ?_ | with_reducible refine Eq.mpr wp_revL ?_ | with_reducible refine Eq.mpr wp_kRevL ?_ | with_reducible refine Eq.mpr wp_dZipS ?_ | with_reducible refine Eq.mpr wp_dRng ?_ | with_reducible refine Eq.mpr wp_zipLL ?_ | with_reducible refine Eq.mpr wp_zipLT ?_ | with_reducible refine Eq.mpr wp_zipTL ?_ | with_reducible refine Eq.mpr wp_zipTT ?_ | with_reducible refine Eq.mpr wp_enuL ?_ | with_reducible refine Eq.mpr wp_enuT ?_ | with_reducible refine wp_eqok ix_t0 ?_ | with_reducible refine wp_eqok ix_t1 ?_ | with_reducible refine wp_eqok ix_l0 ?_ | with_reducible refine wp_eqok ix_l1 ?_ | with_reducible refine wp_eqok tupOf_l ?_ | with_reducible refine wp_eqok lstOf_l ?_ | with_reducible refine wp_eqok isint_int ?_ | with_reducible refine wp_eqok isint_lst ?_ | with_reducible refine wp_eqok isint_tup ?_ | with_reducible refine wp_eqok isi_i ?_ | with_reducible refine wp_eqok isi_l ?_ | with_reducible refine wp_eqok isi_t ?_ | with_reducible refine wp_eqok isi_sl ?_ | with_reducible refine wp_eqok isi_st ?_ | with_reducible refine wp_eqok len_l ?_ | with_reducible refine wp_eqok len_t ?_ | with_reducible refine Eq.mpr wp_dTup ?_ | with_reducible refine Eq.mpr wp_dLst ?_ | with_reducible refine Eq.mpr wp_dLstM ?_ | ((with_reducible refine Eq.mpr wp_mod ⟨?_, ?_⟩); (first | decide | omega | (walk_at "sd"))) | ((with_reducible refine Eq.mpr wp_fdiv ⟨?_, ?_⟩); (first | decide | omega | (walk_at "sd"))) | ((with_reducible refine Eq.mpr wp_pow ⟨?_, ?_⟩); (first | decide | omega | (walk_at "sd"))) | ((with_reducible refine Eq.mpr wp_mul ⟨?_, ?_⟩); (first | decide | omega | (walk_at "sd"))) | ((with_reducible refine Eq.mpr wp_rng1 ⟨?_, ?_⟩); (first | decide | omega | (walk_at "sd"))) | ((with_reducible refine Eq.mpr wp_rng2 ⟨?_, ?_⟩); (first | decide | omega | (walk_at "sd"))) | ((with_reducible refine Eq.mpr wp_dLcm ⟨?_, ?_⟩); (first | decide | omega | (walk_at "sd"))) | (refine And.intro (by simp only [List.length_cons, List.length_nil, Nat.reduceAdd, Nat.zero_add]; decide) ?_) | with_reducible refine st_ift rfl ?_ | with_reducible refine st_iff (by decide) ?_ | with_reducible refine Eq.mpr (if_pos rfl) ?_ | with_reducible refine Eq.mpr (if_neg (by decide)) ?_ | (with_reducible refine st_asg ?_) | (refine ⟨_, put2_t, ?_⟩) | (refine ⟨_, put2_l, ?_⟩)))
/-- worth a by u -/
structure Wt (d : D) (a u : Int) : Prop where
  pos : 0 < u
  ex : ∃ A U g, Num d A U ∧ 0 < g ∧ a = A * g ∧ u = U * g ∧ Bd 400 A ∧ Bd 400 U
theorem Num.wt (h : Num d a u) (b1 : Bd 400 a) (b2 : Bd 400 u) : Wt d a u := ⟨h.pos, a, u, 1, h, by omega, by simp, by simp, b1, b2⟩
theorem mkN_wt (h : 0 < u) (b1 : Bd 400 a) (b2 : Bd 400 u) : Wt (mkN a u) a u := by
  refine ⟨h, a / gc a u, u / gc a u, gc a u, mkN_num h, gc_pos h, ?_, ?_, b1.div, b2.div⟩
  · exact (Int.ediv_mul_cancel gc_dvd_l).symm
  · exact (Int.ediv_mul_cancel gc_dvd_r).symm
theorem py0s_ints : ∀ l : List Int, py0s (l.map D.int) = some (l.map PyData.int)
  | [] => rfl
  | x :: l => by
    rw [List.map_cons, List.map_cons, py0s, py0s_ints l]; rfl
theorem eqvAll_ints : ∀ l k : List Int, PyData.eqvAll (l.map PyData.int) (k.map PyData.int) = decide (l = k)
  | [], [] => rfl
  | [], _ :: _ => rfl
  | _ :: _, [] => rfl
  | x :: l, y :: k => by
    rw [List.map_cons, List.map_cons, PyData.eqvAll, eqvAll_ints l k, PyData.eqv]
    by_cases h1 : x = y <;> by_cases h2 : l = k <;> simp [h1, h2]
theorem sh_of {a b : Nat} {d : D} {q : PyData} (h : Nc a b d) (ha : a ≤ 60) (e : py0 d = some q) : SeqAt.shaped q = true := by
  obtain ⟨q', e1, e2, e3, e4, e5⟩ := okD_py d h.ok
  rw [e] at e1; cases e1
  unfold SeqAt.shaped
  rw [e5, e3]
  simp only [Bool.true_and, decide_eq_true_eq]
  have := h.dep; omega

theorem eq_ints {a b : Nat} {neg : Bool} {l k : List Int} (h1 : Nc a b (.lst (l.map D.int))) (h2 : Nc a b (.lst (k.map D.int))) (ha : a ≤ 60) : wp (dEqv neg (.lst (l.map D.int)) (.lst (k.map D.int)) M) Q E = Q (.bl (if neg then !decide (l = k) else decide (l = k))) M := by
  have p1 : py0 (.lst (l.map D.int)) = some (.list (l.map PyData.int)) := by rw [py0, py0s_ints]; rfl
  have p2 : py0 (.lst (k.map D.int)) = some (.list (k.map PyData.int)) := by rw [py0, py0s_ints]; rfl
  have m1 : pyM M (.lst (l.map D.int)) = some (.list (l.map PyData.int)) := by rw [pyM_ok h1.ok]; exact p1
  have m2 : pyM M (.lst (k.map D.int)) = some (.list (k.map PyData.int)) := by rw [pyM_ok h2.ok]; exact p2
  have er : PyData.eqv (.list (l.map PyData.int)) (.list (k.map PyData.int)) = decide (l = k) := by rw [PyData.eqv, eqvAll_ints]
  rw [wp_eqv rfl]
  refine propext ⟨fun ⟨a, b, q1, q2, _, _, z⟩ => ?_, fun z => ⟨_, _, m1, m2, sh_of h1 ha p1, sh_of h2 ha p2, ?_⟩⟩
  · rw [m1] at q1; rw [m2] at q2; cases q1; cases q2
    rw [er] at z; exact z
  · rw [er]; exact z
/-! ### the interval -/
/-- the sums of the labels of a by u -/
def fl (a u : Int) (k : Nat) : Int := k * a / u
theorem fl_zero : fl a u 0 = 0 := by unfold fl; simp
theorem fl_at (h : 0 < u) (k : Nat) : fl a u k * u ≤ k * a ∧ k * a < (fl a u k + 1) * u := by
  unfold fl
  have h1 := Int.emod_add_mul_ediv ((k : Int) * a) u
  have r1 := Int.emod_nonneg ((k : Int) * a) (show u ≠ 0 by omega)
  have r2 := Int.emod_lt_of_pos ((k : Int) * a) h
  rw [Int.add_mul, Int.one_mul, Int.mul_comm _ u]
  omega
theorem fl_of (h : 0 < u) {k : Nat} {s : Int} (h1 : s * u ≤ k * a) (h2 : k * a < (s + 1) * u) : fl a u k = s := by
  obtain ⟨g1, g2⟩ := fl_at (a := a) h k
  have q1 : s < fl a u k + 1 := Int.lt_of_mul_lt_mul_right (Int.lt_of_le_of_lt h1 g2) (Int.le_of_lt h)
  have q2 : fl a u k < s + 1 := Int.lt_of_mul_lt_mul_right (Int.lt_of_le_of_lt g1 h2) (Int.le_of_lt h)
  omega
/-- just the numbers with these sums lie between the ends -/
theorem inside {S : Nat → Int} {mm j j' : Nat} (hv : 0 < v) (hL : Lo S mm j) (hH : Hi S mm j') : (¬ b * j < S j * v ∧ b * j' < (S j' + 1) * v) ↔ ∀ k : Nat, 1 ≤ k → k ≤ mm → fl b v k = S k := by
  constructor
  · rintro ⟨h1, h2⟩ k k1 k2
    have j0 : (0 : Int) < j := by have := hL.one; omega
    have j0' : (0 : Int) < j' := by have := hH.one; omega
    refine fl_of hv ?_ ?_
    · have t := hL.top k k1 k2
      have e1 : S k * j * v ≤ S j * k * v := Int.mul_le_mul_of_nonneg_right t (Int.le_of_lt hv)
      have e2 : S j * v * k ≤ b * j * k := Int.mul_le_mul_of_nonneg_right (Int.not_lt.mp h1) (by omega)
      have e3 : S k * v * j ≤ k * b * j := by
        rw [Int.mul_right_comm (S k), Int.mul_comm (k : Int) b, Int.mul_right_comm b]
        rw [Int.mul_right_comm (S j)] at e2
        exact Int.le_trans e1 e2
      exact Int.le_of_mul_le_mul_right e3 j0
    · have t : (S j' + 1) * k ≤ (S k + 1) * j' := by
        have := hH.top k k1 k2
        (try dsimp only at this)
        rw [Int.neg_mul, Int.neg_mul] at this
        omega
      have e1 : (S j' + 1) * k * v ≤ (S k + 1) * j' * v := Int.mul_le_mul_of_nonneg_right t (Int.le_of_lt hv)
      have e2 : b * j' * k < (S j' + 1) * v * k := Int.mul_lt_mul_of_pos_right h2 (by omega)
      have e3 : k * b * j' < (S k + 1) * v * j' := by
        rw [Int.mul_right_comm (S k + 1), Int.mul_comm (k : Int) b, Int.mul_right_comm b]
        rw [Int.mul_right_comm (S j' + 1)] at e2
        exact Int.lt_of_lt_of_le e2 e1
      exact Int.lt_of_mul_lt_mul_right e3 (by omega)
  · intro h
    have h1 := fl_at (a := b) hv j
    have h2 := fl_at (a := b) hv j'
    rw [h j hL.one hL.le] at h1
    rw [h j' hH.one hH.le] at h2
    rw [Int.mul_comm b, Int.mul_comm b]
    exact ⟨Int.not_lt.mpr h1.1, h2.2⟩
/-- the labels as ints -/
def labI (S : Nat → Int) (m : Nat) : List Int := (List.range m).map fun i => S (i + 1) - S i
theorem labs_labI {S : Nat → Int} {m : Nat} : labs S m = (labI S m).map D.int := by unfold labs labI; rw [List.map_map]; rfl
theorem labI_inj {S T : Nat → Int} {m : Nat} (h : S 0 = T 0) : labI S m = labI T m ↔ ∀ k : Nat, 1 ≤ k → k ≤ m → S k = T k := by
  constructor
  · intro z k
    induction k with
    | zero => intro h1; omega
    | succ k ih =>
      intro _ h2
      have hk : S k = T k := by
        by_cases k0 : k = 0
        · subst k0; exact h
        · exact ih (by omega) (by omega)
      have q := congrArg (fun l : List Int => l[k]?) z
      (try dsimp only at q)
      unfold labI at q
      rw [List.getElem?_map, List.getElem?_map, List.getElem?_range (show k < m by omega)] at q
      have q2 : S (k + 1) - S k = T (k + 1) - T k := Option.some.inj q
      omega
  · intro z
    unfold labI
    refine List.map_congr_left fun k hk => ?_
    have hk := List.mem_range.mp hk
    have e1 := z (k + 1) (by omega) (by omega)
    by_cases k0 : k = 0
    · subst k0; rw [e1, h]
    · rw [e1, z k (by omega) (by omega)]
end

section
variable {n : Nat} {B m : Int} {M : Sto} {E : EC} {ds : List D} {Q : D → Sto → Prop} {d e : D} {a u b v : Int}
local macro_rules | `(tactic| walk_at "st") => `(tactic| repeat (first | with_reducible refine Eq.mpr wp_seq ?_ | with_reducible refine Eq.mpr wp_sSet ?_ | with_reducible refine Eq.mpr wp_sIf ?_ | with_reducible refine Eq.mpr wp_sRt ?_ | with_reducible refine Eq.mpr wp_sEx ?_ | with_reducible refine Eq.mpr seqQ_nx ?_ | ((with_reducible apply st_var); exact rfl) | with_reducible refine Eq.mpr seqQ_rt ?_ | with_reducible refine Eq.mpr seqQ_ex ?_ | with_reducible refine Eq.mpr seqQ_bk ?_ | with_reducible refine Eq.mpr seqQ_ct ?_ | with_reducible refine Eq.mpr wp_sNx ?_ | with_reducible refine Eq.mpr wp_par2 ?_ | with_reducible refine Eq.mpr wp_par3 ?_ | with_reducible refine Eq.mpr wp_sAsg2' ?_ | with_reducible refine Eq.mpr wp_sAug ?_ | with_reducible refine Eq.mpr wp_sSub ?_ | with_reducible refine Eq.mpr wp_tV ?_ | with_reducible refine Eq.mpr wp_asB ?_ | with_reducible refine Eq.mpr wp_tNot ?_ | with_reducible refine Eq.mpr wp_tAnd ?_ | with_reducible refine Eq.mpr wp_tOr ?_ | with_reducible refine Eq.mpr wp_vAnd ?_ | with_reducible refine Eq.mpr wp_vOr ?_ | with_reducible refine Eq.mpr wp_vNot ?_ | with_reducible refine Eq.mpr wp_vIf ?_ | with_reducible refine Eq.mpr wp_dB ?_ | with_reducible refine Eq.mpr wp_dU ?_ | with_reducible refine Eq.mpr wp_cB ?_ | with_reducible refine Eq.mpr wp_aNil ?_ | with_reducible refine Eq.mpr wp_aCons ?_ | with_reducible refine Eq.mpr wp_dC ?_ | with_reducible refine Eq.mpr wp_chain ?_ | with_reducible refine Eq.mpr wp_sub ?_ | with_reducible refine Eq.mpr wp_add ?_ | with_reducible refine Eq.mpr wp_lt ?_ | with_reducible refine Eq.mpr wp_le ?_ | with_reducible refine Eq.mpr wp_gt ?_ | with_reducible refine Eq.mpr wp_ge ?_ | with_reducible refine Eq.mpr wp_neg ?_ | with_reducible refine Eq.mpr wp_eqs ?_ | with_reducible refine Eq.mpr wp_eqi ?_ | with_reducible refine Eq.mpr wp_isN ?_ | with_reducible refine Eq.mpr wp_isNn ?_ | with_reducible refine Eq.mpr wp_int ?_ | with_reducible refine Eq.mpr wp_intb ?_ | with_reducible refine Eq.mpr wp_abs ?_ | with_reducible refine Eq.mpr wp_gcd ?_ | with_reducible refine Eq.mpr wp_iadd ?_ | with_reducible refine Eq.mpr wp_isub ?_ | with_reducible refine Eq.mpr wp_dDic0 ?_ | with_reducible refine Eq.mpr wp_pure ?_ | with_reducible refine Eq.mpr wp_ok ?_ | with_reducible refine Eq.mpr outC_rt ?_ | with_reducible refine Eq.mpr outC_nx ?_ | with_reducible refine Eq.mpr outC_ex ?_ | with_reducible refine Eq.mpr wp_dSlice ?_ | with_reducible refine Eq.mpr wp_pNo ?_ | with_reducible refine Eq.mpr wp_pSo ?_ | with_reducible refine Eq.mpr wp_asIo ?_ | with_reducible refine Eq.mpr wp_dSlL ?_ | with_reducible refine Eq.mpr wp_dSlT ?_ | with_reducible refine Eq.mpr wp_revL ?_ | with_reducible refine Eq.mpr wp_kRevL ?_ | with_reducible refine Eq.mpr wp_dZipS ?_ | with_reducible refine Eq.mpr wp_dRng ?_ | with_reducible refine Eq.mpr wp_zipLL ?_ | with_reducible refine Eq.mpr wp_zipLT ?_ | with_reducible refine Eq.mpr wp_zipTL ?_ | with_reducible refine Eq.mpr wp_zipTT ?_ | with_reducible refine Eq.mpr wp_enuL ?_ | with_reducible refine Eq.mpr wp_enuT ?_ | with_reducible refine wp_eqok ix_t0 ?_ | with_reducible refine wp_eqok ix_t1 ?_ | with_reducible refine wp_eqok ix_l0 ?_ | with_reducible refine wp_eqok ix_l1 ?_ | with_reducible refine wp_eqok tupOf_l ?_ | with_reducible refine wp_eqok lstOf_l ?_ | with_reducible refine wp_eqok isint_int ?_ | with_reducible refine wp_eqok isint_lst ?_ | with_reducible refine wp_eqok isint_tup ?_ | with_reducible refine wp_eqok isi_i ?_ | with_reducible refine wp_eqok isi_l ?_ | with_reducible refine wp_eqok isi_t ?_ | with_reducible refine wp_eqok isi_sl ?_ | with_reducible refine wp_eqok isi_st ?_ | with_reducible refine wp_eqok len_l ?_ | with_reducible refine wp_eqok len_t ?_ | with_reducible refine Eq.mpr wp_dEnuS ?_ | with_reducible refine Eq.mpr wp_enuSL ?_ | with_reducible refine Eq.mpr wp_enuST ?_ | with_reducible refine Eq.mpr wp_dTup ?_ | with_reducible refine Eq.mpr wp_dLst ?_ | with_reducible refine Eq.mpr wp_dLstM ?_ | ((with_reducible refine Eq.mpr wp_mod ⟨?_, ?_⟩); (first | decide | omega | (walk_at "sd"))) | ((with_reducible refine Eq.mpr wp_fdiv ⟨?_, ?_⟩); (first | decide | omega | (walk_at "sd"))) | ((with_reducible refine Eq.mpr wp_pow ⟨?_, ?_⟩); (first | decide | omega | (walk_at "sd"))) | ((with_reducible refine Eq.mpr wp_mul ⟨?_, ?_⟩); (first | decide | omega | (walk_at "sd"))) | ((with_reducible refine Eq.mpr wp_rng1 ⟨?_, ?_⟩); (first | decide | omega | (walk_at "sd"))) | ((with_reducible refine Eq.mpr wp_rng2 ⟨?_, ?_⟩); (first | decide | omega | (walk_at "sd"))) | ((with_reducible refine Eq.mpr wp_dLcm ⟨?_, ?_⟩); (first | decide | omega | (walk_at "sd"))) | (refine And.intro (by simp only [List.length_cons, List.length_nil, Nat.reduceAdd, Nat.zero_add]; decide) ?_) | with_reducible refine st_ift rfl ?_ | with_reducible refine st_iff (by decide) ?_ | with_reducible refine Eq.mpr (if_pos rfl) ?_ | with_reducible refine Eq.mpr (if_neg (by decide)) ?_ | (with_reducible refine st_asg ?_) | (refine ⟨_, put2_t, ?_⟩) | (refine ⟨_, put2_l, ?_⟩)))
/-- sums of the first ones of some ints -/
def smI (l : List Int) (k : Nat) : Int := (l.take k).sum
theorem smI_zero {l : List Int} : smI l 0 = 0 := by unfold smI; simp
theorem smI_succ {l : List Int} {k : Nat} {x : Int} (h : l[k]? = some x) : smI l (k + 1) = smI l k + x := by
  unfold smI
  rw [List.take_add_one, h]
  simp
theorem labs_smI (l : List Int) : labs (smI l) l.length = l.map D.int := by
  apply List.ext_getElem?
  intro k
  unfold labs
  by_cases hk : k < l.length
  · rw [List.getElem?_map, List.getElem?_range hk, List.getElem?_map, List.getElem?_eq_getElem hk]
    have := smI_succ (List.getElem?_eq_getElem hk)
    show some (D.int (smI l (k + 1) - smI l k)) = some (D.int l[k])
    rw [this]
    congr 2
    omega
  · rw [List.getElem?_eq_none (by simp; omega), List.getElem?_eq_none (by simp; omega)]
theorem smI_abs {l : List Int} {b : Nat} (h : ∀ x ∈ l, x.natAbs ≤ b) (k : Nat) : (smI l k).natAbs ≤ k * b := by
  induction k with
  | zero => rw [smI_zero]; simp
  | succ k ih =>
    by_cases hk : k < l.length
    · rw [smI_succ (List.getElem?_eq_getElem hk), Nat.succ_mul]
      have h1 := h _ (List.getElem_mem hk)
      have h2 := Int.natAbs_add_le (smI l k) l[k]
      omega
    · have e : smI l (k + 1) = smI l k := by
        unfold smI
        rw [List.take_of_length_le (by omega), List.take_of_length_le (by omega)]
      rw [e, Nat.succ_mul]
      omega
theorem smI_bd {l : List Int} (h : ∀ x ∈ l, Bd 250 x) {k : Nat} (hk : k ≤ 2000) : Bd 300 (smI l k) := by
  have h1 := smI_abs (l := l) (b := 2 ^ 250) (fun x hx => Nat.le_of_lt (h x hx)) k
  have h2 : k * 2 ^ 250 ≤ 2000 * 2 ^ 250 := Nat.mul_le_mul_right _ hk
  exact Nat.lt_of_le_of_lt (Nat.le_trans h1 h2) (by decide)
/-- numbers of one worth are one -/
theorem mkN_eq (hu : 0 < u) (hv : 0 < v) (h : a * v = b * u) : mkN a u = mkN b v := by
  have g1 := gc_pos (a := a) hu
  have g2 := gc_pos (a := b) hv
  have eA : a / gc a u * gc a u = a := Int.ediv_mul_cancel gc_dvd_l
  have eU : u / gc a u * gc a u = u := Int.ediv_mul_cancel gc_dvd_r
  have eB : b / gc b v * gc b v = b := Int.ediv_mul_cancel gc_dvd_l
  have eV : v / gc b v * gc b v = v := Int.ediv_mul_cancel gc_dvd_r
  have l1 := gc_low (a := a) hu
  have l2 := gc_low (a := b) hv
  have p1 : 0 < u / gc a u := (mkN_num (a := a) hu).pos
  have p2 : 0 < v / gc b v := (mkN_num (a := b) hv).pos
  generalize hA : a / gc a u = A at *
  generalize hU : u / gc a u = U at *
  generalize hB : b / gc b v = B at *
  generalize hV : v / gc b v = V at *
  generalize hg : gc a u = g at *
  generalize hh : gc b v = k at *
  have e1 : A * V = B * U := by
    have z : A * V * (g * k) = B * U * (g * k) := by
      have z1 : A * V * (g * k) = (A * g) * (V * k) := by
        rw [Int.mul_assoc, Int.mul_assoc, Int.mul_left_comm V]
      have z2 : B * U * (g * k) = (B * k) * (U * g) := by
        rw [Int.mul_assoc, Int.mul_assoc, Int.mul_left_comm k, Int.mul_comm k g]
      rw [z1, z2, eA, eU, eB, eV, h]
    exact Int.eq_of_mul_eq_mul_right (by have := Int.mul_pos g1 g2; omega) z
  have d1 : U.natAbs ∣ V.natAbs := by
    have : U.natAbs ∣ A.natAbs * V.natAbs := by
      have := congrArg Int.natAbs e1
      rw [Int.natAbs_mul, Int.natAbs_mul] at this
      exact ⟨B.natAbs, by rw [this, Nat.mul_comm]⟩
    exact Nat.Coprime.dvd_of_dvd_mul_left (by rw [Nat.coprime_comm]; exact l1) this
  have d2 : V.natAbs ∣ U.natAbs := by
    have : V.natAbs ∣ B.natAbs * U.natAbs := by
      have := congrArg Int.natAbs e1
      rw [Int.natAbs_mul, Int.natAbs_mul] at this
      exact ⟨A.natAbs, by rw [← this, Nat.mul_comm]⟩
    exact Nat.Coprime.dvd_of_dvd_mul_left (by rw [Nat.coprime_comm]; exact l2) this
  have e2 := Nat.dvd_antisymm d1 d2
  have e3 : U = V := by omega
  subst e3
  have e4 : A = B := Int.eq_of_mul_eq_mul_right (by omega) e1
  subst e4
  unfold mkN
  rw [hg, hh, hA, hU, hB, hV]
  have c1 : (u = g) ↔ U = 1 := by
    constructor
    · intro z; rw [z] at eU
      have : U * g = 1 * g := by omega
      exact Int.eq_of_mul_eq_mul_right (by omega) this
    · intro z; rw [z] at eU; omega
  have c2 : (v = k) ↔ U = 1 := by
    constructor
    · intro z; rw [z] at eV
      have : U * k = 1 * k := by omega
      exact Int.eq_of_mul_eq_mul_right (by omega) this
    · intro z; rw [z] at eV; omega
  by_cases z : U = 1
  · rw [if_pos (c1.mpr z), if_pos (c2.mpr z)]
  · rw [if_neg (fun y => z (c1.mp y)), if_neg (fun y => z (c2.mp y))]
theorem Lo.uniq {f : Nat → Int} {i j k : Nat} (h : Lo f i j) (g : Lo f i k) : f j * k = f k * j := by
  have h1 := h.top k g.one g.le
  have h2 := g.top j h.one h.le
  omega
/-- what both sides tell of labels with the sums S -/
def ans (S : Nat → Int) (j j' : Nat) : D := if S j * j' < (S j' + 1) * j then .tup [mkN (S j) j, mkN (S j' + 1) j'] else .non
theorem ans_uniq {S : Nat → Int} {i j j' k k' : Nat} (h1 : Lo S i j) (h2 : Lo S i k) (h3 : Hi S i j') (h4 : Hi S i k') : ans S j j' = ans S k k' := by
  have u1 := h1.uniq h2
  have u2 := h3.uniq h4
  have u3 : (S j' + 1) * k' = (S k' + 1) * j' := by
    (try dsimp only at u2)
    rw [Int.neg_mul, Int.neg_mul] at u2; omega
  have a1 := h1.one
  have a2 := h2.one
  have a3 := h3.one
  have a4 := h4.one
  have q1 : (0 : Int) < j := by omega
  have q2 : (0 : Int) < k := by omega
  have q3 : (0 : Int) < j' := by omega
  have q4 : (0 : Int) < k' := by omega
  have e1 := mkN_eq q1 q2 u1
  have e2 := mkN_eq q3 q4 u3
  have c : S j * j' < (S j' + 1) * j ↔ S k * k' < (S k' + 1) * k := by
    have f1 : S j * j' * (k * k') = S k * k' * (j * j') := by
      have : S j * j' * (k * k') = (S j * k) * (j' * k') := by
        rw [Int.mul_assoc, Int.mul_assoc, Int.mul_left_comm (j' : Int)]
      rw [this, u1]
      rw [Int.mul_assoc, Int.mul_assoc, Int.mul_comm (j' : Int) k', Int.mul_left_comm (j : Int)]
    have f2 : (S j' + 1) * j * (k * k') = (S k' + 1) * k * (j * j') := by
      have : (S j' + 1) * j * (k * k') = ((S j' + 1) * k') * (j * k) := by
        rw [Int.mul_assoc, Int.mul_assoc]
        congr 1
        rw [← Int.mul_assoc, Int.mul_comm ((j : Int) * k)]
      rw [this, u3]
      rw [Int.mul_assoc, Int.mul_assoc]
      congr 1
      rw [Int.mul_comm (j' : Int), Int.mul_comm (j : Int) k, Int.mul_assoc]
    have p1 : (0 : Int) < k * k' := Int.mul_pos q2 q4
    have p2 : (0 : Int) < j * j' := Int.mul_pos q1 q3
    constructor
    · intro z
      have := Int.mul_lt_mul_of_pos_right z p1
      rw [f1, f2] at this
      exact Int.lt_of_mul_lt_mul_right this (Int.le_of_lt p2)
    · intro z
      have := Int.mul_lt_mul_of_pos_right z p2
      rw [← f1, ← f2] at this
      exact Int.lt_of_mul_lt_mul_right this (Int.le_of_lt p1)
  unfold ans
  by_cases z : S j * j' < (S j' + 1) * j
  · rw [if_pos z, if_pos (c.mp z), e1, e2]
  · rw [if_neg z, if_neg (fun y => z (c.mpr y))]
theorem told_gen {S : Nat → Int} {m : Nat} (p : Pt d (labs S m)) (h0 : S 0 = 0) (m1 : 1 ≤ m) (m2 : m ≤ 2000) (hb : ∀ k, k ≤ m → Bd 300 (S k)) :
    wp (F_told_back [d] M) (fun r M' => M' = M ∧ ∃ j j', Lo S m j ∧ Hi S m j' ∧ r = ans S j j') E := by
  unfold F_told_back
  refine st_def rfl ?_
  simp only [List.map_cons, List.map_nil, List.replicate, Nat.reduceSub, List.cons_append, List.nil_append]
  unfold B_told_back
  walk_at "st"
  have hl : (decide ((1 : Int) ≤ ((labs S m).length : Int)) && decide (((labs S m).length : Int) ≤ 2000)) = true := by
    rw [labs_len, Bool.and_eq_true, decide_eq_true_eq, decide_eq_true_eq]; omega
  refine wp_eqok (islist_p p) ?_
  rw [hl]
  walk_at "st"
  rw [wp_lcMap (g := fun _ => .bl true) (ds := labs S m) (itP p rfl) (fun e he => ?_) (by rw [labs_len]; have := sz4; omega)]
  rotate_left
  · obtain ⟨k, hk, ek⟩ := List.mem_map.mp he
    subst ek
    refine ⟨_, rfl, ?_⟩
    refine wp_eq ?_
    walk_at "st"
    exact ⟨rfl, rfl⟩
  refine Eq.mpr all_true ?_
  walk_at "st"
  rw [wp_sFor, wp_dEnuS]
  walk_at "st"
  have hen : ∀ M', enuS [d] [.int 1] M' = .ok (enuD 1 (labs S m)) M' := fun M' => by cases p <;> rfl
  refine wp_eqok (hen _) ?_
  refine wp_for (fun i ρ M' => M' = M ∧ ∃ x1 lo hi x5, ρ = [some d, x1, some (.int (S i)), some lo, some hi, x5] ∧
    ((i = 0 ∧ lo = .non ∧ hi = .non) ∨ (1 ≤ i ∧ ∃ j j', Lo S i j ∧ Hi S i j' ∧ lo = .tup [.int (S j), .int j] ∧ hi = .tup [.int (S j' + 1), .int j']))) (i := 0) (fun i d ρ M' hd hi => ?_) ⟨rfl, _, _, _, _, (by rw [h0]; rfl), .inl ⟨rfl, rfl, rfl⟩⟩ fun ρ M' hi => ?_
  · obtain ⟨e1, x1, lo, hh, x5, e2, hc⟩ := hi
    subst e1; subst e2
    rw [Nat.zero_add] at hc ⊢
    obtain ⟨him, ed⟩ := enu_labs hd
    subst ed
    refine ⟨_, put2_t, ?_⟩
    walk_at "st"
    rw [show S i + (S (i + 1) - S i) = S (i + 1) by omega]
    have bS := hb (i + 1) (by omega)
    have bi : ∀ k : Nat, k ≤ m → Bd 300 (k : Int) := fun k hk => (Bd.lit (i := (k : Int)) (by omega)).le (by decide)
    have b11 : Bd 8 (1 : Int) := Bd.lit8 (by decide)
    rw [show 1 + i = i + 1 by omega]
    rcases hc with ⟨z, z1, z2⟩ | ⟨z, j, j', hL, hH, z1, z2⟩
    · subst z; subst z1; subst z2
      walk_at "st"
      exact ⟨rfl, _, _, _, _, rfl, .inr ⟨by omega, 1, 1, Lo.first, Lo.first, rfl, rfl⟩⟩
    · subst z1; subst z2
      have jl := hL.le
      have jl' := hH.le
      have bSj := hb j (by omega)
      have bSj' := hb j' (by omega)
      have bj := bi j (by omega)
      have bj' := bi j' (by omega)
      have bI := bi (i + 1) (by omega)
      have bq : Bd 400 (S j' + 1) := (bSj'.add b11).le (by decide)
      have bQ : Bd 400 (S (i + 1) + 1) := (bS.add b11).le (by decide)
      walk_at "st"
      refine Eq.mpr (if_neg (show ¬ DL.isNon (D.tup [D.int (S j), D.int j]) = true from Bool.false_ne_true)) ?_
      walk_at "st"
      refine wp_eqok (less_t (bSj.le (by decide)) (bj.le (by decide)) (bS.le (by decide)) (bI.le (by decide))) ?_
      walk_at "st"
      by_cases g1 : S j * ((i + 1 : Nat) : Int) < S (i + 1) * j
      · refine st_ift (by simpa using g1) ?_
        walk_at "st"
        refine Eq.mpr (if_neg (show ¬ DL.isNon (D.tup [D.int (S j' + 1), D.int j']) = true from Bool.false_ne_true)) ?_
        walk_at "st"
        refine wp_eqok (less_t bQ (bI.le (by decide)) bq (bj'.le (by decide))) ?_
        walk_at "st"
        by_cases g2 : (S (i + 1) + 1) * j' < (S j' + 1) * ((i + 1 : Nat) : Int)
        · refine st_ift (by simpa using g2) ?_
          walk_at "st"
          exact ⟨rfl, _, _, _, _, rfl, .inr ⟨by omega, i + 1, i + 1, hL.new g1, hH.new (by show -(S j' + 1) * _ < -(S (i + 1) + 1) * _; rw [Int.neg_mul, Int.neg_mul]; omega), rfl, rfl⟩⟩
        · refine st_iff (by simpa using g2) ?_
          walk_at "st"
          exact ⟨rfl, _, _, _, _, rfl, .inr ⟨by omega, i + 1, j', hL.new g1, hH.stay (by show -(S (i + 1) + 1) * _ ≤ -(S j' + 1) * _; rw [Int.neg_mul, Int.neg_mul]; omega), rfl, rfl⟩⟩
      · refine st_iff (by simpa using g1) ?_
        walk_at "st"
        refine Eq.mpr (if_neg (show ¬ DL.isNon (D.tup [D.int (S j' + 1), D.int j']) = true from Bool.false_ne_true)) ?_
        walk_at "st"
        refine wp_eqok (less_t bQ (bI.le (by decide)) bq (bj'.le (by decide))) ?_
        walk_at "st"
        by_cases g2 : (S (i + 1) + 1) * j' < (S j' + 1) * ((i + 1 : Nat) : Int)
        · refine st_ift (by simpa using g2) ?_
          walk_at "st"
          exact ⟨rfl, _, _, _, _, rfl, .inr ⟨by omega, j, i + 1, hL.stay (Int.not_lt.mp g1), hH.new (by show -(S j' + 1) * _ < -(S (i + 1) + 1) * _; rw [Int.neg_mul, Int.neg_mul]; omega), rfl, rfl⟩⟩
        · refine st_iff (by simpa using g2) ?_
          walk_at "st"
          exact ⟨rfl, _, _, _, _, rfl, .inr ⟨by omega, j, j', hL.stay (Int.not_lt.mp g1), hH.stay (by show -(S (i + 1) + 1) * _ ≤ -(S j' + 1) * _; rw [Int.neg_mul, Int.neg_mul]; omega), rfl, rfl⟩⟩
  · obtain ⟨e1, x1, lo, hh, x5, e2, hc⟩ := hi
    subst e1; subst e2
    rw [Nat.zero_add, enuD_len, labs_len] at hc
    rcases hc with ⟨z, _⟩ | ⟨_, j, j', hL, hH, z1, z2⟩
    · omega
    subst z1; subst z2
    have j1 := hL.one
    have j1' := hH.one
    have jl := hL.le
    have jl' := hH.le
    have bi : ∀ k : Nat, k ≤ m → Bd 300 (k : Int) := fun k hk => (Bd.lit (i := (k : Int)) (by omega)).le (by decide)
    have bq : Bd 400 (S j' + 1) := ((hb j' (by omega)).add (Bd.lit8 (i := 1) (by decide))).le (by decide)
    have bSj : Bd 400 (S j) := (hb j (by omega)).le (by decide)
    have bj : Bd 400 (j : Int) := (bi j (by omega)).le (by decide)
    have bj' : Bd 400 (j' : Int) := (bi j' (by omega)).le (by decide)
    walk_at "st"
    refine wp_eqok (less_t bSj bj bq bj') ?_
    walk_at "st"
    by_cases hlt : S j * j' < (S j' + 1) * j
    · refine st_iff (by simpa using hlt) ?_
      walk_at "st"
      refine wp_eqok (made_ok (by omega) bj bSj) ?_
      walk_at "st"
      refine wp_eqok (made_ok (by omega) bj' bq) ?_
      walk_at "st"
      exact ⟨rfl, j, j', hL, hH, (if_pos hlt).symm⟩
    · refine st_ift (by simpa using hlt) ?_
      walk_at "st"
      exact ⟨rfl, j, j', hL, hH, (if_neg hlt).symm⟩
end
end My
end
section
set_option Elab.async false
set_option linter.all false
set_option maxRecDepth 100000
set_option maxHeartbeats 400000
namespace My
open PySem PySem.Spec PyProof.Rows L2 DL
section
variable {M : Sto} {E : EC}
def idS (k : Nat) : Int := k
theorem labs_ones {m : Nat} : labs idS m = List.replicate m (.int 1) := by
  unfold labs
  refine List.eq_replicate_iff.mpr ⟨by simp, fun b hb => ?_⟩
  obtain ⟨k, _, e⟩ := List.mem_map.mp hb
  rw [← e]
  unfold idS
  congr 1
  omega
theorem ans_ones {m j : Nat} (h1 : 1 ≤ j) : ans idS j m = .tup [.int 1, mkN (idS m + 1) m] := by
  unfold ans
  have c : idS j * ((m : Nat) : Int) < (idS m + 1) * j := by
    unfold idS
    rw [Int.add_mul, Int.mul_comm]
    omega
  rw [if_pos c]
  have e1 : mkN (idS j) j = .int 1 := by
    unfold mkN idS gc
    have g : (((Int.natAbs (j : Int)).gcd (Int.natAbs (j : Int)) : Nat) : Int) = j := by rw [Nat.gcd_self]; simp
    rw [g, if_pos rfl, Int.ediv_self (by omega)]
  rw [e1]
theorem told_m {m : Nat} (m1 : 1 ≤ m) (m2 : m ≤ 2000) : F_told_back [.lst (List.replicate m (.int 1))] M = .ok (.tup [.int 1, mkN (idS m + 1) m]) M := by
  have e0 : labs idS m = List.replicate m (.int 1) := labs_ones
  have t := told_gen (M := M) (E := fun _ _ _ _ => False) (S := idS) (m := m) (d := .lst (labs idS m)) .l rfl m1 m2 fun k hk => (Bd.lit (i := idS k) (by unfold idS; omega)).le (by decide)
  rw [e0] at t
  refine wp_eq (wp_mono t (fun r M' h => ?_) fun _ _ _ _ z => z)
  obtain ⟨e, j, j', hL, hH, er⟩ := h
  have h2 := hH.top m m1 (Nat.le_refl m)
  have hle := hH.le
  have h3 : j' = m := by
    (try dsimp only at h2)
    unfold idS at h2
    have e1 : -((m : Int) + 1) * j' = -((m : Int) * j') - j' := by rw [Int.neg_mul, Int.add_mul]; omega
    have e2 : -((j' : Int) + 1) * m = -((m : Int) * j') - m := by rw [Int.neg_mul, Int.add_mul, Int.mul_comm]; omega
    rw [e1, e2] at h2
    omega
  subst h3
  rw [ans_ones hL.one] at er
  exact ⟨er, e⟩
theorem mk_2001 : mkN (idS 2000 + 1) ((2000 : Nat) : Int) = .tup [.int 2001, .int 2000] := by
  unfold mkN idS gc
  rw [if_neg (by decide)]
  rfl
theorem labels_end {m : Int} (hm : 0 ≤ m ∧ m ≤ 2000) : ∃ r, F_labels_of [.tup [.tup [.int 1, .int 3]], .int (-5), .int m] M = .ok (.tup r) M ∧ r.length = m.toNat := by
  have hn : Num (.tup [.int 1, .int 3]) 1 3 := .t (by omega) rfl
  refine ⟨_, labels_of_ok (p := .t) (Pts.one hn) (PB.one hn (bdS (by decide)) (bdS (by decide))) (by simp) (by simp) (Nat.lt_of_lt_of_le (show (5 : Nat) < 2 ^ 62 by decide) (Nat.pow_le_pow_right (by omega) (by omega))) hm, ?_⟩
  unfold labRow
  simp
end
end My
end
section
set_option Elab.async false
set_option linter.all false
set_option maxRecDepth 100000
set_option maxHeartbeats 400000
namespace My
open PySem PySem.Spec PyProof.Rows L2 DL
local macro_rules | `(tactic| walk_at "wp") => `(tactic| simp only [wp_eqs, wp_eqi, wp_isN, wp_isNn, isNon_int, isNon_non, wp_def, wp_seq, wp_sIf, seqQ_nx, seqQ_rt, seqQ_ex, seqQ_bk, seqQ_ct, wp_sNx, wp_sSet, wp_sAsgT, wp_sRt, wp_sEx, wp_sPar, wp_sSub, wp_tV, wp_asB, wp_tNot, wp_tAnd, wp_tOr, wp_vAnd, wp_vOr, wp_vNot, wp_vIf, wp_dB, wp_dU, wp_cB, wp_aNil, wp_aCons, wp_dC, wp_var0, wp_varS, wp_dTup, wp_dLst, wp_dLstM, wp_dDic0, wp_sub, wp_add, wp_lt, wp_le, wp_gt, wp_ge, wp_neg, wp_mod, wp_fdiv, wp_pow, wp_mul, wp_int, wp_intb, wp_abs, wp_gcd, wp_bind, wp_pure, wp_ok, wp_cbad, wp_bad, wp_if, outC_rt, outC_nx, outC_ex, List.length_cons, List.length_nil, Nat.zero_add, Nat.reduceAdd, Nat.reduceSub, if_true, if_false, Bool.false_eq_true, List.map_cons, List.map_nil, List.replicate, List.cons_append, List.nil_append, List.set_cons_zero, List.set_cons_succ, List.set_nil, decide_true, decide_false, not_true, not_false_eq_true, Bool.not_true, Bool.not_false])
/-- how the law begins -/
theorem gate_ok {k : Int} {zs : List Int} {M : Sto} {E : EC} (hz : zs.length ≤ 63) :
    wp (dDef 2 1 (gaugeB k) [.fz (zs.map D.int)] M) (fun d M' => d = .ptr M.length ∧ ∃ cs : List Int, M' = M ++ [.lst [.lst (cs.map D.int), .int 0, .int 0]]) E := by
  unfold gaugeB
  (try walk_at "wp")
  rw [wp_dLc, wp_dIt]
  show wp (C.pure (D.lst (cut (zs.map D.int) none (some k))) M) _ _
  obtain ⟨ys, e, hy⟩ := cut_map (zs := zs) (lo := none) (hi := some k)
  rw [e]
  (try walk_at "wp")
  rw [wp_items]
  refine wp_lc (fun i acc M' => acc = (ys.take i).map D.int ∧ M' = M ∧ i ≤ ys.length) (i := 0) (fun j d acc M' hd hi => ?_) ⟨by simp, rfl, Nat.zero_le _⟩ fun acc M' hi => ?_
  · obtain ⟨e1, e2, hl⟩ := hi
    subst e1; subst e2
    rw [List.getElem?_map] at hd
    obtain ⟨y, hy2, e3⟩ := Option.map_eq_some_iff.mp hd
    subst e3
    have hj : j < ys.length := (List.getElem?_eq_some_iff.mp hy2).1
    refine ⟨_, rfl, ?_⟩
    show wp (C.pure true M') _ _
    (try walk_at "wp")
    dsimp only [wipeE, List.set]
    (try walk_at "wp")
    refine ⟨?_, ?_, trivial, by omega⟩
    · rw [List.length_map, List.length_take]
      have : 100 ≤ sizeLine := by decide
      omega
    · rw [List.take_succ, hy2, List.map_append]; rfl
  · obtain ⟨e1, e2, hl⟩ := hi
    subst e1; subst e2
    (try walk_at "wp")
    exact ⟨by decide, trivial, _, rfl⟩
theorem gate_sg {zs : List Int} {E : EC} {Q : D → Sto → Prop} (hz : zs.length ≤ 63) (q : ∀ M', Sg 2 0 M' → Q (.ptr 2) M') : wp (F__law_gate [.fz (zs.map D.int)] M0) Q E := by
  refine wp_mono (gate_ok (k := 60) hz) (fun d M' h => ?_) fun _ _ _ _ z => z
  obtain ⟨e, cs, e2⟩ := h
  subst e; subst e2
  exact q _ ⟨Nat.le_refl 2, ⟨cs, 0, 0, rfl, by omega, by omega, by omega⟩, rfl, rfl⟩
end My
end
section
set_option Elab.async false
set_option linter.all false
set_option maxRecDepth 100000
set_option maxHeartbeats 400000
namespace My
open PySem PySem.Spec PyProof.Rows L2 DL
local macro_rules | `(tactic| walk_at "st") => `(tactic| repeat (first | with_reducible refine Eq.mpr wp_seq ?_ | with_reducible refine Eq.mpr wp_sSet ?_ | with_reducible refine Eq.mpr wp_sIf ?_ | with_reducible refine Eq.mpr wp_sRt ?_ | with_reducible refine Eq.mpr wp_sEx ?_ | with_reducible refine Eq.mpr seqQ_nx ?_ | ((with_reducible apply st_var); exact rfl) | with_reducible refine Eq.mpr seqQ_rt ?_ | with_reducible refine Eq.mpr seqQ_ex ?_ | with_reducible refine Eq.mpr seqQ_bk ?_ | with_reducible refine Eq.mpr seqQ_ct ?_ | with_reducible refine Eq.mpr wp_sNx ?_ | with_reducible refine Eq.mpr wp_par2 ?_ | with_reducible refine Eq.mpr wp_par3 ?_ | with_reducible refine Eq.mpr wp_sAsg2' ?_ | with_reducible refine Eq.mpr wp_sAug ?_ | with_reducible refine Eq.mpr wp_sSub ?_ | with_reducible refine Eq.mpr wp_tV ?_ | with_reducible refine Eq.mpr wp_asB ?_ | with_reducible refine Eq.mpr wp_tNot ?_ | with_reducible refine Eq.mpr wp_tAnd ?_ | with_reducible refine Eq.mpr wp_tOr ?_ | with_reducible refine Eq.mpr wp_vAnd ?_ | with_reducible refine Eq.mpr wp_vOr ?_ | with_reducible refine Eq.mpr wp_vNot ?_ | with_reducible refine Eq.mpr wp_vIf ?_ | with_reducible refine Eq.mpr wp_dB ?_ | with_reducible refine Eq.mpr wp_dU ?_ | with_reducible refine Eq.mpr wp_cB ?_ | with_reducible refine Eq.mpr wp_aNil ?_ | with_reducible refine Eq.mpr wp_aCons ?_ | with_reducible refine Eq.mpr wp_dC ?_ | with_reducible refine Eq.mpr wp_chain ?_ | with_reducible refine Eq.mpr wp_sub ?_ | with_reducible refine Eq.mpr wp_add ?_ | with_reducible refine Eq.mpr wp_lt ?_ | with_reducible refine Eq.mpr wp_le ?_ | with_reducible refine Eq.mpr wp_gt ?_ | with_reducible refine Eq.mpr wp_ge ?_ | with_reducible refine Eq.mpr wp_neg ?_ | with_reducible refine Eq.mpr wp_eqs ?_ | with_reducible refine Eq.mpr wp_eqi ?_ | with_reducible refine Eq.mpr wp_isN ?_ | with_reducible refine Eq.mpr wp_isNn ?_ | with_reducible refine Eq.mpr wp_int ?_ | with_reducible refine Eq.mpr wp_intb ?_ | with_reducible refine Eq.mpr wp_abs ?_ | with_reducible refine Eq.mpr wp_gcd ?_ | with_reducible refine Eq.mpr wp_iadd ?_ | with_reducible refine Eq.mpr wp_isub ?_ | with_reducible refine Eq.mpr wp_dDic0 ?_ | with_reducible refine Eq.mpr wp_pure ?_ | with_reducible refine Eq.mpr wp_ok ?_ | with_reducible refine Eq.mpr outC_rt ?_ | with_reducible refine Eq.mpr outC_nx ?_ | with_reducible refine Eq.mpr outC_ex ?_ | with_reducible refine Eq.mpr wp_dSlice ?_ | with_reducible refine Eq.mpr wp_pNo ?_ | with_reducible refine Eq.mpr wp_pSo ?_ | with_reducible refine Eq.mpr wp_asIo ?_ | with_reducible refine Eq.mpr wp_dSlL ?_ | with_reducible refine Eq.mpr wp_dSlT ?_ | with_reducible refine Eq.mpr wp_revL ?_ | with_reducible refine Eq.mpr wp_kRevL ?_ | with_reducible refine Eq.mpr wp_dZipS ?_ | with_reducible refine Eq.mpr wp_dRng ?_ | with_reducible refine Eq.mpr wp_zipLL ?_ | with_reducible refine Eq.mpr wp_zipLT ?_ | with_reducible refine Eq.mpr wp_zipTL ?_ | with_reducible refine Eq.mpr wp_zipTT ?_ | with_reducible refine Eq.mpr wp_enuL ?_ | with_reducible refine Eq.mpr wp_enuT ?_ | with_reducible refine wp_eqok ix_t0 ?_ | with_reducible refine wp_eqok ix_t1 ?_ | with_reducible refine wp_eqok ix_l0 ?_ | with_reducible refine wp_eqok ix_l1 ?_ | with_reducible refine Eq.mpr wp_dDic1 ?_ | with_reducible refine Eq.mpr wp_dTup ?_ | with_reducible refine Eq.mpr wp_dLst ?_ | with_reducible refine Eq.mpr wp_dLstM ?_ | ((with_reducible refine Eq.mpr wp_mod ⟨?_, ?_⟩); (first | decide | omega | (walk_at "sd"))) | ((with_reducible refine Eq.mpr wp_fdiv ⟨?_, ?_⟩); (first | decide | omega | (walk_at "sd"))) | ((with_reducible refine Eq.mpr wp_pow ⟨?_, ?_⟩); (first | decide | omega | (walk_at "sd"))) | ((with_reducible refine Eq.mpr wp_mul ⟨?_, ?_⟩); (first | decide | omega | (walk_at "sd"))) | ((with_reducible refine Eq.mpr wp_rng1 ⟨?_, ?_⟩); (first | decide | omega | (walk_at "sd"))) | ((with_reducible refine Eq.mpr wp_rng2 ⟨?_, ?_⟩); (first | decide | omega | (walk_at "sd"))) | ((with_reducible refine Eq.mpr wp_dLcm ⟨?_, ?_⟩); (first | decide | omega | (walk_at "sd"))) | (refine And.intro (by simp only [List.length_cons, List.length_nil, Nat.reduceAdd, Nat.zero_add]; decide) ?_) | with_reducible refine st_ift rfl ?_ | with_reducible refine st_iff (by decide) ?_ | with_reducible refine Eq.mpr (if_pos rfl) ?_ | with_reducible refine Eq.mpr (if_neg (by decide)) ?_ | (with_reducible refine st_asg ?_) | (refine ⟨_, put2_t, ?_⟩) | (refine ⟨_, put2_l, ?_⟩)))
theorem rg4' {i : Nat} {d : D} (h : (rgI 0 4)[i]? = some d) : i < 4 := by
  have := (List.getElem?_eq_some_iff.mp h).1
  unfold rgI at this
  simpa using this
theorem len_t' {M : Sto} {r : List D} : dLen [.tup r] M = .ok (.int r.length) M := rfl
theorem eq_end {M : Sto} : dEqv false (.tup [.int 1, .tup [.int 2001, .int 2000]]) (.tup [.int 1, .tup [.int 2001, .int 2000]]) M = .ok (.bl true) M := eq_same (fun _ => rfl) rfl (by decide +kernel) (by decide +kernel)
theorem mulk {M : Sto} {E : EC} {Q : D → Sto → Prop} {k : Int} (h : 0 ≤ k ∧ k ≤ 9000) (q : Q (.lst (List.replicate k.toNat (.int 1))) M) : wp (dMul (.lst [.int 1]) (.int k) M) Q E := wp_eqok (mul_l h) q
theorem law_end {n : Nat} {B m a : Int} {M : Sto} {s x2 : Option D} (h : Sg n B M) (hB : B ≤ 300000) (hm : 1 ≤ m ∧ m ≤ 2000) (ha : mkN (idS m.toNat + 1) (m.toNat : Int) = .tup [.int a, .int m]) (he : ∀ M, dEqv false (.tup [.int 1, .tup [.int a, .int m]]) (.tup [.int 1, .tup [.int a, .int m]]) M = .ok (.bl true) M) :
    wp (sSeq (sIf (tV (dB (dEqv false) (cB F__law_knock (aCons (dVar 1) (aCons (dC (.int 12)) (aNil)))) (dC (.int 0))))
    (sRt (vAnd (dB (dEqv false) (cB dLen (aCons (cB F_labels_of (aCons (dTup (aCons (dTup (aCons (dC (.int 1)) (aCons (dC (.int 3)) (aNil)))) (aNil))) (aCons (dC (.int (-5))) (aCons (dC (.int m)) (aNil))))) (aNil))) (dC (.int m))) (dB (dEqv false) (cB F_told_back (aCons (dB dMul (dLst (aCons (dC (.int 1)) (aNil))) (dC (.int m))) (aNil))) (dTup (aCons (dC (.int 1)) (aCons (dTup (aCons (dC (.int a)) (aCons (dC (.int m)) (aNil)))) (aNil)))))))
    (sNx))
    (sRt (dC (.bl true))) [s, some (.ptr n), x2] M) (fun o _ => o = .rt (.bl true)) (fun _ _ _ _ => False) := by
  walk_at "st"
  refine knock h (by omega) (by decide) (bdK (by decide)) fun v M1 v0 v1 h1 l1 => ?_
  walk_at "st"
  by_cases z : v = 0
  · rw [if_pos (by simpa using z)]
    walk_at "st"
    obtain ⟨r, e, l⟩ := labels_end (M := M1) (m := m) (by omega)
    refine wp_eqok e ?_
    walk_at "st"
    have l2 : (r.length : Int) = m := by omega
    refine wp_eqok (show dLen [.tup r] M1 = .ok (.int m) M1 by rw [len_t', l2]) ?_
    walk_at "st"
    rw [if_pos (by simp)]
    walk_at "st"
    refine mulk (by omega) ?_
    walk_at "st"
    refine wp_eqok (told_m (m := m.toNat) (by omega) (by omega)) ?_
    rw [ha]
    walk_at "st"
    refine wp_eqok (he M1) ?_
    walk_at "st"
    first | rfl | exact trivial
  · rw [if_neg (by simpa using z)]
    walk_at "st"
    rfl
theorem law_true (ns : List Int) (hn : ns.length ≤ 63) (_ : ∀ z ∈ ns, Builtin.Int.intBits z ≤ 1048576) : ∃ M', F_law [.fz (ns.map D.int)] M0 = .ok (.bl true) M' := by
  obtain ⟨b, M', e, h⟩ := wp_ex (x := F_law [.fz (ns.map D.int)] M0) (R := fun d => d = .bl true) (by
    unfold F_law
    refine st_def rfl ?_
    simp only [List.map_cons, List.map_nil, List.replicate, Nat.reduceSub, List.cons_append, List.nil_append]
    unfold B_law
    refine Eq.mpr wp_seq ?_
    walk_at "st"
    refine gate_sg hn fun M1 g1 => ?_
    walk_at "st"
    rw [wp_sFor]
    walk_at "st"
    refine wp_for (fun i ρ M' => ∃ s x2, ρ = [s, some (.ptr 2), x2] ∧ Sg 2 (20 * i) M') (i := 0) (fun j d ρ M' hd hi => ?_) ⟨_, _, rfl, by simpa using g1⟩ fun ρ M' hi => ?_
    · obtain ⟨s, x2, e, g2⟩ := hi
      subst e
      rw [Nat.zero_add] at g2 ⊢
      have hj : j < 4 := rg4' hd
      refine ⟨_, rfl, ?_⟩
      walk_at "st"
      refine calls_ok g2 (by omega) fun M2 g3 => ?_
      walk_at "st"
      refine labels_ok g3 (by omega) fun M3 g4 => ?_
      walk_at "st"
      exact ⟨_, _, rfl, g4.mono (by push_cast; omega)⟩
    · obtain ⟨s, x2, e, g2⟩ := hi
      subst e
      refine Eq.mpr seqQ_nx ?_
      refine wp_mono (law_end (m := 2000) (a := 2001) g2 (by simp [rgI]) (by omega) (by rw [show (2000 : Int).toNat = 2000 from rfl]; exact mk_2001) fun _ => eq_end) (fun o M' h => ?_) fun _ _ _ _ z => z
      subst h
      rw [outC_rt])
  subst h
  exact ⟨M', e⟩
end My
end
set_option Elab.async false
set_option linter.all false
set_option maxRecDepth 100000
set_option maxHeartbeats 4000000
namespace My
open PySem PySem.Spec PyProof.Rows L2 DL
theorem all_mk {l : PySem.W.OpenLaw} {w : World} {K : PySem.W.Frag} {h : Heap} {mg : Str → Option Value} {fa : Addr} (X : K.In h) (G : h.Ns mainGlobals mg) (hfa : mg "law" = some (.ref fa))
    {f_is_integer : Addr} {oc_is_integer : Value} {od_is_integer : Option Addr} {kV_is_integer dc_is_integer pm_is_integer : Value} {an_is_integer : Option Addr} {cd_is_integer ct_is_integer : Value} {sl_is_integer : Array (Option Value)}
    {f_is_within : Addr} {oc_is_within : Value} {od_is_within : Option Addr} {kV_is_within dc_is_within pm_is_within : Value} {an_is_within : Option Addr} {cd_is_within ct_is_within : Value} {sl_is_within : Array (Option Value)}
    {f_is_list : Addr} {oc_is_list : Value} {od_is_list : Option Addr} {kV_is_list dc_is_list pm_is_list : Value} {an_is_list : Option Addr} {cd_is_list ct_is_list : Value} {sl_is_list : Array (Option Value)}
    {f_parts_of : Addr} {oc_parts_of : Value} {od_parts_of : Option Addr} {kV_parts_of dc_parts_of pm_parts_of : Value} {an_parts_of : Option Addr} {cd_parts_of ct_parts_of : Value} {sl_parts_of : Array (Option Value)}
    {f_made : Addr} {oc_made : Value} {od_made : Option Addr} {kV_made dc_made pm_made : Value} {an_made : Option Addr} {cd_made ct_made : Value} {sl_made : Array (Option Value)}
    {f_is_less : Addr} {oc_is_less : Value} {od_is_less : Option Addr} {kV_is_less dc_is_less pm_is_less : Value} {an_is_less : Option Addr} {cd_is_less ct_is_less : Value} {sl_is_less : Array (Option Value)}
    {f_common_under : Addr} {oc_common_under : Value} {od_common_under : Option Addr} {kV_common_under dc_common_under pm_common_under : Value} {an_common_under : Option Addr} {cd_common_under ct_common_under : Value} {sl_common_under : Array (Option Value)}
    {f_is_number : Addr} {oc_is_number : Value} {od_is_number : Option Addr} {kV_is_number dc_is_number pm_is_number : Value} {an_is_number : Option Addr} {cd_is_number ct_is_number : Value} {sl_is_number : Array (Option Value)}
    {f_want_within : Addr} {oc_want_within : Value} {od_want_within : Option Addr} {kV_want_within dc_want_within pm_want_within : Value} {an_want_within : Option Addr} {cd_want_within ct_want_within : Value} {sl_want_within : Array (Option Value)}
    {f_want_integer : Addr} {oc_want_integer : Value} {od_want_integer : Option Addr} {kV_want_integer dc_want_integer pm_want_integer : Value} {an_want_integer : Option Addr} {cd_want_integer ct_want_integer : Value} {sl_want_integer : Array (Option Value)}
    {f_is_point : Addr} {oc_is_point : Value} {od_is_point : Option Addr} {kV_is_point dc_is_point pm_is_point : Value} {an_is_point : Option Addr} {cd_is_point ct_is_point : Value} {sl_is_point : Array (Option Value)}
    {f_want_free_point : Addr} {oc_want_free_point : Value} {od_want_free_point : Option Addr} {kV_want_free_point dc_want_free_point pm_want_free_point : Value} {an_want_free_point : Option Addr} {cd_want_free_point ct_want_free_point : Value} {sl_want_free_point : Array (Option Value)}
    {f_wholes_of : Addr} {oc_wholes_of : Value} {od_wholes_of : Option Addr} {kV_wholes_of dc_wholes_of pm_wholes_of : Value} {an_wholes_of : Option Addr} {cd_wholes_of ct_wholes_of : Value} {sl_wholes_of : Array (Option Value)}
    {f_labels_at : Addr} {oc_labels_at : Value} {od_labels_at : Option Addr} {kV_labels_at dc_labels_at pm_labels_at : Value} {an_labels_at : Option Addr} {cd_labels_at ct_labels_at : Value} {sl_labels_at : Array (Option Value)}
    {f_label_sum : Addr} {oc_label_sum : Value} {od_label_sum : Option Addr} {kV_label_sum dc_label_sum pm_label_sum : Value} {an_label_sum : Option Addr} {cd_label_sum ct_label_sum : Value} {sl_label_sum : Array (Option Value)}
    {f_label_at : Addr} {oc_label_at : Value} {od_label_at : Option Addr} {kV_label_at dc_label_at pm_label_at : Value} {an_label_at : Option Addr} {cd_label_at ct_label_at : Value} {sl_label_at : Array (Option Value)}
    {f_labels_of : Addr} {oc_labels_of : Value} {od_labels_of : Option Addr} {kV_labels_of dc_labels_of pm_labels_of : Value} {an_labels_of : Option Addr} {cd_labels_of ct_labels_of : Value} {sl_labels_of : Array (Option Value)}
    {f_sum_of : Addr} {oc_sum_of : Value} {od_sum_of : Option Addr} {kV_sum_of dc_sum_of pm_sum_of : Value} {an_sum_of : Option Addr} {cd_sum_of ct_sum_of : Value} {sl_sum_of : Array (Option Value)}
    {f_comes_again : Addr} {oc_comes_again : Value} {od_comes_again : Option Addr} {kV_comes_again dc_comes_again pm_comes_again : Value} {an_comes_again : Option Addr} {cd_comes_again ct_comes_again : Value} {sl_comes_again : Array (Option Value)}
    {f_told_back : Addr} {oc_told_back : Value} {od_told_back : Option Addr} {kV_told_back dc_told_back pm_told_back : Value} {an_told_back : Option Addr} {cd_told_back ct_told_back : Value} {sl_told_back : Array (Option Value)}
    {f__law_gate : Addr} {oc__law_gate : Value} {od__law_gate : Option Addr} {kV__law_gate dc__law_gate pm__law_gate : Value} {an__law_gate : Option Addr} {cd__law_gate ct__law_gate : Value} {sl__law_gate : Array (Option Value)}
    {f__law_knock : Addr} {oc__law_knock : Value} {od__law_knock : Option Addr} {kV__law_knock dc__law_knock pm__law_knock : Value} {an__law_knock : Option Addr} {cd__law_knock ct__law_knock : Value} {sl__law_knock : Array (Option Value)}
    {f__law_one : Addr} {oc__law_one : Value} {od__law_one : Option Addr} {kV__law_one dc__law_one pm__law_one : Value} {an__law_one : Option Addr} {cd__law_one ct__law_one : Value} {sl__law_one : Array (Option Value)}
    {f__law_heard : Addr} {oc__law_heard : Value} {od__law_heard : Option Addr} {kV__law_heard dc__law_heard pm__law_heard : Value} {an__law_heard : Option Addr} {cd__law_heard ct__law_heard : Value} {sl__law_heard : Array (Option Value)}
    {f__law_point : Addr} {oc__law_point : Value} {od__law_point : Option Addr} {kV__law_point dc__law_point pm__law_point : Value} {an__law_point : Option Addr} {cd__law_point ct__law_point : Value} {sl__law_point : Array (Option Value)}
    {f__law_integer : Addr} {oc__law_integer : Value} {od__law_integer : Option Addr} {kV__law_integer dc__law_integer pm__law_integer : Value} {an__law_integer : Option Addr} {cd__law_integer ct__law_integer : Value} {sl__law_integer : Array (Option Value)}
    {f__law_calls_right : Addr} {oc__law_calls_right : Value} {od__law_calls_right : Option Addr} {kV__law_calls_right dc__law_calls_right pm__law_calls_right : Value} {an__law_calls_right : Option Addr} {cd__law_calls_right ct__law_calls_right : Value} {sl__law_calls_right : Array (Option Value)}
    {f__law_labels_right : Addr} {oc__law_labels_right : Value} {od__law_labels_right : Option Addr} {kV__law_labels_right dc__law_labels_right pm__law_labels_right : Value} {an__law_labels_right : Option Addr} {cd__law_labels_right ct__law_labels_right : Value} {sl__law_labels_right : Array (Option Value)}
    {f_law : Addr} {oc_law : Value} {od_law : Option Addr} {kV_law dc_law pm_law : Value} {an_law : Option Addr} {cd_law ct_law : Value} {sl_law : Array (Option Value)}
    {f_BadNumber___init__ : Addr} {oc_BadNumber___init__ : Value} {od_BadNumber___init__ : Option Addr} {kV_BadNumber___init__ dc_BadNumber___init__ pm_BadNumber___init__ : Value} {an_BadNumber___init__ : Option Addr} {cd_BadNumber___init__ ct_BadNumber___init__ : Value} {sl_BadNumber___init__ : Array (Option Value)}
    {f_BadPoint___init__ : Addr} {oc_BadPoint___init__ : Value} {od_BadPoint___init__ : Option Addr} {kV_BadPoint___init__ dc_BadPoint___init__ pm_BadPoint___init__ : Value} {an_BadPoint___init__ : Option Addr} {cd_BadPoint___init__ ct_BadPoint___init__ : Value} {sl_BadPoint___init__ : Array (Option Value)}
    {C_TileError : Addr}
    {C_BadNumber : Addr}
    {C_BadPoint : Addr}
    {t_MOST_LABELS : Tok}
    {tc__law_calls_right tp__law_calls_right : Addr}
    {tc__law_labels_right tp__law_labels_right : Addr}
    (a_TileError : PySem.W.nsIn K mainGlobals "TileError" = some (some (.ref C_TileError)))
    (a_BadNumber : PySem.W.nsIn K mainGlobals "BadNumber" = some (some (.ref C_BadNumber)))
    (a_BadPoint : PySem.W.nsIn K mainGlobals "BadPoint" = some (some (.ref C_BadPoint)))
    (a_is_integer : PySem.W.nsIn K mainGlobals "is_integer" = some (some (.ref f_is_integer)))
    (l_is_integer : K.lookup f_is_integer = some ⟨oc_is_integer, od_is_integer, .func (PySem.W.fnOf "is_integer" "is_integer" (defArgs s_is_integer) (defBody s_is_integer) (defScope s_is_integer) .none kV_is_integer dc_is_integer pm_is_integer an_is_integer cd_is_integer ct_is_integer), sl_is_integer⟩)
    (c_is_integer : PySem.W.codeIn K cd_is_integer "is_integer" = true)
    (k_is_integer : PySem.W.keepIn K (.ref f_is_integer) = true)
    (a_is_within : PySem.W.nsIn K mainGlobals "is_within" = some (some (.ref f_is_within)))
    (l_is_within : K.lookup f_is_within = some ⟨oc_is_within, od_is_within, .func (PySem.W.fnOf "is_within" "is_within" (defArgs s_is_within) (defBody s_is_within) (defScope s_is_within) .none kV_is_within dc_is_within pm_is_within an_is_within cd_is_within ct_is_within), sl_is_within⟩)
    (c_is_within : PySem.W.codeIn K cd_is_within "is_within" = true)
    (k_is_within : PySem.W.keepIn K (.ref f_is_within) = true)
    (a_is_list : PySem.W.nsIn K mainGlobals "is_list" = some (some (.ref f_is_list)))
    (l_is_list : K.lookup f_is_list = some ⟨oc_is_list, od_is_list, .func (PySem.W.fnOf "is_list" "is_list" (defArgs s_is_list) (defBody s_is_list) (defScope s_is_list) .none kV_is_list dc_is_list pm_is_list an_is_list cd_is_list ct_is_list), sl_is_list⟩)
    (c_is_list : PySem.W.codeIn K cd_is_list "is_list" = true)
    (k_is_list : PySem.W.keepIn K (.ref f_is_list) = true)
    (a_parts_of : PySem.W.nsIn K mainGlobals "parts_of" = some (some (.ref f_parts_of)))
    (l_parts_of : K.lookup f_parts_of = some ⟨oc_parts_of, od_parts_of, .func (PySem.W.fnOf "parts_of" "parts_of" (defArgs s_parts_of) (defBody s_parts_of) (defScope s_parts_of) .none kV_parts_of dc_parts_of pm_parts_of an_parts_of cd_parts_of ct_parts_of), sl_parts_of⟩)
    (c_parts_of : PySem.W.codeIn K cd_parts_of "parts_of" = true)
    (k_parts_of : PySem.W.keepIn K (.ref f_parts_of) = true)
    (a_made : PySem.W.nsIn K mainGlobals "made" = some (some (.ref f_made)))
    (l_made : K.lookup f_made = some ⟨oc_made, od_made, .func (PySem.W.fnOf "made" "made" (defArgs s_made) (defBody s_made) (defScope s_made) .none kV_made dc_made pm_made an_made cd_made ct_made), sl_made⟩)
    (c_made : PySem.W.codeIn K cd_made "made" = true)
    (k_made : PySem.W.keepIn K (.ref f_made) = true)
    (a_is_less : PySem.W.nsIn K mainGlobals "is_less" = some (some (.ref f_is_less)))
    (l_is_less : K.lookup f_is_less = some ⟨oc_is_less, od_is_less, .func (PySem.W.fnOf "is_less" "is_less" (defArgs s_is_less) (defBody s_is_less) (defScope s_is_less) .none kV_is_less dc_is_less pm_is_less an_is_less cd_is_less ct_is_less), sl_is_less⟩)
    (c_is_less : PySem.W.codeIn K cd_is_less "is_less" = true)
    (k_is_less : PySem.W.keepIn K (.ref f_is_less) = true)
    (a_common_under : PySem.W.nsIn K mainGlobals "common_under" = some (some (.ref f_common_under)))
    (l_common_under : K.lookup f_common_under = some ⟨oc_common_under, od_common_under, .func (PySem.W.fnOf "common_under" "common_under" (defArgs s_common_under) (defBody s_common_under) (defScope s_common_under) .none kV_common_under dc_common_under pm_common_under an_common_under cd_common_under ct_common_under), sl_common_under⟩)
    (c_common_under : PySem.W.codeIn K cd_common_under "common_under" = true)
    (k_common_under : PySem.W.keepIn K (.ref f_common_under) = true)
    (a_is_number : PySem.W.nsIn K mainGlobals "is_number" = some (some (.ref f_is_number)))
    (l_is_number : K.lookup f_is_number = some ⟨oc_is_number, od_is_number, .func (PySem.W.fnOf "is_number" "is_number" (defArgs s_is_number) (defBody s_is_number) (defScope s_is_number) .none kV_is_number dc_is_number pm_is_number an_is_number cd_is_number ct_is_number), sl_is_number⟩)
    (c_is_number : PySem.W.codeIn K cd_is_number "is_number" = true)
    (k_is_number : PySem.W.keepIn K (.ref f_is_number) = true)
    (a_want_within : PySem.W.nsIn K mainGlobals "want_within" = some (some (.ref f_want_within)))
    (l_want_within : K.lookup f_want_within = some ⟨oc_want_within, od_want_within, .func (PySem.W.fnOf "want_within" "want_within" (defArgs s_want_within) (defBody s_want_within) (defScope s_want_within) .none kV_want_within dc_want_within pm_want_within an_want_within cd_want_within ct_want_within), sl_want_within⟩)
    (c_want_within : PySem.W.codeIn K cd_want_within "want_within" = true)
    (k_want_within : PySem.W.keepIn K (.ref f_want_within) = true)
    (a_want_integer : PySem.W.nsIn K mainGlobals "want_integer" = some (some (.ref f_want_integer)))
    (l_want_integer : K.lookup f_want_integer = some ⟨oc_want_integer, od_want_integer, .func (PySem.W.fnOf "want_integer" "want_integer" (defArgs s_want_integer) (defBody s_want_integer) (defScope s_want_integer) .none kV_want_integer dc_want_integer pm_want_integer an_want_integer cd_want_integer ct_want_integer), sl_want_integer⟩)
    (c_want_integer : PySem.W.codeIn K cd_want_integer "want_integer" = true)
    (k_want_integer : PySem.W.keepIn K (.ref f_want_integer) = true)
    (a_is_point : PySem.W.nsIn K mainGlobals "is_point" = some (some (.ref f_is_point)))
    (l_is_point : K.lookup f_is_point = some ⟨oc_is_point, od_is_point, .func (PySem.W.fnOf "is_point" "is_point" (defArgs s_is_point) (defBody s_is_point) (defScope s_is_point) .none kV_is_point dc_is_point pm_is_point an_is_point cd_is_point ct_is_point), sl_is_point⟩)
    (c_is_point : PySem.W.codeIn K cd_is_point "is_point" = true)
    (k_is_point : PySem.W.keepIn K (.ref f_is_point) = true)
    (a_want_free_point : PySem.W.nsIn K mainGlobals "want_free_point" = some (some (.ref f_want_free_point)))
    (l_want_free_point : K.lookup f_want_free_point = some ⟨oc_want_free_point, od_want_free_point, .func (PySem.W.fnOf "want_free_point" "want_free_point" (defArgs s_want_free_point) (defBody s_want_free_point) (defScope s_want_free_point) .none kV_want_free_point dc_want_free_point pm_want_free_point an_want_free_point cd_want_free_point ct_want_free_point), sl_want_free_point⟩)
    (c_want_free_point : PySem.W.codeIn K cd_want_free_point "want_free_point" = true)
    (k_want_free_point : PySem.W.keepIn K (.ref f_want_free_point) = true)
    (a_wholes_of : PySem.W.nsIn K mainGlobals "wholes_of" = some (some (.ref f_wholes_of)))
    (l_wholes_of : K.lookup f_wholes_of = some ⟨oc_wholes_of, od_wholes_of, .func (PySem.W.fnOf "wholes_of" "wholes_of" (defArgs s_wholes_of) (defBody s_wholes_of) (defScope s_wholes_of) .none kV_wholes_of dc_wholes_of pm_wholes_of an_wholes_of cd_wholes_of ct_wholes_of), sl_wholes_of⟩)
    (c_wholes_of : PySem.W.codeIn K cd_wholes_of "wholes_of" = true)
    (k_wholes_of : PySem.W.keepIn K (.ref f_wholes_of) = true)
    (a_labels_at : PySem.W.nsIn K mainGlobals "labels_at" = some (some (.ref f_labels_at)))
    (l_labels_at : K.lookup f_labels_at = some ⟨oc_labels_at, od_labels_at, .func (PySem.W.fnOf "labels_at" "labels_at" (defArgs s_labels_at) (defBody s_labels_at) (defScope s_labels_at) .none kV_labels_at dc_labels_at pm_labels_at an_labels_at cd_labels_at ct_labels_at), sl_labels_at⟩)
    (c_labels_at : PySem.W.codeIn K cd_labels_at "labels_at" = true)
    (k_labels_at : PySem.W.keepIn K (.ref f_labels_at) = true)
    (a_label_sum : PySem.W.nsIn K mainGlobals "label_sum" = some (some (.ref f_label_sum)))
    (l_label_sum : K.lookup f_label_sum = some ⟨oc_label_sum, od_label_sum, .func (PySem.W.fnOf "label_sum" "label_sum" (defArgs s_label_sum) (defBody s_label_sum) (defScope s_label_sum) .none kV_label_sum dc_label_sum pm_label_sum an_label_sum cd_label_sum ct_label_sum), sl_label_sum⟩)
    (c_label_sum : PySem.W.codeIn K cd_label_sum "label_sum" = true)
    (k_label_sum : PySem.W.keepIn K (.ref f_label_sum) = true)
    (a_label_at : PySem.W.nsIn K mainGlobals "label_at" = some (some (.ref f_label_at)))
    (l_label_at : K.lookup f_label_at = some ⟨oc_label_at, od_label_at, .func (PySem.W.fnOf "label_at" "label_at" (defArgs s_label_at) (defBody s_label_at) (defScope s_label_at) .none kV_label_at dc_label_at pm_label_at an_label_at cd_label_at ct_label_at), sl_label_at⟩)
    (c_label_at : PySem.W.codeIn K cd_label_at "label_at" = true)
    (k_label_at : PySem.W.keepIn K (.ref f_label_at) = true)
    (a_labels_of : PySem.W.nsIn K mainGlobals "labels_of" = some (some (.ref f_labels_of)))
    (l_labels_of : K.lookup f_labels_of = some ⟨oc_labels_of, od_labels_of, .func (PySem.W.fnOf "labels_of" "labels_of" (defArgs s_labels_of) (defBody s_labels_of) (defScope s_labels_of) .none kV_labels_of dc_labels_of pm_labels_of an_labels_of cd_labels_of ct_labels_of), sl_labels_of⟩)
    (c_labels_of : PySem.W.codeIn K cd_labels_of "labels_of" = true)
    (k_labels_of : PySem.W.keepIn K (.ref f_labels_of) = true)
    (a_sum_of : PySem.W.nsIn K mainGlobals "sum_of" = some (some (.ref f_sum_of)))
    (l_sum_of : K.lookup f_sum_of = some ⟨oc_sum_of, od_sum_of, .func (PySem.W.fnOf "sum_of" "sum_of" (defArgs s_sum_of) (defBody s_sum_of) (defScope s_sum_of) .none kV_sum_of dc_sum_of pm_sum_of an_sum_of cd_sum_of ct_sum_of), sl_sum_of⟩)
    (c_sum_of : PySem.W.codeIn K cd_sum_of "sum_of" = true)
    (k_sum_of : PySem.W.keepIn K (.ref f_sum_of) = true)
    (a_comes_again : PySem.W.nsIn K mainGlobals "comes_again" = some (some (.ref f_comes_again)))
    (l_comes_again : K.lookup f_comes_again = some ⟨oc_comes_again, od_comes_again, .func (PySem.W.fnOf "comes_again" "comes_again" (defArgs s_comes_again) (defBody s_comes_again) (defScope s_comes_again) .none kV_comes_again dc_comes_again pm_comes_again an_comes_again cd_comes_again ct_comes_again), sl_comes_again⟩)
    (c_comes_again : PySem.W.codeIn K cd_comes_again "comes_again" = true)
    (k_comes_again : PySem.W.keepIn K (.ref f_comes_again) = true)
    (a_told_back : PySem.W.nsIn K mainGlobals "told_back" = some (some (.ref f_told_back)))
    (l_told_back : K.lookup f_told_back = some ⟨oc_told_back, od_told_back, .func (PySem.W.fnOf "told_back" "told_back" (defArgs s_told_back) (defBody s_told_back) (defScope s_told_back) .none kV_told_back dc_told_back pm_told_back an_told_back cd_told_back ct_told_back), sl_told_back⟩)
    (c_told_back : PySem.W.codeIn K cd_told_back "told_back" = true)
    (k_told_back : PySem.W.keepIn K (.ref f_told_back) = true)
    (a__law_gate : PySem.W.nsIn K mainGlobals "_law_gate" = some (some (.ref f__law_gate)))
    (l__law_gate : K.lookup f__law_gate = some ⟨oc__law_gate, od__law_gate, .func (PySem.W.fnOf "_law_gate" "_law_gate" (defArgs s__law_gate) (defBody s__law_gate) (defScope s__law_gate) .none kV__law_gate dc__law_gate pm__law_gate an__law_gate cd__law_gate ct__law_gate), sl__law_gate⟩)
    (c__law_gate : PySem.W.codeIn K cd__law_gate "_law_gate" = true)
    (k__law_gate : PySem.W.keepIn K (.ref f__law_gate) = true)
    (a__law_knock : PySem.W.nsIn K mainGlobals "_law_knock" = some (some (.ref f__law_knock)))
    (l__law_knock : K.lookup f__law_knock = some ⟨oc__law_knock, od__law_knock, .func (PySem.W.fnOf "_law_knock" "_law_knock" (defArgs s__law_knock) (defBody s__law_knock) (defScope s__law_knock) .none kV__law_knock dc__law_knock pm__law_knock an__law_knock cd__law_knock ct__law_knock), sl__law_knock⟩)
    (c__law_knock : PySem.W.codeIn K cd__law_knock "_law_knock" = true)
    (k__law_knock : PySem.W.keepIn K (.ref f__law_knock) = true)
    (a__law_one : PySem.W.nsIn K mainGlobals "_law_one" = some (some (.ref f__law_one)))
    (l__law_one : K.lookup f__law_one = some ⟨oc__law_one, od__law_one, .func (PySem.W.fnOf "_law_one" "_law_one" (defArgs s__law_one) (defBody s__law_one) (defScope s__law_one) .none kV__law_one dc__law_one pm__law_one an__law_one cd__law_one ct__law_one), sl__law_one⟩)
    (c__law_one : PySem.W.codeIn K cd__law_one "_law_one" = true)
    (k__law_one : PySem.W.keepIn K (.ref f__law_one) = true)
    (a__law_heard : PySem.W.nsIn K mainGlobals "_law_heard" = some (some (.ref f__law_heard)))
    (l__law_heard : K.lookup f__law_heard = some ⟨oc__law_heard, od__law_heard, .func (PySem.W.fnOf "_law_heard" "_law_heard" (defArgs s__law_heard) (defBody s__law_heard) (defScope s__law_heard) .none kV__law_heard dc__law_heard pm__law_heard an__law_heard cd__law_heard ct__law_heard), sl__law_heard⟩)
    (c__law_heard : PySem.W.codeIn K cd__law_heard "_law_heard" = true)
    (k__law_heard : PySem.W.keepIn K (.ref f__law_heard) = true)
    (a__law_point : PySem.W.nsIn K mainGlobals "_law_point" = some (some (.ref f__law_point)))
    (l__law_point : K.lookup f__law_point = some ⟨oc__law_point, od__law_point, .func (PySem.W.fnOf "_law_point" "_law_point" (defArgs s__law_point) (defBody s__law_point) (defScope s__law_point) .none kV__law_point dc__law_point pm__law_point an__law_point cd__law_point ct__law_point), sl__law_point⟩)
    (c__law_point : PySem.W.codeIn K cd__law_point "_law_point" = true)
    (k__law_point : PySem.W.keepIn K (.ref f__law_point) = true)
    (a__law_integer : PySem.W.nsIn K mainGlobals "_law_integer" = some (some (.ref f__law_integer)))
    (l__law_integer : K.lookup f__law_integer = some ⟨oc__law_integer, od__law_integer, .func (PySem.W.fnOf "_law_integer" "_law_integer" (defArgs s__law_integer) (defBody s__law_integer) (defScope s__law_integer) .none kV__law_integer dc__law_integer pm__law_integer an__law_integer cd__law_integer ct__law_integer), sl__law_integer⟩)
    (c__law_integer : PySem.W.codeIn K cd__law_integer "_law_integer" = true)
    (k__law_integer : PySem.W.keepIn K (.ref f__law_integer) = true)
    (a__law_calls_right : PySem.W.nsIn K mainGlobals "_law_calls_right" = some (some (.ref f__law_calls_right)))
    (l__law_calls_right : K.lookup f__law_calls_right = some ⟨oc__law_calls_right, od__law_calls_right, .func (PySem.W.fnOf "_law_calls_right" "_law_calls_right" (defArgs s__law_calls_right) (defBody s__law_calls_right) (defScope s__law_calls_right) .none kV__law_calls_right dc__law_calls_right pm__law_calls_right an__law_calls_right cd__law_calls_right ct__law_calls_right), sl__law_calls_right⟩)
    (c__law_calls_right : PySem.W.codeIn K cd__law_calls_right "_law_calls_right" = true)
    (k__law_calls_right : PySem.W.keepIn K (.ref f__law_calls_right) = true)
    (a__law_labels_right : PySem.W.nsIn K mainGlobals "_law_labels_right" = some (some (.ref f__law_labels_right)))
    (l__law_labels_right : K.lookup f__law_labels_right = some ⟨oc__law_labels_right, od__law_labels_right, .func (PySem.W.fnOf "_law_labels_right" "_law_labels_right" (defArgs s__law_labels_right) (defBody s__law_labels_right) (defScope s__law_labels_right) .none kV__law_labels_right dc__law_labels_right pm__law_labels_right an__law_labels_right cd__law_labels_right ct__law_labels_right), sl__law_labels_right⟩)
    (c__law_labels_right : PySem.W.codeIn K cd__law_labels_right "_law_labels_right" = true)
    (k__law_labels_right : PySem.W.keepIn K (.ref f__law_labels_right) = true)
    (a_law : PySem.W.nsIn K mainGlobals "law" = some (some (.ref f_law)))
    (l_law : K.lookup f_law = some ⟨oc_law, od_law, .func (PySem.W.fnOf "law" "law" (defArgs s_law) (defBody s_law) (defScope s_law) .none kV_law dc_law pm_law an_law cd_law ct_law), sl_law⟩)
    (c_law : PySem.W.codeIn K cd_law "law" = true)
    (k_law : PySem.W.keepIn K (.ref f_law) = true)
    (a_BadNumber___init__ : PySem.W.findIn K (.ref C_BadNumber) "__init__" = some (some (.ref f_BadNumber___init__)))
    (l_BadNumber___init__ : K.lookup f_BadNumber___init__ = some ⟨oc_BadNumber___init__, od_BadNumber___init__, .func (PySem.W.fnOf "__init__" "BadNumber.__init__" (defArgs s_BadNumber___init__) (defBody s_BadNumber___init__) (defScope s_BadNumber___init__) .none kV_BadNumber___init__ dc_BadNumber___init__ pm_BadNumber___init__ an_BadNumber___init__ cd_BadNumber___init__ ct_BadNumber___init__), sl_BadNumber___init__⟩)
    (c_BadNumber___init__ : PySem.W.codeIn K cd_BadNumber___init__ "BadNumber.__init__" = true)
    (k_BadNumber___init__ : PySem.W.keepIn K (.ref f_BadNumber___init__) = true)
    (g_BadNumber___init__ : PySem.W.isFn K (.ref f_BadNumber___init__) = true)
    (t_BadNumber___init__ : PySem.W.typeIn K (.ref f_BadNumber___init__) = some (.type "function"))
    (a_BadPoint___init__ : PySem.W.findIn K (.ref C_BadPoint) "__init__" = some (some (.ref f_BadPoint___init__)))
    (l_BadPoint___init__ : K.lookup f_BadPoint___init__ = some ⟨oc_BadPoint___init__, od_BadPoint___init__, .func (PySem.W.fnOf "__init__" "BadPoint.__init__" (defArgs s_BadPoint___init__) (defBody s_BadPoint___init__) (defScope s_BadPoint___init__) .none kV_BadPoint___init__ dc_BadPoint___init__ pm_BadPoint___init__ an_BadPoint___init__ cd_BadPoint___init__ ct_BadPoint___init__), sl_BadPoint___init__⟩)
    (c_BadPoint___init__ : PySem.W.codeIn K cd_BadPoint___init__ "BadPoint.__init__" = true)
    (k_BadPoint___init__ : PySem.W.keepIn K (.ref f_BadPoint___init__) = true)
    (g_BadPoint___init__ : PySem.W.isFn K (.ref f_BadPoint___init__) = true)
    (t_BadPoint___init__ : PySem.W.typeIn K (.ref f_BadPoint___init__) = some (.type "function"))
    (e_TileError : ErrC K C_TileError)
    (n_TileError : (kT.flds.all fun f => (PySem.W.findIn K (.ref C_TileError) f).any Option.isNone) = true)
    (b_TileError : (btNames.all fun n => (PySem.W.kitOne K (.type n) (.ref C_TileError)).any (!·)) = true)
    (e_BadNumber : ErrC K C_BadNumber)
    (n_BadNumber : (kT.flds.all fun f => (PySem.W.findIn K (.ref C_BadNumber) f).any Option.isNone) = true)
    (b_BadNumber : (btNames.all fun n => (PySem.W.kitOne K (.type n) (.ref C_BadNumber)).any (!·)) = true)
    (e_BadPoint : ErrC K C_BadPoint)
    (n_BadPoint : (kT.flds.all fun f => (PySem.W.findIn K (.ref C_BadPoint) f).any Option.isNone) = true)
    (b_BadPoint : (btNames.all fun n => (PySem.W.kitOne K (.type n) (.ref C_BadPoint)).any (!·)) = true)
    (q_TileError_TileError : PySem.W.kitOne K (.ref C_TileError) (.ref C_TileError) = some true)
    (q_TileError_BadNumber : PySem.W.kitOne K (.ref C_TileError) (.ref C_BadNumber) = some false)
    (q_TileError_BadPoint : PySem.W.kitOne K (.ref C_TileError) (.ref C_BadPoint) = some false)
    (q_BadNumber_TileError : PySem.W.kitOne K (.ref C_BadNumber) (.ref C_TileError) = some true)
    (q_BadNumber_BadNumber : PySem.W.kitOne K (.ref C_BadNumber) (.ref C_BadNumber) = some true)
    (q_BadNumber_BadPoint : PySem.W.kitOne K (.ref C_BadNumber) (.ref C_BadPoint) = some false)
    (q_BadPoint_TileError : PySem.W.kitOne K (.ref C_BadPoint) (.ref C_TileError) = some true)
    (q_BadPoint_BadNumber : PySem.W.kitOne K (.ref C_BadPoint) (.ref C_BadNumber) = some false)
    (q_BadPoint_BadPoint : PySem.W.kitOne K (.ref C_BadPoint) (.ref C_BadPoint) = some true)
    (r_TileError_TileError : PySem.W.exmOne K (.ref C_TileError) (.ref C_TileError) = some true)
    (r_BadNumber_TileError : PySem.W.exmOne K (.ref C_BadNumber) (.ref C_TileError) = some true)
    (r_BadPoint_TileError : PySem.W.exmOne K (.ref C_BadPoint) (.ref C_TileError) = some true)
    (o_BadNumber : OexC K C_BadNumber)
    (o_BadPoint : OexC K C_BadPoint)
    (z_abs : PySem.W.nsIn K mainGlobals "abs" = some none)
    (z_all : PySem.W.nsIn K mainGlobals "all" = some none)
    (z_bool : PySem.W.nsIn K mainGlobals "bool" = some none)
    (z_enumerate : PySem.W.nsIn K mainGlobals "enumerate" = some none)
    (z_gcd : PySem.W.nsIn K mainGlobals "gcd" = some (some (.builtin "math.gcd")))
    (z_int : PySem.W.nsIn K mainGlobals "int" = some none)
    (z_isinstance : PySem.W.nsIn K mainGlobals "isinstance" = some none)
    (z_lcm : PySem.W.nsIn K mainGlobals "lcm" = some (some (.builtin "math.lcm")))
    (z_len : PySem.W.nsIn K mainGlobals "len" = some none)
    (z_list : PySem.W.nsIn K mainGlobals "list" = some none)
    (z_range : PySem.W.nsIn K mainGlobals "range" = some none)
    (z_tuple : PySem.W.nsIn K mainGlobals "tuple" = some none)
    (z_zip : PySem.W.nsIn K mainGlobals "zip" = some none)
    (z_MOST_LABELS : PySem.W.nsIn K mainGlobals "MOST_LABELS" = some (some (.int 2000 t_MOST_LABELS)))
    (tb__law_calls_right : PySem.W.tabIn K "_law_calls_right" = some (tc__law_calls_right, tp__law_calls_right))
    (tb__law_labels_right : PySem.W.tabIn K "_law_labels_right" = some (tc__law_labels_right, tp__law_labels_right))
    : ∃ fd : FuncData, (∀ (s : Shared) (u : Value), BindsTo s fd ⟨[u], []⟩ [("script", u)]) ∧ ∀ base : Heap, K.In base → base.Ns mainGlobals mg → (∀ p ∈ [(tc__law_calls_right, tp__law_calls_right), (tc__law_labels_right, tp__law_labels_right)], LamX.TabB base mg p.1 p.2) → FnG l.prog w K mg base 10 fa fd ["script"] F_law := by
  have KT : KTok K kT := {
    err := by intro x hx C hC; simp only [kT, List.cons_append, List.nil_append, List.mem_cons, List.not_mem_nil, or_false, false_or] at hx; (rcases hx with rfl | rfl | rfl); exact at_cls (Q := ErrC K) (clsAt_of a_TileError) e_TileError hC; exact at_cls (Q := ErrC K) (clsAt_of a_BadNumber) e_BadNumber hC; exact at_cls (Q := ErrC K) (clsAt_of a_BadPoint) e_BadPoint hC
    ins := fun x hx => by cases hx
    nof := by intro x hx f hf C hC; rw [show kT.errs ++ kT.inss = (["TileError", "BadNumber", "BadPoint"] : List Str) from rfl] at hx; simp only [List.mem_cons, List.not_mem_nil, or_false] at hx; (rcases hx with rfl | rfl | rfl); exact at_cls (Q := fun C => PySem.W.findIn K (.ref C) f = some none) (clsAt_of a_TileError) (all_eq n_TileError f hf) hC; exact at_cls (Q := fun C => PySem.W.findIn K (.ref C) f = some none) (clsAt_of a_BadNumber) (all_eq n_BadNumber f hf) hC; exact at_cls (Q := fun C => PySem.W.findIn K (.ref C) f = some none) (clsAt_of a_BadPoint) (all_eq n_BadPoint f hf) hC
    kit := by intro x y b C D e hC hD; refine tab_ok (R := PySem.W.kitOne K) (l := kitL) ?_ e hC hD; intro p hp; simp only [kitL, List.cons_append, List.nil_append, List.mem_cons, List.not_mem_nil, or_false] at hp; (rcases hp with rfl | rfl | rfl | rfl | rfl | rfl | rfl | rfl | rfl); exact ⟨_, _, clsAt_of a_TileError, clsAt_of a_TileError, q_TileError_TileError⟩; exact ⟨_, _, clsAt_of a_TileError, clsAt_of a_BadNumber, q_TileError_BadNumber⟩; exact ⟨_, _, clsAt_of a_TileError, clsAt_of a_BadPoint, q_TileError_BadPoint⟩; exact ⟨_, _, clsAt_of a_BadNumber, clsAt_of a_TileError, q_BadNumber_TileError⟩; exact ⟨_, _, clsAt_of a_BadNumber, clsAt_of a_BadNumber, q_BadNumber_BadNumber⟩; exact ⟨_, _, clsAt_of a_BadNumber, clsAt_of a_BadPoint, q_BadNumber_BadPoint⟩; exact ⟨_, _, clsAt_of a_BadPoint, clsAt_of a_TileError, q_BadPoint_TileError⟩; exact ⟨_, _, clsAt_of a_BadPoint, clsAt_of a_BadNumber, q_BadPoint_BadNumber⟩; exact ⟨_, _, clsAt_of a_BadPoint, clsAt_of a_BadPoint, q_BadPoint_BadPoint⟩
    bt := by intro n hn y hy D hD; rw [show kT.errs ++ kT.inss = (["TileError", "BadNumber", "BadPoint"] : List Str) from rfl] at hy; simp only [List.mem_cons, List.not_mem_nil, or_false] at hy; (rcases hy with rfl | rfl | rfl); exact at_cls (Q := fun D => PySem.W.kitOne K (.type n) (.ref D) = some false) (clsAt_of a_TileError) (all_eqB b_TileError n hn) hD; exact at_cls (Q := fun D => PySem.W.kitOne K (.type n) (.ref D) = some false) (clsAt_of a_BadNumber) (all_eqB b_BadNumber n hn) hD; exact at_cls (Q := fun D => PySem.W.kitOne K (.type n) (.ref D) = some false) (clsAt_of a_BadPoint) (all_eqB b_BadPoint n hn) hD }
  have EX : ExT K exT := by intro x y b C D e hC hD; refine tab_ok (R := PySem.W.exmOne K) (l := exL) ?_ e hC hD; intro p hp; simp only [exL, List.cons_append, List.nil_append, List.mem_cons, List.not_mem_nil, or_false] at hp; (rcases hp with rfl | rfl | rfl); exact ⟨_, _, clsAt_of a_TileError, clsAt_of a_TileError, r_TileError_TileError⟩; exact ⟨_, _, clsAt_of a_BadNumber, clsAt_of a_TileError, r_BadNumber_TileError⟩; exact ⟨_, _, clsAt_of a_BadPoint, clsAt_of a_TileError, r_BadPoint_TileError⟩
  have TB : ∀ x tab, (x, tab) ∈ tabs → TabAt K w x tab := by intro x tab hx; cases hx
  have T : Top w K mg := ⟨PySem.W.mg_none_of X G z_abs, PySem.W.mg_none_of X G z_all, PySem.W.mg_none_of X G z_bool, PySem.W.mg_none_of X G z_enumerate, PySem.W.mg_of X G z_gcd, PySem.W.mg_none_of X G z_int, PySem.W.mg_none_of X G z_isinstance, PySem.W.mg_of X G z_lcm, PySem.W.mg_none_of X G z_len, PySem.W.mg_none_of X G z_list, PySem.W.mg_none_of X G z_range, PySem.W.mg_none_of X G z_tuple, PySem.W.mg_none_of X G z_zip, ⟨_, PySem.W.mg_of X G z_MOST_LABELS⟩, ⟨_, PySem.W.mg_of X G a_BadNumber, clsAt_of a_BadNumber⟩, ⟨_, PySem.W.mg_of X G a_BadPoint, clsAt_of a_BadPoint⟩, ⟨_, PySem.W.mg_of X G a_TileError, clsAt_of a_TileError⟩, KT, EX, TB⟩
  have e := hfa.symm.trans (PySem.W.mg_of X G a_law)
  cases e
  have F_is_integer' := fun_mk (st := s_is_integer) l_is_integer c_is_integer k_is_integer
  have b_is_integer' := F_is_integer'.binds (ps := ["value"]) fun _ _ _ _ _ _ us hl => match us, hl with | [_], _ => rfl
  have F_is_within' := fun_mk (st := s_is_within) l_is_within c_is_within k_is_within
  have b_is_within' := F_is_within'.binds (ps := ["value", "least", "most"]) fun _ _ _ _ _ _ us hl => match us, hl with | [_, _, _], _ => rfl
  have F_is_list' := fun_mk (st := s_is_list) l_is_list c_is_list k_is_list
  have b_is_list' := F_is_list'.binds (ps := ["value", "least", "most"]) fun _ _ _ _ _ _ us hl => match us, hl with | [_, _, _], _ => rfl
  have F_parts_of' := fun_mk (st := s_parts_of) l_parts_of c_parts_of k_parts_of
  have b_parts_of' := F_parts_of'.binds (ps := ["number"]) fun _ _ _ _ _ _ us hl => match us, hl with | [_], _ => rfl
  have F_made' := fun_mk (st := s_made) l_made c_made k_made
  have b_made' := F_made'.binds (ps := ["above", "under"]) fun _ _ _ _ _ _ us hl => match us, hl with | [_, _], _ => rfl
  have F_is_less' := fun_mk (st := s_is_less) l_is_less c_is_less k_is_less
  have b_is_less' := F_is_less'.binds (ps := ["one", "other"]) fun _ _ _ _ _ _ us hl => match us, hl with | [_, _], _ => rfl
  have F_common_under' := fun_mk (st := s_common_under) l_common_under c_common_under k_common_under
  have b_common_under' := F_common_under'.binds (ps := ["numbers"]) fun _ _ _ _ _ _ us hl => match us, hl with | [_], _ => rfl
  have F_is_number' := fun_mk (st := s_is_number) l_is_number c_is_number k_is_number
  have b_is_number' := F_is_number'.binds (ps := ["value"]) fun _ _ _ _ _ _ us hl => match us, hl with | [_], _ => rfl
  have F_want_within' := fun_mk (st := s_want_within) l_want_within c_want_within k_want_within
  have b_want_within' := F_want_within'.binds (ps := ["value", "least", "most", "part"]) fun _ _ _ _ _ _ us hl => match us, hl with | [_, _, _, _], _ => rfl
  have F_want_integer' := fun_mk (st := s_want_integer) l_want_integer c_want_integer k_want_integer
  have b_want_integer' := F_want_integer'.binds (ps := ["value", "part"]) fun _ _ _ _ _ _ us hl => match us, hl with | [_, _], _ => rfl
  have F_is_point' := fun_mk (st := s_is_point) l_is_point c_is_point k_is_point
  have b_is_point' := F_is_point'.binds (ps := ["value", "least", "most"]) fun _ _ _ _ _ _ us hl => match us, hl with | [_, _, _], _ => rfl
  have F_want_free_point' := fun_mk (st := s_want_free_point) l_want_free_point c_want_free_point k_want_free_point
  have b_want_free_point' := F_want_free_point'.binds (ps := ["point"]) fun _ _ _ _ _ _ us hl => match us, hl with | [_], _ => rfl
  have F_wholes_of' := fun_mk (st := s_wholes_of) l_wholes_of c_wholes_of k_wholes_of
  have b_wholes_of' := F_wholes_of'.binds (ps := ["number", "first", "many"]) fun _ _ _ _ _ _ us hl => match us, hl with | [_, _, _], _ => rfl
  have F_labels_at' := fun_mk (st := s_labels_at) l_labels_at c_labels_at k_labels_at
  have b_labels_at' := F_labels_at'.binds (ps := ["number", "first", "many"]) fun _ _ _ _ _ _ us hl => match us, hl with | [_, _, _], _ => rfl
  have F_label_sum' := fun_mk (st := s_label_sum) l_label_sum c_label_sum k_label_sum
  have b_label_sum' := F_label_sum'.binds (ps := ["number", "first", "many"]) fun _ _ _ _ _ _ us hl => match us, hl with | [_, _, _], _ => rfl
  have F_label_at' := fun_mk (st := s_label_at) l_label_at c_label_at k_label_at
  have b_label_at' := F_label_at'.binds (ps := ["point", "place"]) fun _ _ _ _ _ _ us hl => match us, hl with | [_, _], _ => rfl
  have F_labels_of' := fun_mk (st := s_labels_of) l_labels_of c_labels_of k_labels_of
  have b_labels_of' := F_labels_of'.binds (ps := ["point", "first", "many"]) fun _ _ _ _ _ _ us hl => match us, hl with | [_, _, _], _ => rfl
  have F_sum_of' := fun_mk (st := s_sum_of) l_sum_of c_sum_of k_sum_of
  have b_sum_of' := F_sum_of'.binds (ps := ["point", "first", "many"]) fun _ _ _ _ _ _ us hl => match us, hl with | [_, _, _], _ => rfl
  have F_comes_again' := fun_mk (st := s_comes_again) l_comes_again c_comes_again k_comes_again
  have b_comes_again' := F_comes_again'.binds (ps := ["point"]) fun _ _ _ _ _ _ us hl => match us, hl with | [_], _ => rfl
  have F_told_back' := fun_mk (st := s_told_back) l_told_back c_told_back k_told_back
  have b_told_back' := F_told_back'.binds (ps := ["labels"]) fun _ _ _ _ _ _ us hl => match us, hl with | [_], _ => rfl
  have F__law_gate' := fun_mk (st := s__law_gate) l__law_gate c__law_gate k__law_gate
  have b__law_gate' := F__law_gate'.binds (ps := ["script"]) fun _ _ _ _ _ _ us hl => match us, hl with | [_], _ => rfl
  have F__law_knock' := fun_mk (st := s__law_knock) l__law_knock c__law_knock k__law_knock
  have b__law_knock' := F__law_knock'.binds (ps := ["gate", "many"]) fun _ _ _ _ _ _ us hl => match us, hl with | [_, _], _ => rfl
  have F__law_one' := fun_mk (st := s__law_one) l__law_one c__law_one k__law_one
  have b__law_one' := F__law_one'.binds (ps := ["gate", "some"]) fun _ _ _ _ _ _ us hl => match us, hl with | [_, _], _ => rfl
  have F__law_heard' := fun_mk (st := s__law_heard) l__law_heard c__law_heard k__law_heard
  have b__law_heard' := F__law_heard'.binds (ps := ["ask"]) fun _ _ _ _ _ _ us hl => match us, hl with | [_], _ => rfl
  have F__law_point' := fun_mk (st := s__law_point) l__law_point c__law_point k__law_point
  have b__law_point' := F__law_point'.binds (ps := ["gate"]) fun _ _ _ _ _ _ us hl => match us, hl with | [_], _ => rfl
  have F__law_integer' := fun_mk (st := s__law_integer) l__law_integer c__law_integer k__law_integer
  have b__law_integer' := F__law_integer'.binds (ps := ["gate"]) fun _ _ _ _ _ _ us hl => match us, hl with | [_], _ => rfl
  have F__law_calls_right' := fun_mk (st := s__law_calls_right) l__law_calls_right c__law_calls_right k__law_calls_right
  have b__law_calls_right' := F__law_calls_right'.binds (ps := ["gate"]) fun _ _ _ _ _ _ us hl => match us, hl with | [_], _ => rfl
  have F__law_labels_right' := fun_mk (st := s__law_labels_right) l__law_labels_right c__law_labels_right k__law_labels_right
  have b__law_labels_right' := F__law_labels_right'.binds (ps := ["gate"]) fun _ _ _ _ _ _ us hl => match us, hl with | [_], _ => rfl
  have F_law' := fun_mk (st := s_law) l_law c_law k_law
  have F_BadNumber___init__' := fun_mk (st := s_BadNumber___init__) l_BadNumber___init__ c_BadNumber___init__ k_BadNumber___init__
  have b_BadNumber___init__' := F_BadNumber___init__'.binds (ps := ["self", "part"]) fun _ _ _ _ _ _ us hl => match us, hl with | [_, _], _ => rfl
  have F_BadPoint___init__' := fun_mk (st := s_BadPoint___init__) l_BadPoint___init__ c_BadPoint___init__ k_BadPoint___init__
  have b_BadPoint___init__' := F_BadPoint___init__'.binds (ps := ["self", "part"]) fun _ _ _ _ _ _ us hl => match us, hl with | [_, _], _ => rfl
  refine ⟨PySem.W.fnOf "law" "law" (defArgs s_law) (defBody s_law) (defScope s_law) .none kV_law dc_law pm_law an_law cd_law ct_law, fun s v => .of_eq rfl, fun base _ _ hTB => ?_⟩
  have er_BadNumber : ErAt l.prog w K mg base 1 "BadNumber" ["part"] := erAt1 F_BadNumber___init__' sc_BadNumber___init__ o_BadNumber (all_eq n_BadNumber "part" (by decide)) (clsAt_of a_BadNumber) (PySem.W.mg_of X G a_BadNumber) a_BadNumber___init__ t_BadNumber___init__ b_BadNumber___init__' (fun cdv A outer s H E => pss_one (ps_ost (pv 0) (pv 1)))
  have er_BadPoint : ErAt l.prog w K mg base 1 "BadPoint" ["part"] := erAt1 F_BadPoint___init__' sc_BadPoint___init__ o_BadPoint (all_eq n_BadPoint "part" (by decide)) (clsAt_of a_BadPoint) (PySem.W.mg_of X G a_BadPoint) a_BadPoint___init__ t_BadPoint___init__ b_BadPoint___init__' (fun cdv A outer s H E => pss_one (ps_ost (pv 0) (pv 1)))
  have h_is_integer : FnAt l.prog w K mg base 1 s_is_integer "is_integer" ["value"] F_is_integer := ⟨_, _, PySem.W.mg_of X G a_is_integer, F_is_integer', b_is_integer', ok_is_integer T  F_is_integer'⟩
  have h_is_within : FnAt l.prog w K mg base 2 s_is_within "is_within" ["value", "least", "most"] F_is_within := ⟨_, _, PySem.W.mg_of X G a_is_within, F_is_within', b_is_within', ok_is_within T (h_is_integer.mono (by decide)) F_is_within'⟩
  have h_is_list : FnAt l.prog w K mg base 1 s_is_list "is_list" ["value", "least", "most"] F_is_list := ⟨_, _, PySem.W.mg_of X G a_is_list, F_is_list', b_is_list', ok_is_list T  F_is_list'⟩
  have h_parts_of : FnAt l.prog w K mg base 1 s_parts_of "parts_of" ["number"] F_parts_of := ⟨_, _, PySem.W.mg_of X G a_parts_of, F_parts_of', b_parts_of', ok_parts_of T  F_parts_of'⟩
  have h_made : FnAt l.prog w K mg base 1 s_made "made" ["above", "under"] F_made := ⟨_, _, PySem.W.mg_of X G a_made, F_made', b_made', ok_made T  F_made'⟩
  have h_is_less : FnAt l.prog w K mg base 2 s_is_less "is_less" ["one", "other"] F_is_less := ⟨_, _, PySem.W.mg_of X G a_is_less, F_is_less', b_is_less', ok_is_less T (h_parts_of.mono (by decide)) F_is_less'⟩
  have h_common_under : FnAt l.prog w K mg base 2 s_common_under "common_under" ["numbers"] F_common_under := ⟨_, _, PySem.W.mg_of X G a_common_under, F_common_under', b_common_under', ok_common_under T (h_parts_of.mono (by decide)) F_common_under'⟩
  have h_is_number : FnAt l.prog w K mg base 3 s_is_number "is_number" ["value"] F_is_number := ⟨_, _, PySem.W.mg_of X G a_is_number, F_is_number', b_is_number', ok_is_number T (h_is_integer.mono (by decide)) (h_is_list.mono (by decide)) (h_is_within.mono (by decide)) F_is_number'⟩
  have h_want_within : FnAt l.prog w K mg base 3 s_want_within "want_within" ["value", "least", "most", "part"] F_want_within := ⟨_, _, PySem.W.mg_of X G a_want_within, F_want_within', b_want_within', ok_want_within T (h_is_within.mono (by decide)) (er_BadNumber.mono (by decide)) F_want_within'⟩
  have h_want_integer : FnAt l.prog w K mg base 4 s_want_integer "want_integer" ["value", "part"] F_want_integer := ⟨_, _, PySem.W.mg_of X G a_want_integer, F_want_integer', b_want_integer', ok_want_integer T (h_want_within.mono (by decide)) F_want_integer'⟩
  have h_is_point : FnAt l.prog w K mg base 4 s_is_point "is_point" ["value", "least", "most"] F_is_point := ⟨_, _, PySem.W.mg_of X G a_is_point, F_is_point', b_is_point', ok_is_point T (h_is_list.mono (by decide)) (h_is_number.mono (by decide)) F_is_point'⟩
  have h_want_free_point : FnAt l.prog w K mg base 5 s_want_free_point "want_free_point" ["point"] F_want_free_point := ⟨_, _, PySem.W.mg_of X G a_want_free_point, F_want_free_point', b_want_free_point', ok_want_free_point T (h_is_point.mono (by decide)) (er_BadPoint.mono (by decide)) F_want_free_point'⟩
  have h_wholes_of : FnAt l.prog w K mg base 2 s_wholes_of "wholes_of" ["number", "first", "many"] F_wholes_of := ⟨_, _, PySem.W.mg_of X G a_wholes_of, F_wholes_of', b_wholes_of', ok_wholes_of T (h_parts_of.mono (by decide)) F_wholes_of'⟩
  have h_labels_at : FnAt l.prog w K mg base 3 s_labels_at "labels_at" ["number", "first", "many"] F_labels_at := ⟨_, _, PySem.W.mg_of X G a_labels_at, F_labels_at', b_labels_at', ok_labels_at T (h_wholes_of.mono (by decide)) F_labels_at'⟩
  have h_label_sum : FnAt l.prog w K mg base 2 s_label_sum "label_sum" ["number", "first", "many"] F_label_sum := ⟨_, _, PySem.W.mg_of X G a_label_sum, F_label_sum', b_label_sum', ok_label_sum T (h_parts_of.mono (by decide)) F_label_sum'⟩
  have h_label_at : FnAt l.prog w K mg base 6 s_label_at "label_at" ["point", "place"] F_label_at := ⟨_, _, PySem.W.mg_of X G a_label_at, F_label_at', b_label_at', ok_label_at T (h_want_free_point.mono (by decide)) (h_want_integer.mono (by decide)) (h_label_sum.mono (by decide)) F_label_at'⟩
  have h_labels_of : FnAt l.prog w K mg base 6 s_labels_of "labels_of" ["point", "first", "many"] F_labels_of := ⟨_, _, PySem.W.mg_of X G a_labels_of, F_labels_of', b_labels_of', ok_labels_of T (h_want_free_point.mono (by decide)) (h_want_integer.mono (by decide)) (h_want_within.mono (by decide)) (h_labels_at.mono (by decide)) F_labels_of'⟩
  have h_sum_of : FnAt l.prog w K mg base 6 s_sum_of "sum_of" ["point", "first", "many"] F_sum_of := ⟨_, _, PySem.W.mg_of X G a_sum_of, F_sum_of', b_sum_of', ok_sum_of T (h_want_free_point.mono (by decide)) (h_want_integer.mono (by decide)) (h_want_within.mono (by decide)) (h_label_sum.mono (by decide)) F_sum_of'⟩
  have h_comes_again : FnAt l.prog w K mg base 6 s_comes_again "comes_again" ["point"] F_comes_again := ⟨_, _, PySem.W.mg_of X G a_comes_again, F_comes_again', b_comes_again', ok_comes_again T (h_want_free_point.mono (by decide)) (h_common_under.mono (by decide)) F_comes_again'⟩
  have h_told_back : FnAt l.prog w K mg base 3 s_told_back "told_back" ["labels"] F_told_back := ⟨_, _, PySem.W.mg_of X G a_told_back, F_told_back', b_told_back', ok_told_back T (h_is_list.mono (by decide)) (h_is_integer.mono (by decide)) (h_is_less.mono (by decide)) (h_made.mono (by decide)) (er_BadNumber.mono (by decide)) F_told_back'⟩
  have h__law_gate : FnAt l.prog w K mg base 1 s__law_gate "_law_gate" ["script"] F__law_gate := ⟨_, _, PySem.W.mg_of X G a__law_gate, F__law_gate', b__law_gate', ok__law_gate T  F__law_gate'⟩
  have h__law_knock : FnAt l.prog w K mg base 1 s__law_knock "_law_knock" ["gate", "many"] F__law_knock := ⟨_, _, PySem.W.mg_of X G a__law_knock, F__law_knock', b__law_knock', ok__law_knock T  F__law_knock'⟩
  have h__law_one : FnAt l.prog w K mg base 2 s__law_one "_law_one" ["gate", "some"] F__law_one := ⟨_, _, PySem.W.mg_of X G a__law_one, F__law_one', b__law_one', ok__law_one T (h__law_knock.mono (by decide)) F__law_one'⟩
  have hd__law_heard' : HdAt l.prog w K mg base 1 "_law_heard" ["ask", "caught", "error"] (defScope s__law_heard) "ask" H__law_heard := hd__law_heard T (PySem.W.mg_of X G a__law_heard) F__law_heard' b__law_heard'
  have h__law_point : FnAt l.prog w K mg base 3 s__law_point "_law_point" ["gate"] F__law_point := ⟨_, _, PySem.W.mg_of X G a__law_point, F__law_point', b__law_point', ok__law_point T (h__law_one.mono (by decide)) F__law_point'⟩
  have h__law_integer : FnAt l.prog w K mg base 3 s__law_integer "_law_integer" ["gate"] F__law_integer := ⟨_, _, PySem.W.mg_of X G a__law_integer, F__law_integer', b__law_integer', ok__law_integer T (h__law_one.mono (by decide)) F__law_integer'⟩
  have h__law_calls_right : FnAt l.prog w K mg base 9 s__law_calls_right "_law_calls_right" ["gate"] F__law_calls_right := ⟨_, _, PySem.W.mg_of X G a__law_calls_right, F__law_calls_right', b__law_calls_right', ok__law_calls_right T (h__law_integer.mono (by decide)) (h__law_point.mono (by decide)) (h__law_one.mono (by decide)) (FnAt.mono' h_label_at (by decide)) (hd__law_heard'.mono (by decide)) (FnAt.mono' h_labels_of (by decide)) (FnAt.mono' h_sum_of (by decide)) (FnAt.mono' h_comes_again (by decide)) F__law_calls_right' (tabF_of tb__law_calls_right a__law_calls_right F__law_calls_right' (hTB (tc__law_calls_right, tp__law_calls_right) (by simp)))⟩
  have h__law_labels_right : FnAt l.prog w K mg base 6 s__law_labels_right "_law_labels_right" ["gate"] F__law_labels_right := ⟨_, _, PySem.W.mg_of X G a__law_labels_right, F__law_labels_right', b__law_labels_right', ok__law_labels_right T (h__law_knock.mono (by decide)) (h__law_integer.mono (by decide)) (h__law_one.mono (by decide)) (FnAt.mono' h_told_back (by decide)) (hd__law_heard'.mono (by decide)) F__law_labels_right' (tabF_of tb__law_labels_right a__law_labels_right F__law_labels_right' (hTB (tc__law_labels_right, tp__law_labels_right) (by simp)))⟩
  exact ok_law T (h__law_gate.mono (by decide)) (h__law_calls_right.mono (by decide)) (h__law_labels_right.mono (by decide)) (h__law_knock.mono (by decide)) (h_labels_of.mono (by decide)) (h_told_back.mono (by decide)) F_law'
end My
open PySem PySem.W PyProof.Rows DL
local macro_rules | `(tactic| walk_at "c_dec") => `(tactic| first | rfl | decide +kernel)
local macro_rules | `(tactic| walk_at "c_tup") => `(tactic| (refine ⟨_, _, _, (by k_is), rfl, rfl, (by decide), ?_⟩; repeat (first | exact .nil | refine .cons ⟨_, rfl⟩ ?_)))
set_option maxHeartbeats 0 in
theorem PySem.Challenge.cw_timesfloor_k18_rows_refused_holds : PySem.Challenge.rw_timesfloor_k18_rows_refused.Holds := by
  w_on; o_law; k_head; (case hw => w_witness2)
  k_fill
  refine' DL.walk_DT (l := PySem.Challenge.rw_timesfloor_k18_rows_refused) (n := 63) (k := 10) (x := "script") (F := fun _ => My.F_law) [("_law_calls_right", "_law_calls_right.<locals>.<lambda>"), ("_law_labels_right", "_law_labels_right.<locals>.<lambda>")] [(?c0, ?p0), (?c1, ?p1)] rfl (by decide) rfl ⟨rfl, by decide, by decide⟩ (fun w h Y => PySem.W.km_in_of Y) ?R ?TK ?F (fun _ ns h1 h2 => My.law_true ns h1 h2)
  case TK => (intro w; refine (DL.TabK.cons (by first | rfl | k_is) (by first | rfl | k_is) ?_ (DL.TabK.cons (by first | rfl | k_is) (by first | rfl | k_is) ?_ DL.TabK.nil)) <;> decide)
  case R => simp only [List.forall_mem_cons]; exact ⟨⟨_, rfl⟩, ⟨_, rfl⟩, by simp⟩
  case F =>
    intro w mg fa h KX G hmg
    refine' My.all_mk KX G hmg ?a_TileError ?a_BadNumber ?a_BadPoint ?a_is_integer ?l_is_integer ?c_is_integer ?k_is_integer ?a_is_within ?l_is_within ?c_is_within ?k_is_within ?a_is_list ?l_is_list ?c_is_list ?k_is_list ?a_parts_of ?l_parts_of ?c_parts_of ?k_parts_of ?a_made ?l_made ?c_made ?k_made ?a_is_less ?l_is_less ?c_is_less ?k_is_less ?a_common_under ?l_common_under ?c_common_under ?k_common_under ?a_is_number ?l_is_number ?c_is_number ?k_is_number ?a_want_within ?l_want_within ?c_want_within ?k_want_within ?a_want_integer ?l_want_integer ?c_want_integer ?k_want_integer ?a_is_point ?l_is_point ?c_is_point ?k_is_point ?a_want_free_point ?l_want_free_point ?c_want_free_point ?k_want_free_point ?a_wholes_of ?l_wholes_of ?c_wholes_of ?k_wholes_of ?a_labels_at ?l_labels_at ?c_labels_at ?k_labels_at ?a_label_sum ?l_label_sum ?c_label_sum ?k_label_sum ?a_label_at ?l_label_at ?c_label_at ?k_label_at ?a_labels_of ?l_labels_of ?c_labels_of ?k_labels_of ?a_sum_of ?l_sum_of ?c_sum_of ?k_sum_of ?a_comes_again ?l_comes_again ?c_comes_again ?k_comes_again ?a_told_back ?l_told_back ?c_told_back ?k_told_back ?a__law_gate ?l__law_gate ?c__law_gate ?k__law_gate ?a__law_knock ?l__law_knock ?c__law_knock ?k__law_knock ?a__law_one ?l__law_one ?c__law_one ?k__law_one ?a__law_heard ?l__law_heard ?c__law_heard ?k__law_heard ?a__law_point ?l__law_point ?c__law_point ?k__law_point ?a__law_integer ?l__law_integer ?c__law_integer ?k__law_integer ?a__law_calls_right ?l__law_calls_right ?c__law_calls_right ?k__law_calls_right ?a__law_labels_right ?l__law_labels_right ?c__law_labels_right ?k__law_labels_right ?a_law ?l_law ?c_law ?k_law ?a_BadNumber___init__ ?l_BadNumber___init__ ?c_BadNumber___init__ ?k_BadNumber___init__ ?g_BadNumber___init__ ?t_BadNumber___init__ ?a_BadPoint___init__ ?l_BadPoint___init__ ?c_BadPoint___init__ ?k_BadPoint___init__ ?g_BadPoint___init__ ?t_BadPoint___init__ ?e_TileError ?n_TileError ?b_TileError ?e_BadNumber ?n_BadNumber ?b_BadNumber ?e_BadPoint ?n_BadPoint ?b_BadPoint ?q_TileError_TileError ?q_TileError_BadNumber ?q_TileError_BadPoint ?q_BadNumber_TileError ?q_BadNumber_BadNumber ?q_BadNumber_BadPoint ?q_BadPoint_TileError ?q_BadPoint_BadNumber ?q_BadPoint_BadPoint ?r_TileError_TileError ?r_BadNumber_TileError ?r_BadPoint_TileError ?o_BadNumber ?o_BadPoint ?z_abs ?z_all ?z_bool ?z_enumerate ?z_gcd ?z_int ?z_isinstance ?z_lcm ?z_len ?z_list ?z_range ?z_tuple ?z_zip ?z_MOST_LABELS ?tb__law_calls_right ?tb__law_labels_right
    (case a_TileError => k_is)
    (case a_BadNumber => k_is)
    (case a_BadPoint => k_is)
    (case a_is_integer => k_is)
    (case l_is_integer => k_is)
    (case c_is_integer => k_is)
    (case k_is_integer => k_is)
    (case a_is_within => k_is)
    (case l_is_within => k_is)
    (case c_is_within => k_is)
    (case k_is_within => k_is)
    (case a_is_list => k_is)
    (case l_is_list => k_is)
    (case c_is_list => k_is)
    (case k_is_list => k_is)
    (case a_parts_of => k_is)
    (case l_parts_of => k_is)
    (case c_parts_of => k_is)
    (case k_parts_of => k_is)
    (case a_made => k_is)
    (case l_made => k_is)
    (case c_made => k_is)
    (case k_made => k_is)
    (case a_is_less => k_is)
    (case l_is_less => k_is)
    (case c_is_less => k_is)
    (case k_is_less => k_is)
    (case a_common_under => k_is)
    (case l_common_under => k_is)
    (case c_common_under => k_is)
    (case k_common_under => k_is)
    (case a_is_number => k_is)
    (case l_is_number => k_is)
    (case c_is_number => k_is)
    (case k_is_number => k_is)
    (case a_want_within => k_is)
    (case l_want_within => k_is)
    (case c_want_within => k_is)
    (case k_want_within => k_is)
    (case a_want_integer => k_is)
    (case l_want_integer => k_is)
    (case c_want_integer => k_is)
    (case k_want_integer => k_is)
    (case a_is_point => k_is)
    (case l_is_point => k_is)
    (case c_is_point => k_is)
    (case k_is_point => k_is)
    (case a_want_free_point => k_is)
    (case l_want_free_point => k_is)
    (case c_want_free_point => k_is)
    (case k_want_free_point => k_is)
    (case a_wholes_of => k_is)
    (case l_wholes_of => k_is)
    (case c_wholes_of => k_is)
    (case k_wholes_of => k_is)
    (case a_labels_at => k_is)
    (case l_labels_at => k_is)
    (case c_labels_at => k_is)
    (case k_labels_at => k_is)
    (case a_label_sum => k_is)
    (case l_label_sum => k_is)
    (case c_label_sum => k_is)
    (case k_label_sum => k_is)
    (case a_label_at => k_is)
    (case l_label_at => k_is)
    (case c_label_at => k_is)
    (case k_label_at => k_is)
    (case a_labels_of => k_is)
    (case l_labels_of => k_is)
    (case c_labels_of => k_is)
    (case k_labels_of => k_is)
    (case a_sum_of => k_is)
    (case l_sum_of => k_is)
    (case c_sum_of => k_is)
    (case k_sum_of => k_is)
    (case a_comes_again => k_is)
    (case l_comes_again => k_is)
    (case c_comes_again => k_is)
    (case k_comes_again => k_is)
    (case a_told_back => k_is)
    (case l_told_back => k_is)
    (case c_told_back => k_is)
    (case k_told_back => k_is)
    (case a__law_gate => k_is)
    (case l__law_gate => k_is)
    (case c__law_gate => k_is)
    (case k__law_gate => k_is)
    (case a__law_knock => k_is)
    (case l__law_knock => k_is)
    (case c__law_knock => k_is)
    (case k__law_knock => k_is)
    (case a__law_one => k_is)
    (case l__law_one => k_is)
    (case c__law_one => k_is)
    (case k__law_one => k_is)
    (case a__law_heard => k_is)
    (case l__law_heard => k_is)
    (case c__law_heard => k_is)
    (case k__law_heard => k_is)
    (case a__law_point => k_is)
    (case l__law_point => k_is)
    (case c__law_point => k_is)
    (case k__law_point => k_is)
    (case a__law_integer => k_is)
    (case l__law_integer => k_is)
    (case c__law_integer => k_is)
    (case k__law_integer => k_is)
    (case a__law_calls_right => k_is)
    (case l__law_calls_right => k_is)
    (case c__law_calls_right => k_is)
    (case k__law_calls_right => k_is)
    (case a__law_labels_right => k_is)
    (case l__law_labels_right => k_is)
    (case c__law_labels_right => k_is)
    (case k__law_labels_right => k_is)
    (case a_law => k_is)
    (case l_law => k_is)
    (case c_law => k_is)
    (case k_law => k_is)
    (case a_BadNumber___init__ => k_is)
    (case l_BadNumber___init__ => k_is)
    (case c_BadNumber___init__ => k_is)
    (case k_BadNumber___init__ => k_is)
    (case g_BadNumber___init__ => k_is)
    (case t_BadNumber___init__ => k_is)
    (case a_BadPoint___init__ => k_is)
    (case l_BadPoint___init__ => k_is)
    (case c_BadPoint___init__ => k_is)
    (case k_BadPoint___init__ => k_is)
    (case g_BadPoint___init__ => k_is)
    (case t_BadPoint___init__ => k_is)
    (case e_TileError => exact ⟨by walk_at "c_dec", by k_is, by k_is, by k_is, by k_is, by k_is, by k_is, by k_is, by k_is⟩)
    (case n_TileError => walk_at "c_dec")
    (case b_TileError => walk_at "c_dec")
    (case e_BadNumber => exact ⟨by walk_at "c_dec", by k_is, by k_is, by k_is, by k_is, by k_is, by k_is, by k_is, by k_is⟩)
    (case n_BadNumber => walk_at "c_dec")
    (case b_BadNumber => walk_at "c_dec")
    (case e_BadPoint => exact ⟨by walk_at "c_dec", by k_is, by k_is, by k_is, by k_is, by k_is, by k_is, by k_is, by k_is⟩)
    (case n_BadPoint => walk_at "c_dec")
    (case b_BadPoint => walk_at "c_dec")
    (case q_TileError_TileError => walk_at "c_dec")
    (case q_TileError_BadNumber => walk_at "c_dec")
    (case q_TileError_BadPoint => walk_at "c_dec")
    (case q_BadNumber_TileError => walk_at "c_dec")
    (case q_BadNumber_BadNumber => walk_at "c_dec")
    (case q_BadNumber_BadPoint => walk_at "c_dec")
    (case q_BadPoint_TileError => walk_at "c_dec")
    (case q_BadPoint_BadNumber => walk_at "c_dec")
    (case q_BadPoint_BadPoint => walk_at "c_dec")
    (case r_TileError_TileError => walk_at "c_dec")
    (case r_BadNumber_TileError => walk_at "c_dec")
    (case r_BadPoint_TileError => walk_at "c_dec")
    (case o_BadNumber => exact ⟨⟨_, _, _, _, _, _, _, _, _, _, _, _, _, _, _, by k_is, by rfl⟩, by k_is, by k_is, by k_is, by k_is⟩)
    (case o_BadPoint => exact ⟨⟨_, _, _, _, _, _, _, _, _, _, _, _, _, _, _, by k_is, by rfl⟩, by k_is, by k_is, by k_is, by k_is⟩)
    (case z_abs => k_is)
    (case z_all => k_is)
    (case z_bool => k_is)
    (case z_enumerate => k_is)
    (case z_gcd => k_is)
    (case z_int => k_is)
    (case z_isinstance => k_is)
    (case z_lcm => k_is)
    (case z_len => k_is)
    (case z_list => k_is)
    (case z_range => k_is)
    (case z_tuple => k_is)
    (case z_zip => k_is)
    (case z_MOST_LABELS => k_is)
    (case tb__law_calls_right => first | rfl | k_is)
    (case tb__law_labels_right => first | rfl | k_is)
