import PyProof.Rows.All
import Wide.All
import OpenK.AllK
import Wide.FinOn
import HandS.ForMost
import HandS.Wide
import HandS.IsInst
import HandS.Flow
import HandS.Style
import HandS.Evl
import HandS.Steps
import HandS.Deep
import HandS.More
import HandS.Dict
import HandS.DictComp
import HandS.Iter
import PyProof.EnumMake
import PyProof.Draws
import HandS.TupLen
import HandS.DictTup
import HandS.Conv
import PyProof.StrLawsTight
import PyProof.StrLawsChain
import HandS.TupLe
import KE.KDictList
import KE.DataMinMax
import HandS.SetFor
import HandS.SetKeys
import PyProof.DictMoreH
import HandS.SortKw
import KE.DatumOrd
import PyProof.ZipIter
import PyProof.EnumIter
import KE.KDictWalk
import HandS.Exc
import HandS.ExcOwn
import HandS.ExcInit
import HandS.ExcField
import HandS.ExcIs
import HandS.TryOnly
import HandS.TryMany
import HandS.WordsExc
import HandS.SuiteRaise
import HandS.RaiseFrom
import HandS.ExcInitHot
import KE.KExcIs
import PySem.Challenge.RW_corpuskeep_k53_volumes_damage_is_seen
set_option Elab.async false
set_option linter.all false
set_option maxRecDepth 100000
set_option maxHeartbeats 4000000
namespace Pu
open PySem PySem.Spec PyProof.Rows L2

/-! pure data, what stands for it -/
inductive D where
  | non | bl (b : Bool) | int (i : Int) | str (x : Str)
  | tup (xs : List D) | lst (xs : List D)
  | dk (kvs : List (Key × D)) | dt (kvs : List (List Key × D))
  | ins (C : Addr) (fs : List (Str × D))
  | scr (ns : List Int)
  | ty (n : String)
  | kt (xs : List D)
  | adr (a : Addr)

abbrev Ex (H H' : Hp) : Prop := ∀ a o, H a = some o → H' a = some o
theorem Ex.rfl' {H : Hp} : Ex H H := fun _ _ h => h
theorem Ex.tr {H H1 H2 : Hp} (a : Ex H H1) (b : Ex H1 H2) : Ex H H2 := fun x o h => b x o (a x o h)
theorem Ex.rd {H H' : Hp} {a : Addr} {u : HO} (e : Ex H H') (h : Rd H a u) : Rd H' a u := by
  rcases h with h | ⟨o, h⟩
  · exact Or.inl (e a _ h)
  · exact Or.inr ⟨o, e a _ h⟩
theorem Ex.sl {K : PySem.W.Frag} {H H' : Hp} {a : Addr} {xs : List V} (e : Ex H H') (h : SqL K H a xs) : SqL K H' a xs := by
  rcases h with h | h
  · exact Or.inl (e.rd h)
  · exact Or.inr h
theorem Ex.st {K : PySem.W.Frag} {H H' : Hp} {a : Addr} {xs : List V} (e : Ex H H') (h : SqT K H a xs) : SqT K H' a xs := by
  rcases h with h | h
  · exact Or.inl (e.rd h)
  · exact Or.inr h
theorem Ex.new {H : Hp} {p : Addr} {o : HO} (h : H p = none) : Ex H (upd H p o) := fun a u e => by
  rw [upd_ne (ne_of_none e h)]
  exact e

mutual
inductive Rep (K : PySem.W.Frag) (S : Hp) : V → D → Prop where
  | non : Rep K S .non .non
  | bl (b : Bool) : Rep K S (.bl b) (.bl b)
  | int (i : Int) : Rep K S (.int i) (.int i)
  | str (x : Str) : Rep K S (.str x) (.str x)
  | tup {a : Addr} {vs : List V} {ds : List D} (h : S a = some (.tup vs)) (r : Reps K S vs ds) : Rep K S (.ref a) (.tup ds)
  | lst {a : Addr} {vs : List V} {ds : List D} (h : S a = some (.lst vs)) (r : Reps K S vs ds) : Rep K S (.ref a) (.lst ds)
  | dk {a : Addr} {kvs : List (Key × V)} {kds : List (Key × D)} (h : S a = some (.dK kvs)) (e : kvs.map (·.1) = kds.map (·.1)) (r : Reps K S (kvs.map (·.2)) (kds.map (·.2))) : Rep K S (.ref a) (.dk kds)
  | dt {a : Addr} {kvs : List (List Key × V)} {kds : List (List Key × D)} (h : S a = some (.dT kvs)) (e : kvs.map (·.1) = kds.map (·.1)) (r : Reps K S (kvs.map (·.2)) (kds.map (·.2))) : Rep K S (.ref a) (.dt kds)
  | ins {a C dx : Addr} {fs : List (Str × V)} {gs : List (Str × D)} (h : S a = some (.ins C dx fs)) (e : fs.map (·.1) = gs.map (·.1)) (r : Reps K S (fs.map (·.2)) (gs.map (·.2))) : Rep K S (.ref a) (.ins C gs)
  | scr {a : Addr} {ns : List Int} (h : SqL K S a (ns.map V.int)) : Rep K S (.ref a) (.scr ns)
  | ty (n : String) : Rep K S (.ty n) (.ty n)
  | kt {a : Addr} {vs : List V} {ds : List D} (h : SqT K (fun _ => none) a vs) (r : Reps K S vs ds) : Rep K S (.ref a) (.kt ds)
  | adr (a : Addr) : Rep K S (.ref a) (.adr a)
inductive Reps (K : PySem.W.Frag) (S : Hp) : List V → List D → Prop where
  | nil : Reps K S [] []
  | cons {v : V} {d : D} {vs : List V} {ds : List D} (h : Rep K S v d) (r : Reps K S vs ds) : Reps K S (v :: vs) (d :: ds)
end

mutual
theorem Rep.mono {K : PySem.W.Frag} {S S' : Hp} (e : Ex S S') : ∀ {v : V} {d : D}, Rep K S v d → Rep K S' v d
  | _, _, .non => .non
  | _, _, .bl b => .bl b
  | _, _, .int i => .int i
  | _, _, .str x => .str x
  | _, _, .tup h r => .tup (e _ _ h) (Reps.mono e r)
  | _, _, .lst h r => .lst (e _ _ h) (Reps.mono e r)
  | _, _, .dk h q r => .dk (e _ _ h) q (Reps.mono e r)
  | _, _, .dt h q r => .dt (e _ _ h) q (Reps.mono e r)
  | _, _, .ins h q r => .ins (e _ _ h) q (Reps.mono e r)
  | _, _, .scr h => .scr (e.sl h)
  | _, _, .ty n => .ty n
  | _, _, .kt h r => .kt h (Reps.mono e r)
  | _, _, .adr a => .adr a
theorem Reps.mono {K : PySem.W.Frag} {S S' : Hp} (e : Ex S S') : ∀ {vs : List V} {ds : List D}, Reps K S vs ds → Reps K S' vs ds
  | _, _, .nil => .nil
  | _, _, .cons h r => .cons (Rep.mono e h) (Reps.mono e r)
end
theorem Reps.length {K : PySem.W.Frag} {S : Hp} : ∀ {vs : List V} {ds : List D}, Reps K S vs ds → vs.length = ds.length
  | _, _, .nil => rfl
  | _, _, .cons _ r => by rw [List.length_cons, List.length_cons, Reps.length r]
theorem Reps.append {K : PySem.W.Frag} {S : Hp} : ∀ {vs ws : List V} {ds es : List D}, Reps K S vs ds → Reps K S ws es → Reps K S (vs ++ ws) (ds ++ es)
  | _, _, _, _, .nil, q => q
  | _, _, _, _, .cons h r, q => .cons h (Reps.append r q)
theorem Reps.get {K : PySem.W.Frag} {S : Hp} : ∀ {vs : List V} {ds : List D} {i : Nat} {d : D}, Reps K S vs ds → ds[i]? = some d → ∃ v, vs[i]? = some v ∧ Rep K S v d
  | _, _, _, _, .nil, e => by simp at e
  | _, _, 0, _, .cons h _, e => by simp at e; subst e; exact ⟨_, rfl, h⟩
  | _, _, i + 1, _, .cons _ r, e => by
    obtain ⟨v, e1, h1⟩ := Reps.get (i := i) r (by simpa using e)
    exact ⟨v, by simpa using e1, h1⟩
theorem Reps.getV {K : PySem.W.Frag} {S : Hp} : ∀ {vs : List V} {ds : List D} {i : Nat} {v : V}, Reps K S vs ds → vs[i]? = some v → ∃ d, ds[i]? = some d ∧ Rep K S v d
  | _, _, _, _, .nil, e => by simp at e
  | _, _, 0, _, .cons h _, e => by simp at e; subst e; exact ⟨_, rfl, h⟩
  | _, _, i + 1, _, .cons _ r, e => by
    obtain ⟨v, e1, h1⟩ := Reps.getV (i := i) r (by simpa using e)
    exact ⟨v, by simpa using e1, h1⟩
theorem Reps.set {K : PySem.W.Frag} {S : Hp} {v : V} {d : D} (h : Rep K S v d) : ∀ {vs : List V} {ds : List D} (i : Nat), Reps K S vs ds → Reps K S (vs.set i v) (ds.set i d)
  | _, _, _, .nil => .nil
  | _, _, 0, .cons _ r => .cons h r
  | _, _, i + 1, .cons q r => .cons q (Reps.set h i r)
theorem Reps.take {K : PySem.W.Frag} {S : Hp} : ∀ {vs : List V} {ds : List D} (n : Nat), Reps K S vs ds → Reps K S (vs.take n) (ds.take n)
  | _, _, 0, _ => .nil
  | _, _, _ + 1, .nil => .nil
  | _, _, n + 1, .cons h r => .cons h (Reps.take n r)
theorem Reps.drop {K : PySem.W.Frag} {S : Hp} : ∀ {vs : List V} {ds : List D} (n : Nat), Reps K S vs ds → Reps K S (vs.drop n) (ds.drop n)
  | _, _, 0, r => r
  | _, _, _ + 1, .nil => .nil
  | _, _, n + 1, .cons _ r => Reps.drop n r

/-- a container's contents -/
inductive CRep (K : PySem.W.Frag) (S : Hp) : HO → D → Prop where
  | lst {vs : List V} {ds : List D} (r : Reps K S vs ds) : CRep K S (.lst vs) (.lst ds)
  | dk {kvs : List (Key × V)} {kds : List (Key × D)} (e : kvs.map (·.1) = kds.map (·.1)) (r : Reps K S (kvs.map (·.2)) (kds.map (·.2))) : CRep K S (.dK kvs) (.dk kds)
  | dt {kvs : List (List Key × V)} {kds : List (List Key × D)} (e : kvs.map (·.1) = kds.map (·.1)) (r : Reps K S (kvs.map (·.2)) (kds.map (·.2))) : CRep K S (.dT kvs) (.dt kds)
  | ins {C dx : Addr} {fs : List (Str × V)} {gs : List (Str × D)} (e : fs.map (·.1) = gs.map (·.1)) (r : Reps K S (fs.map (·.2)) (gs.map (·.2))) : CRep K S (.ins C dx fs) (.ins C gs)
theorem CRep.mono {K : PySem.W.Frag} {S S' : Hp} (e : Ex S S') {o : HO} {c : D} (h : CRep K S o c) : CRep K S' o c := by
  cases h with
  | lst r => exact .lst (r.mono e)
  | dk q r => exact .dk q (r.mono e)
  | dt q r => exact .dt q (r.mono e)
  | ins q r => exact .ins q (r.mono e)
theorem CRep.nt {K : PySem.W.Frag} {S : Hp} {o : HO} {c : D} (h : CRep K S o c) : ∀ vs, o ≠ .tup vs := fun vs z => by
  subst z; cases h
theorem CRep.rep {K : PySem.W.Frag} {S : Hp} {o : HO} {c : D} {p : Addr} (h : CRep K S o c) (e : S p = some o) : Rep K S (.ref p) c := by
  cases h with
  | lst r => exact .lst e r
  | dk q r => exact .dk e q r
  | dt q r => exact .dt e q r
  | ins q r => exact .ins e q r

/-! the state -/
inductive Sl where
  | no | va (d : D) | ow (q : Bool) (c : D)
structure Fm where
  H0 : Hp
  S0 : Hp
  B : List Addr
structure Frame (F : Fm) (S H : Hp) : Prop where
  ex : Ex S H
  old : Ex F.S0 S
  fr : ∀ a o, F.H0 a = some o → a ∉ F.B → H a = some o
  new : ∀ a, S a ≠ none → F.S0 a ≠ none ∨ F.H0 a = none ∨ ∃ vs, F.H0 a = some (.tup vs)
  bor : ∀ b ∈ F.B, ∃ o, H b = some o ∧ ∀ vs, o ≠ .tup vs
def SlOk (K : PySem.W.Frag) (F : Fm) (S H : Hp) (s : Sl) (x : Option V) (p : Addr) : Prop := match s with
  | .no => True
  | .va d => ∃ v, x = some v ∧ Rep K S v d
  | .ow q c => x = some (.ref p) ∧ S p = none ∧ ((q = false ∧ F.H0 p = none) ∨ (q = true ∧ p ∈ F.B)) ∧ ∃ o, H p = some o ∧ CRep K S o c
structure IV (K : PySem.W.Frag) (F : Fm) (G : List Sl) (S H : Hp) (σ : L2.St) : Prop where
  fr : Frame F S H
  len : σ.length = G.length
  sl : ∃ ad : Nat → Addr, (∀ i s, G[i]? = some s → SlOk K F S H s ((σ[i]?).bind id) (ad i)) ∧ ∀ i j q c q2 e, G[i]? = some (.ow q c) → G[j]? = some (.ow q2 e) → ad i = ad j → i = j

section
variable {K : PySem.W.Frag} {F : Fm} {G : List Sl} {S H S' H' : Hp} {σ : L2.St}
theorem Frame.free (f : Frame F S H) {p : Addr} (h : H p = none) : S p = none ∧ F.H0 p = none := by
  constructor
  · cases e : S p with
    | none => rfl
    | some o => rw [f.ex p o e] at h; cases h
  · cases e : F.H0 p with
    | none => rfl
    | some o =>
      by_cases hb : p ∈ F.B
      · obtain ⟨o', e', _⟩ := f.bor p hb; rw [h] at e'; cases e'
      · rw [f.fr p o e hb] at h; cases h
/-- an old tuple's standing -/
theorem Frame.oldT (f : Frame F S H) {p : Addr} {vs : List V} (h : H p = some (.tup vs)) : F.S0 p ≠ none ∨ F.H0 p = none ∨ ∃ vs, F.H0 p = some (.tup vs) := by
  cases e : F.H0 p with
  | none => exact .inr (.inl rfl)
  | some o =>
    by_cases hb : p ∈ F.B
    · obtain ⟨o', e', nt⟩ := f.bor p hb
      rw [h] at e'; exact absurd (Option.some.inj e').symm (nt vs)
    · have := f.fr p o e hb
      rw [h] at this; cases this
      exact .inr (.inr ⟨_, rfl⟩)
/-- a step of the whole: the stable part grows, what is tracked stays but at owned places -/
theorem IV.step (I : IV K F G S H σ) (f : Frame F S' H') (e : Ex S S') (hk : ∀ p o, S p = none → (F.H0 p = none ∨ p ∈ F.B) → H p = some o → (∀ vs, o ≠ .tup vs) → S' p = none ∧ H' p = some o) : IV K F G S' H' σ := by
  obtain ⟨ad, h1, h2⟩ := I.sl
  refine ⟨f, I.len, ad, fun i s hs => ?_, h2⟩
  have q := h1 i s hs
  cases s with
  | no => trivial
  | va d =>
    obtain ⟨v, ev, r⟩ := q
    exact ⟨v, ev, r.mono e⟩
  | ow qq c =>
    obtain ⟨ev, n, hb, o, ho, r⟩ := q
    obtain ⟨n', ho'⟩ := hk _ o n (hb.imp (·.2) (·.2)) ho r.nt
    exact ⟨ev, n', hb, o, ho', r.mono e⟩
/-- a new frozen object -/
theorem IV.alloc (I : IV K F G S H σ) {p : Addr} {o : HO} (h : H p = none) : IV K F G (upd S p o) (upd H p o) σ ∧ Ex S (upd S p o) := by
  obtain ⟨hs, h0⟩ := I.fr.free h
  have e1 : Ex S (upd S p o) := Ex.new hs
  refine ⟨I.step ⟨fun a u q => ?_, I.fr.old.tr e1, fun a u q hb => ?_, fun a q => ?_, fun b hb => ?_⟩ e1 (fun a u n hb ha _ => ?_), e1⟩
  · by_cases ha : a = p
    · subst ha; rw [upd_same] at q ⊢; exact q
    · rw [upd_ne ha] at q ⊢; exact I.fr.ex a u q
  · rw [upd_ne (fun z => by subst z; rw [h0] at q; cases q)]; exact I.fr.fr a u q hb
  · by_cases ha : a = p
    · subst ha; exact .inr (.inl h0)
    · rw [upd_ne ha] at q; exact I.fr.new a q
  · obtain ⟨o', e', nt⟩ := I.fr.bor b hb
    exact ⟨o', by rw [upd_ne (fun z => by rw [z, h] at e'; cases e')]; exact e', nt⟩
  · have ne : a ≠ p := fun z => by subst z; rw [h] at ha; cases ha
    rw [upd_ne ne, upd_ne ne]
    exact ⟨n, ha⟩
theorem IV.va (I : IV K F G S H σ) {i : Nat} {d : D} (h : G[i]? = some (.va d)) : ∃ v, σ[i]? = some (some v) ∧ Rep K S v d := by
  obtain ⟨ad, h1, _⟩ := I.sl
  obtain ⟨v, ev, r⟩ := h1 i _ h
  refine ⟨v, ?_, r⟩
  cases q : σ[i]? with
  | none => rw [q] at ev; cases ev
  | some x => rw [q] at ev; cases x with
    | none => cases ev
    | some y => exact congrArg some ev
theorem IV.ow (I : IV K F G S H σ) {i : Nat} {q : Bool} {c : D} (h : G[i]? = some (.ow q c)) : ∃ p o, σ[i]? = some (some (.ref p)) ∧ S p = none ∧ ((q = false ∧ F.H0 p = none) ∨ (q = true ∧ p ∈ F.B)) ∧ H p = some o ∧ CRep K S o c := by
  obtain ⟨ad, h1, _⟩ := I.sl
  obtain ⟨ev, n, hb, o, ho, r⟩ := h1 i _ h
  refine ⟨ad i, o, ?_, n, hb, ho, r⟩
  cases q : σ[i]? with
  | none => rw [q] at ev; cases ev
  | some x => rw [q] at ev; cases x with
    | none => cases ev
    | some y => exact congrArg some ev
/-- a slot set to a frozen value -/
theorem IV.set (I : IV K F G S H σ) {i : Nat} {v : V} {d : D} (r : Rep K S v d) : IV K F (G.set i (.va d)) S H (σ.set i (some v)) := by
  obtain ⟨ad, h1, h2⟩ := I.sl
  refine ⟨I.fr, by rw [List.length_set, List.length_set]; exact I.len, ad, fun j s hs => ?_, fun j k q1 c q2 e hj hk q => ?_⟩
  · by_cases hij : i = j
    · subst hij
      have hl : i < G.length := by
        have := (List.getElem?_eq_some_iff.mp hs).1
        rwa [List.length_set] at this
      rw [List.getElem?_set_self hl] at hs
      cases hs
      exact ⟨v, by rw [List.getElem?_set_self (by rw [I.len]; exact hl)]; rfl, r⟩
    · rw [List.getElem?_set_ne hij] at hs
      rw [List.getElem?_set_ne hij]
      exact h1 j s hs
  · have nj : i ≠ j := fun z => by
      subst z
      have hl : i < G.length := by
        have := (List.getElem?_eq_some_iff.mp hj).1
        rwa [List.length_set] at this
      rw [List.getElem?_set_self hl] at hj; cases hj
    have nk : i ≠ k := fun z => by
      subst z
      have hl : i < G.length := by
        have := (List.getElem?_eq_some_iff.mp hk).1
        rwa [List.length_set] at this
      rw [List.getElem?_set_self hl] at hk; cases hk
    rw [List.getElem?_set_ne nj] at hj
    rw [List.getElem?_set_ne nk] at hk
    exact h2 j k q1 c q2 e hj hk q
/-- forget -/
theorem IV.weak (I : IV K F G S H σ) {G' : List Sl} (hl : G'.length = G.length) (h : ∀ (i : Nat) (s : Sl), G'[i]? = some s → s = Sl.no ∨ G[i]? = some s) : IV K F G' S H σ := by
  obtain ⟨ad, h1, h2⟩ := I.sl
  refine ⟨I.fr, by rw [hl]; exact I.len, ad, fun i s hs => ?_, fun i j q1 c q2 e hi hj q => ?_⟩
  · rcases h i s hs with e | e
    · subst e; trivial
    · exact h1 i s e
  · rcases h i _ hi with e1 | e1
    · cases e1
    · rcases h j _ hj with e2 | e2
      · cases e2
      · exact h2 i j q1 c q2 e e1 e2 q
/-- a new object is the slot's own -/
theorem IV.own (I : IV K F G S H σ) {i : Nat} {p : Addr} {o : HO} {c : D} (h : H p = none) (r : CRep K S o c) : IV K F (G.set i (.ow false c)) S (upd H p o) (σ.set i (some (.ref p))) := by
  obtain ⟨hs, h0⟩ := I.fr.free h
  have I1 : IV K F G S (upd H p o) σ := by
    refine I.step ⟨fun a u q => ?_, I.fr.old, fun a u q hb => ?_, I.fr.new, fun b hb => ?_⟩ Ex.rfl' (fun a u n hb ha _ => ?_)
    · rw [upd_ne (fun z => by subst z; rw [hs] at q; cases q)]; exact I.fr.ex a u q
    · rw [upd_ne (fun z => by subst z; rw [h0] at q; cases q)]; exact I.fr.fr a u q hb
    · obtain ⟨o', e', nt⟩ := I.fr.bor b hb
      exact ⟨o', by rw [upd_ne (fun z => by rw [z, h] at e'; cases e')]; exact e', nt⟩
    · have ne : a ≠ p := fun z => by subst z; rw [h] at ha; cases ha
      rw [upd_ne ne]
      exact ⟨n, ha⟩
  obtain ⟨ad0, h10, _⟩ := I.sl
  obtain ⟨ad, h1, h2⟩ := I1.sl
  -- the owned slots' addresses are not p
  have hne : ∀ (j : Nat) (q : Bool) (c : D), G[j]? = some (Sl.ow q c) → (σ[j]?).bind id ≠ some (L2.V.ref p) := fun j q c hj z => by
    obtain ⟨ev, n, hb, o', ho, r'⟩ := h10 j _ hj
    rw [z] at ev
    have ep : p = ad0 j := L2.V.ref.inj (Option.some.inj ev)
    rw [← ep, h] at ho; cases ho
  refine ⟨I1.fr, by rw [List.length_set, List.length_set]; exact I.len, fun j => if j = i then p else ad j, fun j s hs' => ?_, fun j k qa c1 qb e1 hj hk q => ?_⟩
  · by_cases hij : i = j
    · subst hij
      have hl : i < G.length := by
        have := (List.getElem?_eq_some_iff.mp hs').1
        rwa [List.length_set] at this
      rw [List.getElem?_set_self hl] at hs'
      cases hs'
      show SlOk K F S (upd H p o) (.ow false c) _ (if i = i then p else ad i)
      rw [if_pos rfl]
      exact ⟨by rw [List.getElem?_set_self (by rw [I.len]; exact hl)]; rfl, hs, .inl ⟨rfl, h0⟩, o, upd_same, r⟩
    · rw [List.getElem?_set_ne hij] at hs'
      rw [List.getElem?_set_ne hij]
      show SlOk K F S (upd H p o) s _ (if j = i then p else ad j)
      rw [if_neg (fun z => hij z.symm)]
      exact h1 j s hs'
  · have own_at : ∀ {j : Nat} {q : Bool} {c1 : D}, i ≠ j → (G.set i (.ow false c))[j]? = some (.ow q c1) → ad j ≠ p := fun {j q c1} nj hj z => by
      rw [List.getElem?_set_ne nj] at hj
      obtain ⟨ev, _⟩ := h1 j _ hj
      rw [z] at ev
      exact hne j q c1 hj ev
    have q' : (if j = i then p else ad j) = (if k = i then p else ad k) := q
    by_cases hj' : j = i
    · by_cases hk' : k = i
      · rw [hj', hk']
      · rw [if_pos hj', if_neg hk'] at q'
        exact absurd q'.symm (own_at (fun z => hk' z.symm) hk)
    · by_cases hk' : k = i
      · rw [if_neg hj', if_pos hk'] at q'
        exact absurd q' (own_at (fun z => hj' z.symm) hj)
      · rw [if_neg hj', if_neg hk'] at q'
        rw [List.getElem?_set_ne (fun z => hj' z.symm)] at hj
        rw [List.getElem?_set_ne (fun z => hk' z.symm)] at hk
        exact h2 j k qa c1 qb e1 hj hk q'
/-- an owned object is written -/
theorem IV.write (I : IV K F G S H σ) {i : Nat} {p : Addr} {q0 : Bool} {c0 c : D} {o : HO} (hi : G[i]? = some (.ow q0 c0)) (hp : σ[i]? = some (some (.ref p))) (r : CRep K S o c) : IV K F (G.set i (.ow q0 c)) S (upd H p o) σ := by
  obtain ⟨ad, h1, h2⟩ := I.sl
  obtain ⟨ev, n, hb, o0, ho0, _⟩ := h1 i _ hi
  rw [hp] at ev
  have ep : p = ad i := L2.V.ref.inj (Option.some.inj ev)
  have hl : i < G.length := (List.getElem?_eq_some_iff.mp hi).1
  have fr' : Frame F S (upd H p o) := by
    refine ⟨fun a u q => ?_, I.fr.old, fun a u q hb' => ?_, I.fr.new, fun b hb' => ?_⟩
    · rw [upd_ne (fun z => by subst z; rw [ep, n] at q; cases q)]; exact I.fr.ex a u q
    · rw [upd_ne (fun z => by
        subst z
        rcases hb with ⟨_, z1⟩ | ⟨_, z1⟩
        · rw [ep, z1] at q; cases q
        · exact hb' (ep ▸ z1))]
      exact I.fr.fr a u q hb'
    · by_cases ha : b = p
      · subst ha; exact ⟨o, upd_same, r.nt⟩
      · rw [upd_ne ha]; exact I.fr.bor b hb'
  refine ⟨fr', by rw [List.length_set]; exact I.len, ad, fun j s hs' => ?_, fun j k qa c1 qb e1 hj hk q => ?_⟩
  · by_cases hij : i = j
    · subst hij
      rw [List.getElem?_set_self hl] at hs'
      cases hs'
      exact ⟨by rw [hp]; exact congrArg (fun x => some (L2.V.ref x)) ep, n, hb, o, by rw [← ep]; exact upd_same, r⟩
    · rw [List.getElem?_set_ne hij] at hs'
      have q := h1 j s hs'
      cases s with
      | no => trivial
      | va d => exact q
      | ow q1 c1 =>
        obtain ⟨ev1, n1, hb1, o1, ho1, r1⟩ := q
        refine ⟨ev1, n1, hb1, o1, ?_, r1⟩
        rw [upd_ne (fun z => hij (h2 i j _ _ _ _ hi hs' (by rw [← ep, z])))]
        exact ho1
  · have gen : ∀ {j : Nat} {qx : Bool} {c1 : D}, (G.set i (.ow q0 c))[j]? = some (.ow qx c1) → ∃ q2 c2, G[j]? = some (.ow q2 c2) := fun {j qx c1} hj => by
      by_cases hij : i = j
      · subst hij; exact ⟨q0, c0, hi⟩
      · rw [List.getElem?_set_ne hij] at hj; exact ⟨qx, c1, hj⟩
    obtain ⟨q2, c2, g1⟩ := gen hj
    obtain ⟨q3, e2, g2⟩ := gen hk
    exact h2 j k q2 c2 q3 e2 g1 g2 q
/-- an owned object becomes frozen -/
theorem IV.freeze (I : IV K F G S H σ) {i : Nat} {p : Addr} {q0 : Bool} {o : HO} {c : D} (hi : G[i]? = some (.ow q0 c)) (hp : σ[i]? = some (some (.ref p))) (h0 : F.H0 p = none) (ho : H p = some o) (r : CRep K S o c) (n : S p = none) :
    IV K F (G.set i (.va c)) (upd S p o) H σ ∧ Ex S (upd S p o) ∧ Rep K (upd S p o) (.ref p) c := by
  have e1 : Ex S (upd S p o) := Ex.new n
  have rp : Rep K (upd S p o) (.ref p) c := (r.mono e1).rep upd_same
  refine ⟨?_, e1, rp⟩
  obtain ⟨ad, h1, h2⟩ := I.sl
  obtain ⟨ev, n', hb, o0, ho0, _⟩ := h1 i _ hi
  rw [hp] at ev
  have ep : p = ad i := L2.V.ref.inj (Option.some.inj ev)
  have hl : i < G.length := (List.getElem?_eq_some_iff.mp hi).1
  have fr' : Frame F (upd S p o) H := by
    refine ⟨fun a u q => ?_, I.fr.old.tr e1, I.fr.fr, fun a q => ?_, I.fr.bor⟩
    · by_cases ha : a = p
      · subst ha; rw [upd_same] at q; cases q; exact ho
      · rw [upd_ne ha] at q; exact I.fr.ex a u q
    · by_cases ha : a = p
      · subst ha; exact .inr (.inl h0)
      · rw [upd_ne ha] at q; exact I.fr.new a q
  refine ⟨fr', by rw [List.length_set]; exact I.len, ad, fun j s hs' => ?_, fun j k qa c1 qb e2 hj hk q => ?_⟩
  · by_cases hij : i = j
    · subst hij
      rw [List.getElem?_set_self hl] at hs'
      cases hs'
      exact ⟨.ref p, by rw [hp]; rfl, rp⟩
    · rw [List.getElem?_set_ne hij] at hs'
      have q := h1 j s hs'
      cases s with
      | no => trivial
      | va d =>
        obtain ⟨v, ev1, r1⟩ := q
        exact ⟨v, ev1, r1.mono e1⟩
      | ow q1 c1 =>
        obtain ⟨ev1, n1, hb1, o1, ho1, r1⟩ := q
        refine ⟨ev1, ?_, hb1, o1, ho1, r1.mono e1⟩
        rw [upd_ne (fun z => hij (h2 i j _ _ _ _ hi hs' (by rw [← ep, z])))]
        exact n1
  · have gen : ∀ {j : Nat} {qx : Bool} {c1 : D}, (G.set i (.va c))[j]? = some (.ow qx c1) → G[j]? = some (.ow qx c1) := fun {j qx c1} hj => by
      by_cases hij : i = j
      · subst hij; rw [List.getElem?_set_self hl] at hj; cases hj
      · rw [List.getElem?_set_ne hij] at hj; exact hj
    exact h2 j k qa c1 qb e2 (gen hj) (gen hk) q
end
end Pu

namespace Pu
open PySem PySem.Spec PyProof.Rows L2

/-! readings by the run itself -/
def semE (X : Cx) (e : Expr) : TE := fun σ H Q => ∀ pins s, Inv X pins σ H s → wpAny (model X.prog X.w) X.A (eval e X.env) (EP X pins σ Q) X.xe s
def semT (X : Cx) (e : Expr) : TT := fun σ H Q => ∀ pins s, Inv X pins σ H s → wpAny (model X.prog X.w) X.A (isTrue e X.env (eval e X.env)) (TP X pins σ Q) X.xe s
def semA (X : Cx) (es : List Expr) : TA := fun σ H Q => ∀ (pos : Pos) pins s, Inv X pins σ H s → wpAny (model X.prog X.w) X.A (spliced (backTo pos (starEach es X.env))) (AP X pins σ Q) X.xe s
def semS (X : Cx) (st : Stmt) : TS := fun D σ H => ∀ pins s, Inv X pins σ H s → wpAny (model X.prog X.w) X.A (exec st X.env) (SP X pins D) X.xe s
def semSs (X : Cx) (sts : List Stmt) : TS := fun D σ H => ∀ pins s, Inv X pins σ H s → wpAny (model X.prog X.w) X.A (execs sts X.env) (SP X pins D) X.xe s
section
variable {X : Cx} {e : Expr} {es : List Expr} {st : Stmt} {sts : List Stmt} {σ : L2.St} {H : Hp}
theorem pe_sem : PE X e (semE X e) := ⟨fun pins s _ _ _ I h => h pins s I⟩
theorem pt_sem : PT X e (semT X e) := ⟨fun pins s _ _ _ I h => h pins s I⟩
theorem pa_sem : PA X es (semA X es) := ⟨fun pos pins s _ _ _ I h => h pos pins s I⟩
theorem ps_sem : PS X st (semS X st) := ⟨fun pins s _ _ _ I h => h pins s I⟩
theorem pss_sem : PSs X sts (semSs X sts) := ⟨fun pins s _ _ _ I h => h pins s I⟩
theorem semE_of {t : TE} (h : PE X e t) {Q : VK} (q : t σ H Q) : semE X e σ H Q := fun pins s I => h.run pins s σ H Q I q
theorem semT_of {t : TT} (h : PT X e t) {Q : Bool → Hp → Prop} (q : t σ H Q) : semT X e σ H Q := fun pins s I => h.run pins s σ H Q I q
theorem semA_of {t : TA} (h : PA X es t) {Q : List L2.V → Hp → Prop} (q : t σ H Q) : semA X es σ H Q := fun pos pins s I => h.run pos pins s σ H Q I q
theorem semS_of {t : TS} (h : PS X st t) {D : Ends} (q : t D σ H) : semS X st D σ H := fun pins s I => h.run pins s σ H D I q
theorem semSs_of {t : TS} (h : PSs X sts t) {D : Ends} (q : t D σ H) : semSs X sts D σ H := fun pins s I => h.run pins s σ H D I q
theorem semE_mono {Q Q' : VK} (h : semE X e σ H Q) (k : ∀ v H', Q v H' → Q' v H') : semE X e σ H Q' := fun pins s I =>
  thn (h pins s I) fun _ _ ⟨v, H', I', r, q⟩ => ⟨v, H', I', r, k v H' q⟩
theorem semT_mono {Q Q' : Bool → Hp → Prop} (h : semT X e σ H Q) (k : ∀ v H', Q v H' → Q' v H') : semT X e σ H Q' := fun pins s I =>
  thn (h pins s I) fun b _ ⟨H', I', q⟩ => ⟨H', I', k b H' q⟩
theorem semA_mono {Q Q' : List L2.V → Hp → Prop} (h : semA X es σ H Q) (k : ∀ v H', Q v H' → Q' v H') : semA X es σ H Q' := fun pos pins s I =>
  thn (h pos pins s I) fun _ _ ⟨v, H', I', r, q⟩ => ⟨v, H', I', r, k v H' q⟩
end

/-! pure judgements -/
def PK (K : PySem.W.Frag) (F : Fm) (S : Hp) (σ : L2.St) (Kk : D → List Sl → Prop) : VK := fun v H' => ∃ d G' S', IV K F G' S' H' σ ∧ Ex S S' ∧ Rep K S' v d ∧ Kk d G'
def XE (X : Cx) (F : Fm) (e : Expr) (G : List Sl) (Kk : D → List Sl → Prop) : Prop := ∀ S H σ, IV X.K F G S H σ → semE X e σ H (PK X.K F S σ Kk)
def XT (X : Cx) (F : Fm) (e : Expr) (G : List Sl) (Kk : Bool → List Sl → Prop) : Prop := ∀ S H σ, IV X.K F G S H σ → semT X e σ H (fun b H' => ∃ G' S', IV X.K F G' S' H' σ ∧ Ex S S' ∧ Kk b G')
def XA (X : Cx) (F : Fm) (es : List Expr) (G : List Sl) (Kk : List D → List Sl → Prop) : Prop := ∀ S H σ, IV X.K F G S H σ → semA X es σ H (fun vs H' => ∃ ds G' S', IV X.K F G' S' H' σ ∧ Ex S S' ∧ Reps X.K S' vs ds ∧ Kk ds G')
structure Pst where
  nx : List Sl → Prop
  rt : D → List Sl → Prop
  bk : List Sl → Prop := fun _ => False
  ct : List Sl → Prop := fun _ => False
  ro : D → Prop := fun _ => False
structure EndsOk (K : PySem.W.Frag) (F : Fm) (S0 : Hp) (P : Pst) (E : Ends) : Prop where
  nx : ∀ G S H σ, IV K F G S H σ → Ex S0 S → P.nx G → E.nx σ H
  rt : ∀ d v G S H σ, IV K F G S H σ → Ex S0 S → Rep K S v d → P.rt d G → E.rt v H
  bk : ∀ G S H σ, IV K F G S H σ → Ex S0 S → P.bk G → E.bk σ H
  ct : ∀ G S H σ, IV K F G S H σ → Ex S0 S → P.ct G → E.ct σ H
  ro : ∀ c p o G S H σ, IV K F G S H σ → Ex S0 S → S p = none → F.H0 p = none → H p = some o → CRep K S o c → P.ro c → E.rt (.ref p) H
theorem EndsOk.later {K : PySem.W.Frag} {F : Fm} {S0 S1 : Hp} {P : Pst} {E : Ends} (ok : EndsOk K F S0 P E) (e : Ex S0 S1) : EndsOk K F S1 P E :=
  ⟨fun G S H σ I q k => ok.nx G S H σ I (e.tr q) k, fun d v G S H σ I q r k => ok.rt d v G S H σ I (e.tr q) r k, fun G S H σ I q k => ok.bk G S H σ I (e.tr q) k, fun G S H σ I q k => ok.ct G S H σ I (e.tr q) k, fun c p o G S H σ I q n h0 ho rc k => ok.ro c p o G S H σ I (e.tr q) n h0 ho rc k⟩
def XS (X : Cx) (F : Fm) (st : Stmt) (G : List Sl) (P : Pst) : Prop := ∀ S H σ E, IV X.K F G S H σ → EndsOk X.K F S P E → semS X st E σ H
def XSs (X : Cx) (F : Fm) (sts : List Stmt) (G : List Sl) (P : Pst) : Prop := ∀ S H σ E, IV X.K F G S H σ → EndsOk X.K F S P E → semSs X sts E σ H
/-- a two-place operation -/
def XO (X : Cx) (F : Fm) (f : Value → Value → Sem Value) (x y : D) (G : List Sl) (Kk : D → List Sl → Prop) : Prop :=
  ∃ r : R2, OpR X f r ∧ ∀ S H σ vx vy, IV X.K F G S H σ → Rep X.K S vx x → Rep X.K S vy y → r vx vy H (PK X.K F S σ Kk)
/-- an item -/
def XI (X : Cx) (F : Fm) (x y : D) (G : List Sl) (Kk : D → List Sl → Prop) : Prop :=
  ∃ r : R2, IxR X r ∧ ∀ S H σ vx vy, IV X.K F G S H σ → Rep X.K S vx x → Rep X.K S vy y → r vx vy H (PK X.K F S σ Kk)
/-- a built-in called -/
def XC (X : Cx) (F : Fm) (f : Value) (ds : List D) (G : List Sl) (Kk : D → List Sl → Prop) : Prop :=
  ∃ r : List L2.V → Hp → VK → Prop, CallR X f r ∧ ∀ S H σ vs, IV X.K F G S H σ → Reps X.K S vs ds → r vs H (PK X.K F S σ Kk)

section
variable {X : Cx} {F : Fm} {G : List Sl} {Kk : D → List Sl → Prop} {e a b : Expr} {pos : Pos}
theorem PK.at {K : PySem.W.Frag} {S S' H : Hp} {σ : L2.St} {v : L2.V} {d : D} (I : IV K F G S' H σ) (e : Ex S S') (r : Rep K S' v d) (k : Kk d G) : PK K F S σ Kk v H := ⟨d, G, S', I, e, r, k⟩
theorem PK.of {K : PySem.W.Frag} {S S1 : Hp} {σ : L2.St} {v : L2.V} {H : Hp} (e : Ex S S1) (h : PK K F S1 σ Kk v H) : PK K F S σ Kk v H := by
  obtain ⟨d, G', S', I, e', r, k⟩ := h
  exact ⟨d, G', S', I, e.tr e', r, k⟩
theorem XE.mono {K2 : D → List Sl → Prop} (h : XE X F e G Kk) (k : ∀ d G', Kk d G' → K2 d G') : XE X F e G K2 := fun S H σ I => semE_mono (h S H σ I) fun v H' ⟨d, G', S', I', e', r, q⟩ => ⟨d, G', S', I', e', r, k _ _ q⟩

/-! names, constants -/
theorem xe_n (i : Nat) {x : Str} {d : D} (hG : G[i]? = some (.va d)) (k : Kk d G) (hN : X.N[i]? = some x := by rfl) (hv : Vis X.env.scope x := by first | exact Or.inl rfl | exact Or.inr (Or.inl rfl) | exact Or.inr (Or.inr rfl))
    (hd : (x == ("__debug__" : Str)) = false := by decide) (hcd : (x == ("__classdict__" : Str)) = false := by decide) : XE X F (.Name x pos) G Kk := fun S H σ I => by
  obtain ⟨v, e, r⟩ := I.va hG
  exact semE_of (pe_var hN hv hd hcd) ⟨v, e, .at I Ex.rfl' r k⟩
theorem xe_nf (i : Nat) {x : Str} {c : D} (hG : G[i]? = some (.ow false c)) (k : Kk c (G.set i (.va c))) (hN : X.N[i]? = some x := by rfl) (hv : Vis X.env.scope x := by first | exact Or.inl rfl | exact Or.inr (Or.inl rfl) | exact Or.inr (Or.inr rfl))
    (hd : (x == ("__debug__" : Str)) = false := by decide) (hcd : (x == ("__classdict__" : Str)) = false := by decide) : XE X F (.Name x pos) G Kk := fun S H σ I => by
  obtain ⟨p, o, ep, n, hb, ho, r⟩ := I.ow hG
  have h0 : F.H0 p = none := by
    rcases hb with ⟨_, z⟩ | ⟨z, _⟩
    · exact z
    · cases z
  obtain ⟨I', e1, rp⟩ := I.freeze hG ep h0 ho r n
  exact semE_of (pe_var hN hv hd hcd) ⟨_, ep, .at I' e1 rp k⟩
theorem xe_int {i : Int} {j} (k : Kk (.int i) G) : XE X F (.Constant (.int i) j pos) G Kk := fun S H σ I => semE_of pe_int (.at I Ex.rfl' (.int i) k)
theorem xe_str {x : Str} {j} (k : Kk (.str x) G) : XE X F (.Constant (.str x) j pos) G Kk := fun S H σ I => semE_of pe_str (.at I Ex.rfl' (.str x) k)
theorem xe_bl {b : Bool} {j} (k : Kk (.bl b) G) : XE X F (.Constant (.bool b) j pos) G Kk := fun S H σ I => semE_of pe_bl (.at I Ex.rfl' (.bl b) k)
theorem xe_non {j} (k : Kk .non G) : XE X F (.Constant .none j pos) G Kk := fun S H σ I => semE_of pe_non (.at I Ex.rfl' .non k)
/-- a written constant of the module -/
theorem xe_glob {x : Str} {v : L2.V} {u : Value} {d : D} (hg : Gl X x) (hm : X.mg x = some u) (r : RelV v u) (hr : ∀ S, Rep X.K S v d) (k : Kk d G) (hd : (x == ("__debug__" : Str)) = false := by decide) : XE X F (.Name x pos) G Kk := fun S H σ I =>
  semE_of (pe_glob hg hm r hd) (.at I Ex.rfl' (hr S) k)

/-! operators -/
theorem xe_bin {op : Operator} (h : XE X F a G (fun x G1 => XE X F b G1 fun y G2 => XO X F (binaryOp op) x y G2 Kk)) : XE X F (.BinOp a op b pos) G Kk := by
  intro S H σ I
  -- the operation by the run itself
  have ho : OpR X (binaryOp op) (fun x y H Q => ∀ pins s σ u w, Inv X pins σ H s → RelV x u → RelV y w → wpAny (model X.prog X.w) X.A (binaryOp op u w) (EP X pins σ Q) X.xe s) := fun pins s σ H x y u w Q I rx ry h => h pins s σ u w I rx ry
  refine semE_of (pe_op ho pe_sem pe_sem) ?_
  refine semE_mono (h S H σ I) fun v1 H1 ⟨x, G1, S1, I1, e1, r1, q1⟩ => ?_
  refine semE_mono (q1 S1 H1 σ I1) fun v2 H2 ⟨y, G2, S2, I2, e2, r2, r, hr, q2⟩ => ?_
  intro pins s σ' u w Iv rx ry
  have := q2 S2 H2 σ v1 v2 I2 (r1.mono e2) r2
  refine thn (hr pins s σ' H2 v1 v2 u w _ Iv rx ry this) fun u' s' ⟨v, H', I', rv, k⟩ => ⟨v, H', I', rv, k.of (e1.tr e2)⟩
theorem xe_cmp {op : CmpOp} (h : XE X F a G (fun x G1 => XE X F b G1 fun y G2 => XO X F (compareOp op) x y G2 Kk)) (hm : behindInMarks op b = false := by first | exact nomark _ | rfl) : XE X F (.Compare a [op] [b] pos) G Kk := by
  intro S H σ I
  have ho : OpR X (compareOp op) (fun x y H Q => ∀ pins s σ u w, Inv X pins σ H s → RelV x u → RelV y w → wpAny (model X.prog X.w) X.A (compareOp op u w) (EP X pins σ Q) X.xe s) := fun pins s σ H x y u w Q I rx ry h => h pins s σ u w I rx ry
  refine semE_of (pe_cmpR ho pe_sem pe_sem hm) ?_
  refine semE_mono (h S H σ I) fun v1 H1 ⟨x, G1, S1, I1, e1, r1, q1⟩ => ?_
  refine semE_mono (q1 S1 H1 σ I1) fun v2 H2 ⟨y, G2, S2, I2, e2, r2, r, hr, q2⟩ => ?_
  intro pins s σ' u w Iv rx ry
  have := q2 S2 H2 σ v1 v2 I2 (r1.mono e2) r2
  refine thn (hr pins s σ' H2 v1 v2 u w _ Iv rx ry this) fun u' s' ⟨v, H', I', rv, k⟩ => ⟨v, H', I', rv, k.of (e1.tr e2)⟩
theorem xt_cmp {op : CmpOp} {Kb : Bool → List Sl → Prop} (h : XE X F a G (fun x G1 => XE X F b G1 fun y G2 => XO X F (compareOp op) x y G2 fun d G3 => ∃ c, d = .bl c ∧ Kb c G3)) (hm : behindInMarks op b = false := by first | exact nomark _ | rfl) : XT X F (.Compare a [op] [b] pos) G Kb := by
  intro S H σ I
  have ho : OpR X (compareOp op) (fun x y H Q => ∀ pins s σ u w, Inv X pins σ H s → RelV x u → RelV y w → wpAny (model X.prog X.w) X.A (compareOp op u w) (EP X pins σ Q) X.xe s) := fun pins s σ H x y u w Q I rx ry h => h pins s σ u w I rx ry
  refine semT_of (pt_cmpR ho pe_sem pe_sem hm) ?_
  refine semE_mono (h S H σ I) fun v1 H1 ⟨x, G1, S1, I1, e1, r1, q1⟩ => ?_
  refine semE_mono (q1 S1 H1 σ I1) fun v2 H2 ⟨y, G2, S2, I2, e2, r2, r, hr, q2⟩ => ?_
  intro pins s σ' u w Iv rx ry
  have := q2 S2 H2 σ v1 v2 I2 (r1.mono e2) r2
  refine thn (hr pins s σ' H2 v1 v2 u w _ Iv rx ry this) fun u' s' ⟨v, H', I', rv, d, G3, S3, I3, e3, r3, c, hc, k⟩ => ?_
  subst hc
  cases r3
  exact ⟨_, H', I', rv, c, rfl, G3, S3, I3, (e1.tr e2).tr e3, k⟩
/-- a value that is a bool, as a test -/
theorem xt_val {Kb : Bool → List Sl → Prop} (h : XE X F e G fun d G' => ∃ c, d = .bl c ∧ Kb c G') (he : ∀ whole, isTrue e X.env whole = (do let v ← whole; standAt e.pos; holding [v] (truthy v)) := by intro _; rfl) : XT X F e G Kb := by
  intro S H σ I
  refine semT_of (pt_val pe_sem he) ?_
  refine semE_mono (h S H σ I) fun v H' ⟨d, G', S', I', e', r, c, hc, k⟩ => ?_
  subst hc
  cases r
  exact ⟨c, rfl, G', S', I', e', k⟩
theorem xt_not {Kb : Bool → List Sl → Prop} (h : XT X F e G fun c G' => Kb (!c) G') : XT X F (.UnaryOp .Not e pos) G Kb := by
  intro S H σ I
  refine semT_of (pt_not pt_sem) ?_
  exact semT_mono (h S H σ I) fun c H' q => q
def semW (X : Cx) (e : Expr) : TT := fun σ H Q => ∀ (whole : Sem Value) pins s, Inv X pins σ H s → wpAny (model X.prog X.w) X.A (isTrue e X.env whole) (TP X pins σ Q) X.xe s
/-- and, or: whatever their whole is -/
def XW (X : Cx) (F : Fm) (e : Expr) (G : List Sl) (Kk : Bool → List Sl → Prop) : Prop := ∀ S H σ, IV X.K F G S H σ → semW X e σ H (fun b H' => ∃ G' S', IV X.K F G' S' H' σ ∧ Ex S S' ∧ Kk b G')
theorem pw_sem : PW X e (semW X e) := ⟨fun wh pins s _ _ _ I h => h wh pins s I⟩
theorem semW_of {t : TT} (h : PW X e t) {σ : L2.St} {H : Hp} {Q : Bool → Hp → Prop} (q : t σ H Q) : semW X e σ H Q := fun wh pins s I => h.run wh pins s σ H Q I q
theorem xt_w {Kb : Bool → List Sl → Prop} (h : XW X F e G Kb) : XT X F e G Kb := fun S H σ I => semT_of (pw_sem).pt (h S H σ I)
theorem xw_and1 {Kb : Bool → List Sl → Prop} (h : XT X F a G Kb) : XW X F (.BoolOp .And [a] pos) G Kb := fun S H σ I => semW_of (pw_and1 pt_sem) (h S H σ I)
theorem xw_or1 {Kb : Bool → List Sl → Prop} (h : XT X F a G Kb) : XW X F (.BoolOp .Or [a] pos) G Kb := fun S H σ I => semW_of (pw_or1 pt_sem) (h S H σ I)
theorem xw_and {rest : List Expr} {Kb : Bool → List Sl → Prop} (h : XT X F a G fun c G1 => (c = true → XW X F (.BoolOp .And (b :: rest) pos) G1 Kb) ∧ (c = false → Kb false G1)) : XW X F (.BoolOp .And (a :: b :: rest) pos) G Kb := fun S H σ I => by
  refine semW_of (pw_and pt_sem pw_sem) ?_
  refine semT_mono (h S H σ I) fun c H1 ⟨G1, S1, I1, e1, k1, k2⟩ => ?_
  cases c with
  | true =>
    refine iteT fun wh pins s Iv => ?_
    exact thn ((k1 rfl) S1 H1 σ I1 wh pins s Iv) fun c2 s2 ⟨H2, I2, G2, S2, i2, e2, k⟩ => ⟨H2, I2, G2, S2, i2, e1.tr e2, k⟩
  | false => exact iteF ⟨G1, S1, I1, e1, k2 rfl⟩
theorem xw_or {rest : List Expr} {Kb : Bool → List Sl → Prop} (h : XT X F a G fun c G1 => (c = false → XW X F (.BoolOp .Or (b :: rest) pos) G1 Kb) ∧ (c = true → Kb true G1)) : XW X F (.BoolOp .Or (a :: b :: rest) pos) G Kb := fun S H σ I => by
  refine semW_of (pw_or pt_sem pw_sem) ?_
  refine semT_mono (h S H σ I) fun c H1 ⟨G1, S1, I1, e1, k1, k2⟩ => ?_
  cases c with
  | false =>
    refine iteF fun wh pins s Iv => ?_
    exact thn ((k1 rfl) S1 H1 σ I1 wh pins s Iv) fun c2 s2 ⟨H2, I2, G2, S2, i2, e2, k⟩ => ⟨H2, I2, G2, S2, i2, e1.tr e2, k⟩
  | true => exact iteT ⟨G1, S1, I1, e1, k2 rfl⟩
/-- and, or, not as values (bools) -/
theorem xe_one {op} (h : XE X F a G Kk) : XE X F (.BoolOp op [a] pos) G Kk := fun S H σ I => semE_of (pe_one pe_sem) (h S H σ I)
theorem xe_and {rest : List Expr} (h : XE X F a G fun d G1 => ∃ c, d = .bl c ∧ (c = true → XE X F (.BoolOp .And (b :: rest) pos) G1 Kk) ∧ (c = false → Kk (.bl false) G1)) : XE X F (.BoolOp .And (a :: b :: rest) pos) G Kk := fun S H σ I => by
  refine semE_of (pe_and pe_sem pe_sem) ?_
  refine semE_mono (h S H σ I) fun v H1 ⟨d, G1, S1, I1, e1, r, c, hc, k1, k2⟩ => ?_
  subst hc
  cases r
  refine ⟨c, rfl, ?_⟩
  cases c with
  | true => exact iteT (semE_mono ((k1 rfl) S1 H1 σ I1) fun v2 H2 q => q.of e1)
  | false => exact iteF (.at I1 e1 (.bl false) (k2 rfl))
theorem xe_or {rest : List Expr} (h : XE X F a G fun d G1 => ∃ c, d = .bl c ∧ (c = false → XE X F (.BoolOp .Or (b :: rest) pos) G1 Kk) ∧ (c = true → Kk (.bl true) G1)) : XE X F (.BoolOp .Or (a :: b :: rest) pos) G Kk := fun S H σ I => by
  refine semE_of (pe_or pe_sem pe_sem) ?_
  refine semE_mono (h S H σ I) fun v H1 ⟨d, G1, S1, I1, e1, r, c, hc, k1, k2⟩ => ?_
  subst hc
  cases r
  refine ⟨c, rfl, ?_⟩
  cases c with
  | false => exact iteF (semE_mono ((k1 rfl) S1 H1 σ I1) fun v2 H2 q => q.of e1)
  | true => exact iteT (.at I1 e1 (.bl true) (k2 rfl))
theorem xe_not (h : XE X F e G fun d G1 => ∃ c, d = .bl c ∧ Kk (.bl (!c)) G1) : XE X F (.UnaryOp .Not e pos) G Kk := fun S H σ I => by
  refine semE_of (pe_not pe_sem) ?_
  refine semE_mono (h S H σ I) fun v H1 ⟨d, G1, S1, I1, e1, r, c, hc, k⟩ => ?_
  subst hc
  cases r
  exact ⟨c, rfl, .at I1 e1 (.bl _) k⟩
theorem xe_neg (h : XE X F e G fun d G1 => ∃ i, d = .int i ∧ Kk (.int (-i)) G1) : XE X F (.UnaryOp .USub e pos) G Kk := fun S H σ I => by
  refine semE_of (pe_un un_neg pe_sem) ?_
  refine semE_mono (h S H σ I) fun v H1 ⟨d, G1, S1, I1, e1, r, i, hc, k⟩ => ?_
  subst hc
  cases r
  exact ⟨i, rfl, .at I1 e1 (.int _) k⟩
theorem xe_if {c : Expr} (h : XT X F c G fun t G1 => (t = true → XE X F a G1 Kk) ∧ (t = false → XE X F b G1 Kk)) : XE X F (.IfExp c a b pos) G Kk := fun S H σ I => by
  refine semE_of (pe_ifExp pt_sem pe_sem pe_sem) ?_
  refine semT_mono (h S H σ I) fun t H1 ⟨G1, S1, I1, e1, k1, k2⟩ => ?_
  cases t with
  | true => exact iteT (semE_mono ((k1 rfl) S1 H1 σ I1) fun v2 H2 q => q.of e1)
  | false => exact iteF (semE_mono ((k2 rfl) S1 H1 σ I1) fun v2 H2 q => q.of e1)

/-! arguments, displays, items -/
theorem xa_nil {Ka : List D → List Sl → Prop} (k : Ka [] G) : XA X F [] G Ka := fun S H σ I => semA_of pa_nil ⟨[], G, S, I, Ex.rfl', .nil, k⟩
theorem xa_cons {es : List Expr} {Ka : List D → List Sl → Prop} (h : XE X F e G fun d G1 => XA X F es G1 fun ds G2 => Ka (d :: ds) G2) (hs : starEach (e :: es) X.env = (false, eval e X.env) :: starEach es X.env := by rfl) : XA X F (e :: es) G Ka := fun S H σ I => by
  refine semA_of (pa_cons pe_sem pa_sem hs) ?_
  refine semE_mono (h S H σ I) fun v H1 ⟨d, G1, S1, I1, e1, r1, k1⟩ => ?_
  exact semA_mono (k1 S1 H1 σ I1) fun vs H2 ⟨ds, G2, S2, I2, e2, r2, k2⟩ => ⟨d :: ds, G2, S2, I2, e1.tr e2, .cons (r1.mono e2) r2, k2⟩
theorem xe_tup {es : List Expr} {x1} (h : XA X F es G fun ds G1 => ds.length ≤ 100000 ∧ Kk (.tup ds) G1) : XE X F (.Tuple es x1 pos) G Kk := fun S H σ I => by
  refine semE_of (pe_tup pa_sem) ?_
  refine semA_mono (h S H σ I) fun vs H1 ⟨ds, G1, S1, I1, e1, r1, hz, k⟩ => ?_
  refine ⟨by rw [r1.length]; exact Nat.le_trans hz (by decide), fun p hp => ?_⟩
  obtain ⟨I2, e2⟩ := I1.alloc (o := .tup vs) hp
  exact .at I2 (e1.tr e2) (.tup upd_same (r1.mono e2)) k
/-- a list that is frozen at once -/
theorem xe_lst {es : List Expr} (h : XA X F es G fun ds G1 => ds.length ≤ 100000 ∧ Kk (.lst ds) G1) : XE X F (.List es pos) G Kk := fun S H σ I => by
  refine semE_of (pe_lst pa_sem) ?_
  refine semA_mono (h S H σ I) fun vs H1 ⟨ds, G1, S1, I1, e1, r1, hz, k⟩ => ?_
  refine ⟨by rw [r1.length]; exact Nat.le_trans hz (by decide), fun p hp => ?_⟩
  obtain ⟨I2, e2⟩ := I1.alloc (o := .lst vs) hp
  exact .at I2 (e1.tr e2) (.lst upd_same (r1.mono e2)) k
theorem xe_ix (h : XE X F a G (fun x G1 => XE X F b G1 fun y G2 => XI X F x y G2 Kk)) (hs : PlainIx b := by exact fun _ _ => rfl) : XE X F (.Subscript a b pos) G Kk := by
  intro S H σ I
  have ho : IxR X (fun x y H Q => ∀ value slice pins s σ u w, Inv X pins σ H s → RelV x u → RelV y w → subscripted slice false u w = operate [u, w] (getItem u w) → wpAny (model X.prog X.w) X.A (subscriptTail value slice u w) (EP X pins σ Q) X.xe s) := fun value slice pins s σ H x y u w Q I rx ry h z => h value slice pins s σ u w I rx ry z
  refine semE_of (pe_ix ho pe_sem pe_sem hs) ?_
  refine semE_mono (h S H σ I) fun v1 H1 ⟨x, G1, S1, I1, e1, r1, q1⟩ => ?_
  refine semE_mono (q1 S1 H1 σ I1) fun v2 H2 ⟨y, G2, S2, I2, e2, r2, r, hr, q2⟩ => ?_
  intro value slice pins s σ' u w Iv rx ry z
  have := q2 S2 H2 σ v1 v2 I2 (r1.mono e2) r2
  refine thn (hr value slice pins s σ' H2 v1 v2 u w _ Iv rx ry this z) fun u' s' ⟨v, H', I', rv, k⟩ => ⟨v, H', I', rv, k.of (e1.tr e2)⟩
/-- an item of the slot's own list, which stays its own -/
theorem xe_ixo (i : Nat) {x : Str} {p1 : Pos} (hG : ∃ q c, G[i]? = some (.ow q c)) (h : XE X F b G fun y G2 => ∃ q ds k d, G2[i]? = some (.ow q (.lst ds)) ∧ y = .int k ∧ atI ds k = some d ∧ Kk d G2) (hs : PlainIx b := by exact fun _ _ => rfl)
    (hN : X.N[i]? = some x := by rfl) (hv : Vis X.env.scope x := by first | exact Or.inl rfl | exact Or.inr (Or.inl rfl) | exact Or.inr (Or.inr rfl))
    (hd : (x == ("__debug__" : Str)) = false := by decide) (hcd : (x == ("__classdict__" : Str)) = false := by decide) : XE X F (.Subscript (.Name x p1) b pos) G Kk := by
  intro S H σ I
  obtain ⟨_, c, hc⟩ := hG
  obtain ⟨p0, _, ep0, _⟩ := I.ow hc
  refine semE_of (pe_ix ix_list (pe_var hN hv hd hcd) pe_sem hs) ?_
  refine ⟨_, ep0, ?_⟩
  refine semE_mono (h S H σ I) fun v2 H2 ⟨y, G2, S2, I2, e2, r2, _, ds, k, d, g2, ey, ha, q⟩ => ?_
  subst ey
  cases r2
  obtain ⟨p, o, ep, n, hb, ho, r⟩ := I2.ow g2
  rw [ep0] at ep
  cases ep
  cases r with
  | @lst vs _ r =>
    obtain ⟨j, hj, hg, hl, hlo, hhi⟩ := atI_get ha
    obtain ⟨v, gv, rv⟩ := r.get hg
    have hix : ixN ds.length k = some j := by
      unfold atI at ha
      cases hx : ixN ds.length k with
      | none => rw [hx] at ha; cases ha
      | some j' =>
        have := (ixN_seq hx).1
        rw [hj] at this; exact this.symm
    refine ⟨_, vs, k, v, rfl, rfl, SqL.of ho, ?_, .at I2 e2 rv q⟩
    unfold atI
    rw [r.length, hix]
    exact gv
end

/-! operations on data -/
section
variable {X : Cx} {F : Fm} {G : List Sl} {Kk : D → List Sl → Prop}
theorem xo_I0 {f : Value → Value → Sem Value} {g : Int → Int → L2.V} {i j : Int} {d : D} (h : OpR X f (rI0 g)) (hd : ∀ S, Rep X.K S (g i j) d) (k : Kk d G) : XO X F f (.int i) (.int j) G Kk :=
  ⟨_, h, fun S H σ vx vy I rx ry => by cases rx; cases ry; exact ⟨i, j, rfl, rfl, .at I Ex.rfl' (hd S) k⟩⟩
theorem xo_I {f : Value → Value → Sem Value} {C : Int → Int → Prop} {g : Int → Int → L2.V} {i j : Int} {d : D} (h : OpR X f (rI C g)) (hc : C i j) (hd : ∀ S, Rep X.K S (g i j) d) (k : Kk d G) : XO X F f (.int i) (.int j) G Kk :=
  ⟨_, h, fun S H σ vx vy I rx ry => by cases rx; cases ry; exact ⟨i, j, rfl, rfl, hc, .at I Ex.rfl' (hd S) k⟩⟩
variable {i j : Int}
theorem xo_add (k : Kk (.int (i + j)) G) : XO X F (binaryOp .Add) (.int i) (.int j) G Kk := xo_I0 op_add (fun _ => .int _) k
theorem xo_sub (k : Kk (.int (i - j)) G) : XO X F (binaryOp .Sub) (.int i) (.int j) G Kk := xo_I0 op_sub (fun _ => .int _) k
theorem xo_mul (hc : CMul i j) (k : Kk (.int (i * j)) G) : XO X F (binaryOp .Mult) (.int i) (.int j) G Kk := xo_I op_mul hc (fun _ => .int _) k
theorem xo_mod (hc : 0 < j) (k : Kk (.int (i % j)) G) : XO X F (binaryOp .Mod) (.int i) (.int j) G Kk := xo_I op_mod hc (fun _ => .int _) k
theorem xo_fdiv (hc : CDiv i j) (k : Kk (.int (i / j)) G) : XO X F (binaryOp .FloorDiv) (.int i) (.int j) G Kk := xo_I op_fdiv hc (fun _ => .int _) k
theorem xo_pow (hc : CPow i j) (k : Kk (.int (i ^ j.toNat)) G) : XO X F (binaryOp .Pow) (.int i) (.int j) G Kk := xo_I op_pow hc (fun _ => .int _) k
theorem xo_lt (k : Kk (.bl (decide (i < j))) G) : XO X F (compareOp .Lt) (.int i) (.int j) G Kk := xo_I0 op_lt (fun _ => .bl _) k
theorem xo_le (k : Kk (.bl (decide (i ≤ j))) G) : XO X F (compareOp .LtE) (.int i) (.int j) G Kk := xo_I0 op_le (fun _ => .bl _) k
theorem xo_gt (k : Kk (.bl (decide (j < i))) G) : XO X F (compareOp .Gt) (.int i) (.int j) G Kk := xo_I0 op_gt (fun _ => .bl _) k
theorem xo_ge (k : Kk (.bl (decide (j ≤ i))) G) : XO X F (compareOp .GtE) (.int i) (.int j) G Kk := xo_I0 op_ge (fun _ => .bl _) k
theorem xo_eqI (k : Kk (.bl (decide (i = j))) G) : XO X F (compareOp .Eq) (.int i) (.int j) G Kk :=
  ⟨_, op_eq, fun S H σ vx vy I rx ry => by
    cases rx; cases ry
    refine ⟨rfl, ?_⟩
    have e : decide (L2.V.int i = L2.V.int j) = decide (i = j) := by rw [dec_int]; exact Bool.beq_eq_decide_eq i j
    rw [e]
    exact .at I Ex.rfl' (.bl _) k⟩
theorem xo_neI (k : Kk (.bl (!decide (i = j))) G) : XO X F (compareOp .NotEq) (.int i) (.int j) G Kk :=
  ⟨_, op_ne, fun S H σ vx vy I rx ry => by
    cases rx; cases ry
    refine ⟨rfl, ?_⟩
    have e : decide (L2.V.int i = L2.V.int j) = decide (i = j) := by rw [dec_int]; exact Bool.beq_eq_decide_eq i j
    rw [e]
    exact .at I Ex.rfl' (.bl _) k⟩
theorem xo_eqS {x y : Str} (k : Kk (.bl (decide (x = y))) G) : XO X F (compareOp .Eq) (.str x) (.str y) G Kk :=
  ⟨_, op_eq, fun S H σ vx vy I rx ry => by
    cases rx; cases ry
    refine ⟨rfl, ?_⟩
    have e : decide (L2.V.str x = L2.V.str y) = decide (x = y) := by
      by_cases h : x = y
      · rw [decide_eq_true h, decide_eq_true (by rw [h])]
      · rw [decide_eq_false h, decide_eq_false (fun z => h (L2.V.str.inj z))]
    rw [e]
    exact .at I Ex.rfl' (.bl _) k⟩
theorem xo_neS {x y : Str} (k : Kk (.bl (!decide (x = y))) G) : XO X F (compareOp .NotEq) (.str x) (.str y) G Kk :=
  ⟨_, op_ne, fun S H σ vx vy I rx ry => by
    cases rx; cases ry
    refine ⟨rfl, ?_⟩
    have e : decide (L2.V.str x = L2.V.str y) = decide (x = y) := by
      by_cases h : x = y
      · rw [decide_eq_true h, decide_eq_true (by rw [h])]
      · rw [decide_eq_false h, decide_eq_false (fun z => h (L2.V.str.inj z))]
    rw [e]
    exact .at I Ex.rfl' (.bl _) k⟩
theorem xo_eqB {x y : Bool} (k : Kk (.bl (decide (x = y))) G) : XO X F (compareOp .Eq) (.bl x) (.bl y) G Kk :=
  ⟨_, op_eq, fun S H σ vx vy I rx ry => by
    cases rx; cases ry
    refine ⟨rfl, ?_⟩
    have e : decide (L2.V.bl x = L2.V.bl y) = decide (x = y) := by cases x <;> cases y <;> rfl
    rw [e]
    exact .at I Ex.rfl' (.bl _) k⟩
theorem xo_neB {x y : Bool} (k : Kk (.bl (!decide (x = y))) G) : XO X F (compareOp .NotEq) (.bl x) (.bl y) G Kk :=
  ⟨_, op_ne, fun S H σ vx vy I rx ry => by
    cases rx; cases ry
    refine ⟨rfl, ?_⟩
    have e : decide (L2.V.bl x = L2.V.bl y) = decide (x = y) := by cases x <;> cases y <;> rfl
    rw [e]
    exact .at I Ex.rfl' (.bl _) k⟩
def isN : D → Bool
  | .non => true
  | _ => false
theorem xo_isN {x : D} (k : Kk (.bl (isN x)) G) : XO X F (compareOp .Is) x .non G Kk :=
  ⟨_, op_isN, fun S H σ vx vy I rx ry => by
    cases ry
    refine ⟨rfl, ?_⟩
    have e : decide (vx = L2.V.non) = isN x := by cases rx <;> rfl
    rw [e]
    exact .at I Ex.rfl' (.bl _) k⟩
theorem xo_addS {x y : Str} (hz : x.length + y.length ≤ 1000000) (k : Kk (.str (x ++ y)) G) : XO X F (binaryOp .Add) (.str x) (.str y) G Kk :=
  ⟨_, op_add_str, fun S H σ vx vy I rx ry => by
    cases rx; cases ry
    exact ⟨x, y, rfl, rfl, Nat.le_trans hz (by decide), .at I Ex.rfl' (.str _) k⟩⟩
theorem xo_cat {xs ys : List D} (hz : xs.length + ys.length ≤ 1000000) (k : Kk (.lst (xs ++ ys)) G) : XO X F (binaryOp .Add) (.lst xs) (.lst ys) G Kk :=
  ⟨_, op_cat, fun S H σ vx vy I rx ry => by
    cases rx with
    | lst h r =>
      cases ry with
      | lst h' r' =>
        refine ⟨_, _, _, _, rfl, rfl, I.fr.ex _ _ h, I.fr.ex _ _ h', by rw [r.length, r'.length]; exact Nat.le_trans hz (by decide), fun p hp => ?_⟩
        obtain ⟨I2, e2⟩ := I.alloc hp
        exact .at I2 e2 (.lst upd_same ((r.append r').mono e2)) k⟩
/-- one sign in a text -/
theorem xo_inS {c : Nat} {z : Str} (k : Kk (.bl (decide (c ∈ z.cps.toList))) G) : XO X F (compareOp .In) (.str ⟨#[c]⟩) (.str z) G Kk :=
  ⟨_, op_in_sign, fun S H σ vx vy I rx ry => by cases rx; cases ry; exact ⟨c, z, rfl, rfl, .at I Ex.rfl' (.bl _) k⟩⟩
theorem xo_ninS {c : Nat} {z : Str} (k : Kk (.bl (!decide (c ∈ z.cps.toList))) G) : XO X F (compareOp .NotIn) (.str ⟨#[c]⟩) (.str z) G Kk :=
  ⟨_, op_notIn_sign, fun S H σ vx vy I rx ry => by cases rx; cases ry; exact ⟨c, z, rfl, rfl, .at I Ex.rfl' (.bl _) k⟩⟩

/-! items -/
theorem atI_map {α β : Type} {xs : List α} {ys : List β} {k : Int} {d : β} (e : xs.length = ys.length) (ha : atI ys k = some d) (g : ∀ (j : Nat), ys[j]? = some d → ∃ v, xs[j]? = some v) : ∃ v, atI xs k = some v ∧ ∃ j : Nat, ys[j]? = some d ∧ xs[j]? = some v := by
  unfold atI at ha
  cases hx : ixN ys.length k with
  | none => rw [hx] at ha; cases ha
  | some j =>
    rw [hx] at ha
    obtain ⟨v, hv⟩ := g j ha
    refine ⟨v, ?_, j, ha, hv⟩
    unfold atI
    rw [e, hx]
    exact hv
theorem Reps.atI {K : PySem.W.Frag} {S : Hp} {vs : List L2.V} {ds : List D} {k : Int} {d : D} (r : Reps K S vs ds) (ha : L2.atI ds k = some d) : ∃ v, L2.atI vs k = some v ∧ Rep K S v d := by
  obtain ⟨v, h1, j, h2, h3⟩ := atI_map r.length ha (fun j hj => by obtain ⟨v, e, _⟩ := r.get hj; exact ⟨v, e⟩)
  obtain ⟨v', e, rv⟩ := r.get h2
  rw [h3] at e; cases e
  exact ⟨v, h1, rv⟩
theorem xi_lst {ds : List D} {k : Int} {d : D} (ha : atI ds k = some d) (q : Kk d G) : XI X F (.lst ds) (.int k) G Kk :=
  ⟨_, ix_list, fun S H σ vx vy I rx ry => by
    cases ry
    cases rx with
    | lst h r =>
      obtain ⟨v, hv, rv⟩ := r.atI ha
      exact ⟨_, _, k, v, rfl, rfl, SqL.of (I.fr.ex _ _ h), hv, .at I Ex.rfl' rv q⟩⟩
theorem xi_tup {ds : List D} {k : Int} {d : D} (ha : atI ds k = some d) (q : Kk d G) : XI X F (.tup ds) (.int k) G Kk :=
  ⟨_, ix_tup, fun S H σ vx vy I rx ry => by
    cases ry
    cases rx with
    | tup h r =>
      obtain ⟨v, hv, rv⟩ := r.atI ha
      exact ⟨_, _, k, v, rfl, rfl, SqT.of (I.fr.ex _ _ h), hv, .at I Ex.rfl' rv q⟩⟩
theorem xi_str {z : Str} {k : Int} {c : Nat} (hz : z.length ≤ 1000000) (ha : atI z.cps.toList k = some c) (q : Kk (.str ⟨#[c]⟩) G) : XI X F (.str z) (.int k) G Kk :=
  ⟨_, ix_str, fun S H σ vx vy I rx ry => by
    cases ry
    cases rx
    exact ⟨z, k, c, rfl, rfl, Nat.le_trans hz (by decide), ha, .at I Ex.rfl' (.str _) q⟩⟩
theorem xi_scr {ns : List Int} {k : Int} {n : Int} (ha : atI ns k = some n) (q : Kk (.int n) G) : XI X F (.scr ns) (.int k) G Kk :=
  ⟨_, ix_list, fun S H σ vx vy I rx ry => by
    cases ry
    cases rx with
    | scr h =>
      obtain ⟨v, h1, j, h2, h3⟩ := atI_map (xs := ns.map L2.V.int) (by rw [List.length_map]) ha (fun j hj => ⟨_, by rw [List.getElem?_map, hj]; rfl⟩)
      rw [List.getElem?_map, h2] at h3
      cases h3
      exact ⟨_, _, k, _, rfl, rfl, Ex.sl I.fr.ex h, h1, .at I Ex.rfl' (.int n) q⟩⟩

/-! built-ins -/
theorem xe_callB {id : String} {f : Str} {es : List Expr} {e0 : Expr} {p pos : Pos} (hg : Gl X f) (hm : X.mg f = none) (hv : bootBuiltins f = some (.builtin id)) (h : XA X F (e0 :: es) G fun ds G1 => XC X F (.builtin id) ds G1 Kk)
    (hn : f ≠ "__name__" := by decide) (hdb : (f == ("__debug__" : Str)) = false := by decide) (he : starEach (e0 :: es) X.env = (false, eval e0 X.env) :: starEach es X.env := by rfl) (hpl : (backTo pos (starEach es X.env)).any (·.1) = false := by rfl) : XE X F (.Call (.Name f p) (e0 :: es) [] pos) G Kk := by
  intro S H σ I
  have ho : CallR X (.builtin id) (fun vs H Q => ∀ pins s σ us, Inv X pins σ H s → Vals vs us → wpAny (model X.prog X.w) X.A (call (.builtin id) us) (EP X pins σ Q) X.xe s) := fun pins s σ H xs us Q I r h => h pins s σ us I r
  refine semE_of (pe_callB ho hg hm hv pa_sem hn hdb he hpl) ?_
  refine semA_mono (h S H σ I) fun vs H1 ⟨ds, G1, S1, I1, e1, r1, r, hr, q⟩ => ?_
  intro pins s σ' us Iv rv
  exact thn (hr pins s σ' H1 vs us _ Iv rv (q S1 H1 σ vs I1 r1)) fun u' s' ⟨v, H', I', rv', k⟩ => ⟨v, H', I', rv', k.of e1⟩
theorem xe_callTy {T : String} {f : Str} {es : List Expr} {e0 : Expr} {p pos : Pos} (hg : Gl X f) (hm : X.mg f = none) (hv : bootBuiltins f = some (.type T)) (h : XA X F (e0 :: es) G fun ds G1 => XC X F (.type T) ds G1 Kk)
    (hn : f ≠ "__name__" := by decide) (hdb : (f == ("__debug__" : Str)) = false := by decide) (he : starEach (e0 :: es) X.env = (false, eval e0 X.env) :: starEach es X.env := by rfl) (hpl : (backTo pos (starEach es X.env)).any (·.1) = false := by rfl) : XE X F (.Call (.Name f p) (e0 :: es) [] pos) G Kk := by
  intro S H σ I
  have ho : CallR X (.type T) (fun vs H Q => ∀ pins s σ us, Inv X pins σ H s → Vals vs us → wpAny (model X.prog X.w) X.A (call (.type T) us) (EP X pins σ Q) X.xe s) := fun pins s σ H xs us Q I r h => h pins s σ us I r
  refine semE_of (pe_callTy ho hg hm hv pa_sem hn hdb he hpl) ?_
  refine semA_mono (h S H σ I) fun vs H1 ⟨ds, G1, S1, I1, e1, r1, r, hr, q⟩ => ?_
  intro pins s σ' us Iv rv
  exact thn (hr pins s σ' H1 vs us _ Iv rv (q S1 H1 σ vs I1 r1)) fun u' s' ⟨v, H', I', rv', k⟩ => ⟨v, H', I', rv', k.of e1⟩
theorem xc_len_lst {ds : List D} (k : Kk (.int ds.length) G) : XC X F (.builtin "len") [.lst ds] G Kk :=
  ⟨_, call_len_seq, fun S H σ vs I r => by
    cases r with
    | cons h t =>
      cases t
      cases h with
      | lst h r => exact ⟨_, _, rfl, .inl (SqL.of (I.fr.ex _ _ h)), by rw [r.length]; exact .at I Ex.rfl' (.int _) k⟩⟩
theorem xc_len_tup {ds : List D} (k : Kk (.int ds.length) G) : XC X F (.builtin "len") [.tup ds] G Kk :=
  ⟨_, call_len_seq, fun S H σ vs I r => by
    cases r with
    | cons h t =>
      cases t
      cases h with
      | tup h r => exact ⟨_, _, rfl, .inr (SqT.of (I.fr.ex _ _ h)), by rw [r.length]; exact .at I Ex.rfl' (.int _) k⟩⟩
theorem xc_len_scr {ns : List Int} (k : Kk (.int ns.length) G) : XC X F (.builtin "len") [.scr ns] G Kk :=
  ⟨_, call_len_seq, fun S H σ vs I r => by
    cases r with
    | cons h t =>
      cases t
      cases h with
      | scr h => exact ⟨_, _, rfl, .inl (Ex.sl I.fr.ex h), by rw [List.length_map]; exact .at I Ex.rfl' (.int _) k⟩⟩
theorem xc_len_str {z : Str} (hz : z.length ≤ 1000000) (k : Kk (.int z.length) G) : XC X F (.builtin "len") [.str z] G Kk :=
  ⟨_, call_len_str, fun S H σ vs I r => by
    cases r with
    | cons h t =>
      cases t
      cases h
      exact ⟨_, rfl, Nat.le_trans hz (by decide), .at I Ex.rfl' (.int _) k⟩⟩
theorem xc_int {i : Int} (k : Kk (.int i) G) : XC X F (.type "int") [.int i] G Kk :=
  ⟨_, call_int1, fun S H σ vs I r => by
    cases r with
    | cons h t =>
      cases t
      cases h
      exact .inl ⟨_, rfl, .at I Ex.rfl' (.int _) k⟩⟩
theorem xc_list {ds : List D} (k : Kk (.lst ds) G) : XC X F (.type "list") [.lst ds] G Kk :=
  ⟨_, call_list_of, fun S H σ vs I r => by
    cases r with
    | cons h t =>
      cases t
      cases h with
      | lst h r =>
        refine ⟨_, _, rfl, .inl (SqL.of (I.fr.ex _ _ h)), fun p hp => ?_⟩
        obtain ⟨I2, e2⟩ := I.alloc hp
        exact .at I2 e2 (.lst upd_same (r.mono e2)) k⟩
theorem xc_tuple {ds : List D} (k : Kk (.tup ds) G) : XC X F (.type "tuple") [.lst ds] G Kk :=
  ⟨_, call_tuple_of, fun S H σ vs I r => by
    cases r with
    | cons h t =>
      cases t
      cases h with
      | lst h r =>
        refine ⟨_, _, rfl, .inl ⟨SqL.of (I.fr.ex _ _ h), fun p hp => ?_⟩⟩
        obtain ⟨I2, e2⟩ := I.alloc hp
        exact .at I2 e2 (.tup upd_same (r.mono e2)) k⟩
theorem xc_ord {z : Str} (hz : z.length = 1) (k : Kk (.int (z.cps.getD 0 0 : Nat)) G) : XC X F (.builtin "ord") [.str z] G Kk :=
  ⟨_, call_ord, fun S H σ vs I r => by
    cases r with
    | cons h t =>
      cases t
      cases h
      exact ⟨_, rfl, hz, .at I Ex.rfl' (.int _) k⟩⟩
end
end Pu

namespace Pu
open PySem PySem.Spec PyProof.Rows L2

/-! calls of the text's own defs -/
/-- the promise of a def that changes nothing it is handed: R arguments (what is true of the result) -/
def SpD (K : PySem.W.Frag) (R : List D → (D → Prop) → Prop) : Sp := fun vs H Q _ => ∃ S ds Φ, Ex S H ∧ Reps K S vs ds ∧ R ds Φ ∧
  ∀ v S' H' d, Ex S S' → Ex S' H' → Ex H H' → (∀ a, S' a ≠ none → S a ≠ none ∨ H a = none ∨ ∃ vs, H a = some (.tup vs)) → Rep K S' v d → Φ d → Q v H'
/-- the promise of a def that changes its first argument alone: R content arguments (what is true of the result and the content) -/
def SpB (K : PySem.W.Frag) (R : D → List D → (D → D → Prop) → Prop) : Sp := fun vs H Q _ => ∃ S b o c ws ds Φ, vs = .ref b :: ws ∧ Ex S H ∧ S b = none ∧ H b = some o ∧ CRep K S o c ∧ Reps K S ws ds ∧ R c ds Φ ∧
  ∀ v S' H' o' d c', Ex S S' → Ex S' H' → (∀ a u, a ≠ b → H a = some u → H' a = some u) → (∀ a, S' a ≠ none → S a ≠ none ∨ H a = none ∨ ∃ vs, H a = some (.tup vs)) → S' b = none → H' b = some o' → CRep K S' o' c' → Rep K S' v d → Φ d c' → Q v H'

section
variable {X : Cx} {F : Fm} {G : List Sl} {Kk : D → List Sl → Prop} {pos : Pos}
theorem IV.called {K : PySem.W.Frag} {S H S' H' : Hp} {σ : L2.St} (I : IV K F G S H σ) (e1 : Ex S S') (e2 : Ex S' H') (e3 : Ex H H') (n : ∀ a, S' a ≠ none → S a ≠ none ∨ H a = none ∨ ∃ vs, H a = some (.tup vs)) : IV K F G S' H' σ := by
  refine I.step ⟨e2, I.fr.old.tr e1, fun a o q hb => e3 _ _ (I.fr.fr a o q hb), fun a q => ?_, fun b hb => ?_⟩ e1 (fun p o hn hb ho nt => ⟨?_, e3 _ _ ho⟩)
  · rcases n a q with z | z | ⟨vs, z⟩
    · exact I.fr.new a z
    · exact .inr (.inl (I.fr.free z).2)
    · exact I.fr.oldT z
  · obtain ⟨o, h, nt⟩ := I.fr.bor b hb
    exact ⟨o, e3 _ _ h, nt⟩
  · cases h : S' p with
    | none => rfl
    | some u =>
      rcases n p (by rw [h]; intro z; cases z) with z | z | ⟨vs, z⟩
      · exact absurd hn z
      · rw [ho] at z; cases z
      · rw [ho] at z; exact absurd (Option.some.inj z) (nt vs)
theorem xe_call {R : List D → (D → Prop) → Prop} {k : Nat} {f : Addr} {fd : FuncData} {ps : List Str} {x : Str} {e0 : Expr} {es : List Expr} {p : Pos} (Fk : FnOk X.prog X.w X.K X.mg X.base CX0 k f fd ps (SpD X.K R)) (hr : Room k X.A) (hm : X.mg x = some (.ref f)) (hk : PySem.W.keepIn X.K (.ref f) = true) (hb : Binds X.K fd ps [])
    (h : XA X F (e0 :: es) G fun ds G1 => ∃ Φ, R ds Φ ∧ ∀ d, Φ d → Kk d G1) (hg : Gl X x := by rfl) (hdb : (x == ("__debug__" : Str)) = false := by decide)
    (he : starEach (e0 :: es) X.env = (false, eval e0 X.env) :: starEach es X.env := by rfl) (hpl : (backTo pos (starEach es X.env)).any (·.1) = false := by rfl) : XE X F (.Call (.Name x p) (e0 :: es) [] pos) G Kk := by
  intro S H σ I
  refine semE_of (pe_call Fk hr hg hm hk hb .nil pass0 pa_sem hdb he hpl) ?_
  refine semA_mono (h S H σ I) fun vs H1 ⟨ds, G1, S1, I1, e1, r1, Φ, hR, k⟩ => ?_
  rw [List.append_nil]
  exact ⟨S1, ds, Φ, I1.fr.ex, r1, hR, fun v S' H' d a1 a2 a3 a4 rv hd => .at (I1.called a1 a2 a3 a4) (e1.tr a1) rv (k d hd)⟩
theorem xe_call0 {R : List D → (D → Prop) → Prop} {k : Nat} {f : Addr} {fd : FuncData} {ps : List Str} {x : Str} {p : Pos} (Fk : FnOk X.prog X.w X.K X.mg X.base CX0 k f fd ps (SpD X.K R)) (hr : Room k X.A) (hm : X.mg x = some (.ref f)) (hk : PySem.W.keepIn X.K (.ref f) = true) (hb : Binds X.K fd ps [])
    (h : ∃ Φ, R [] Φ ∧ ∀ d, Φ d → Kk d G) (hg : Gl X x := by rfl) (hdb : (x == ("__debug__" : Str)) = false := by decide) : XE X F (.Call (.Name x p) [] [] pos) G Kk := by
  intro S H σ I
  obtain ⟨Φ, hR, k⟩ := h
  refine semE_of (pe_call0 Fk hr hg hm hk hb .nil pass0 hdb) ?_
  exact ⟨S, [], Φ, I.fr.ex, .nil, hR, fun v S' H' d a1 a2 a3 a4 rv hd => .at (I.called a1 a2 a3 a4) a1 rv (k d hd)⟩
/-- f(box, ..), the box the slot's own -/
theorem xe_callB1 (i : Nat) {R : D → List D → (D → D → Prop) → Prop} {k : Nat} {f : Addr} {fd : FuncData} {ps : List Str} {x y : Str} {es : List Expr} {p p2 : Pos} (Fk : FnOk X.prog X.w X.K X.mg X.base CX0 k f fd ps (SpB X.K R)) (hr : Room k X.A) (hm : X.mg x = some (.ref f)) (hk : PySem.W.keepIn X.K (.ref f) = true) (hb : Binds X.K fd ps [])
    (hG : ∃ q c, G[i]? = some (.ow q c)) (h : XA X F es G fun ds G1 => ∃ q c Φ, G1[i]? = some (.ow q c) ∧ R c ds Φ ∧ ∀ d c', Φ d c' → Kk d (G1.set i (.ow q c'))) (hg : Gl X x := by rfl) (hdb : (x == ("__debug__" : Str)) = false := by decide)
    (hN : X.N[i]? = some y := by rfl) (hv : Vis X.env.scope y := by first | exact Or.inl rfl | exact Or.inr (Or.inl rfl) | exact Or.inr (Or.inr rfl)) (hd : (y == ("__debug__" : Str)) = false := by decide) (hcd : (y == ("__classdict__" : Str)) = false := by decide)
    (he : starEach (.Name y p2 :: es) X.env = (false, eval (.Name y p2) X.env) :: starEach es X.env := by rfl) (hpl : (backTo pos (starEach es X.env)).any (·.1) = false := by rfl) : XE X F (.Call (.Name x p) (.Name y p2 :: es) [] pos) G Kk := by
  intro S H σ I
  obtain ⟨_, c, hc⟩ := hG
  obtain ⟨b, _, eb, _⟩ := I.ow hc
  refine semE_of (pe_call Fk hr hg hm hk hb .nil pass0 (pa_cons (pe_var hN hv hd hcd) pa_sem he) hdb he hpl) ?_
  refine ⟨_, eb, ?_⟩
  refine semA_mono (h S H σ I) fun vs H1 ⟨ds, G1, S1, I1, e1, r1, q0, c, Φ, g1, hR, k⟩ => ?_
  show SpB X.K R (L2.V.ref b :: vs ++ []) H1 _ E0
  rw [List.append_nil]
  obtain ⟨b', o, eb', n, hb', ho, rc⟩ := I1.ow g1
  rw [eb] at eb'; cases eb'
  refine ⟨S1, b, o, c, vs, ds, Φ, rfl, I1.fr.ex, n, ho, rc, r1, hR, fun v S' H' o' d c' a1 a2 a3 a4 a5 a6 a7 rv hd => ?_⟩
  refine .at ?_ (e1.tr a1) rv (k d c' hd)
  -- first the stable part and all but b, then b is written
  have hb2 : H' = upd (fun a => if a = b then some o else H' a) b o' := by
    funext a
    by_cases ha : a = b
    · subst ha; rw [upd_same]; exact a6
    · rw [upd_ne ha]; exact (if_neg ha).symm
  have h2b : (fun a => if a = b then some o else H' a) b = some o := if_pos rfl
  have I2 : IV X.K F G1 S' (fun a => if a = b then some o else H' a) σ := by
    refine I1.called a1 (fun a u q => ?_) (fun a u q => ?_) a4
    · show (if a = b then some o else H' a) = some u
      rw [if_neg (fun z => by subst z; rw [a5] at q; cases q)]
      exact a2 a u q
    · show (if a = b then some o else H' a) = some u
      by_cases ha : a = b
      · subst ha; rw [if_pos rfl]; rw [ho] at q; exact q
      · rw [if_neg ha]; exact a3 a u ha q
  rw [hb2]
  exact I2.write g1 eb a7
end

/-! statements -/
section
variable {X : Cx} {F : Fm} {G : List Sl} {P : Pst} {e : Expr} {pos : Pos}
theorem xss_nil (k : P.nx G) : XSs X F [] G P := fun S H σ E I ok => semSs_of pss_nil (ok.nx G S H σ I Ex.rfl' k)
theorem xss {st : Stmt} {rest : List Stmt} (h : XS X F st G { P with nx := fun G1 => XSs X F rest G1 P }) : XSs X F (st :: rest) G P := fun S H σ E I ok => by
  refine semSs_of (pss_cons ps_sem pss_sem) ?_
  exact h S H σ _ I ⟨fun G1 S1 H1 σ1 I1 e1 k => k S1 H1 σ1 E I1 (ok.later e1), ok.rt, ok.bk, ok.ct, ok.ro⟩
theorem xs_pass (k : P.nx G) : XS X F (.Pass pos) G P := fun S H σ E I ok => semS_of ps_pass (ok.nx G S H σ I Ex.rfl' k)
theorem xs_break (k : P.bk G) : XS X F (.Break pos) G P := fun S H σ E I ok => semS_of ps_break (ok.bk G S H σ I Ex.rfl' k)
theorem xs_cont (k : P.ct G) : XS X F (.Continue pos) G P := fun S H σ E I ok => semS_of ps_continue (ok.ct G S H σ I Ex.rfl' k)
theorem xs_ret (h : XE X F e G P.rt) : XS X F (.Return (some e) pos) G P := fun S H σ E I ok => semS_of (ps_ret pe_sem) (semE_mono (h S H σ I) fun v H1 ⟨d, G1, S1, I1, e1, r, k⟩ => ok.rt d v G1 S1 H1 σ I1 e1 r k)
theorem xs_retN (k : P.rt .non G) : XS X F (.Return none pos) G P := fun S H σ E I ok => semS_of ps_retN (ok.rt .non .non G S H σ I Ex.rfl' .non k)
theorem xs_expr (h : XE X F e G fun _ G1 => P.nx G1) (hs : swapsWith e none pos.line X.env = pure false := by rfl) : XS X F (.Expr e pos) G P := fun S H σ E I ok => semS_of (ps_expr pe_sem hs) (semE_mono (h S H σ I) fun v H1 ⟨d, G1, S1, I1, e1, r, k⟩ => ok.nx G1 S1 H1 σ I1 e1 k)
theorem xs_if {c : Expr} {t u : List Stmt} (h : XT X F c G fun b G1 => (b = true → XSs X F t G1 P) ∧ (b = false → XSs X F u G1 P)) : XS X F (.If c t u pos) G P := fun S H σ E I ok => by
  refine semS_of (ps_if pt_sem pss_sem pss_sem) ?_
  refine semT_mono (h S H σ I) fun b H1 ⟨G1, S1, I1, e1, k1, k2⟩ => ?_
  cases b with
  | true => exact iteT (k1 rfl S1 H1 σ E I1 (ok.later e1))
  | false => exact iteF (k2 rfl S1 H1 σ E I1 (ok.later e1))
theorem xs_set (i : Nat) {x : Str} {pos' : Pos} (hn : X.N.Nodup) (h : XE X F e G fun d G1 => P.nx (G1.set i (.va d))) (hi : X.N[i]? = some x := by rfl) (hx : Loc X.env.scope x := by first | exact Or.inl rfl | exact Or.inr rfl) (hs : swapsWith e (some (.Name x pos')) pos.line X.env = pure false := by rfl)
    (hf : X.fn x = true ∨ X.env.scope.names.lookup x = some .local := by first | exact .inl rfl | exact .inr rfl | assumption) : XS X F (.Assign [.Name x pos'] e pos) G P := fun S H σ E I ok => by
  refine semS_of (ps_set hn hi hx pe_sem hs hf) ?_
  exact semE_mono (h S H σ I) fun v H1 ⟨d, G1, S1, I1, e1, r, k⟩ => ok.nx _ S1 H1 _ (I1.set r) e1 k
/-- x = [..]: the slot's own -/
theorem xs_own (i : Nat) {x : Str} {es : List Expr} {p1 pos' : Pos} (hn : X.N.Nodup) (h : XA X F es G fun ds G1 => ds.length ≤ 100000 ∧ P.nx (G1.set i (.ow false (.lst ds)))) (hi : X.N[i]? = some x := by rfl) (hx : Loc X.env.scope x := by first | exact Or.inl rfl | exact Or.inr rfl) (hs : swapsWith (.List es p1) (some (.Name x pos')) pos.line X.env = pure false := by rfl)
    (hf : X.fn x = true ∨ X.env.scope.names.lookup x = some .local := by first | exact .inl rfl | exact .inr rfl | assumption) : XS X F (.Assign [.Name x pos'] (.List es p1) pos) G P := fun S H σ E I ok => by
  refine semS_of (ps_set hn hi hx (pe_lst pa_sem) hs hf) ?_
  refine semA_mono (h S H σ I) fun vs H1 ⟨ds, G1, S1, I1, e1, r1, hz, k⟩ => ⟨by rw [r1.length]; exact Nat.le_trans hz (by decide), fun p hp => ?_⟩
  exact ok.nx _ S1 _ _ (I1.own hp (.lst r1)) e1 k
/-- o[i] = v, o the slot's own list -/
theorem xs_sub (i : Nat) {x : Str} {ix : Expr} {p1 p2 : Pos} (hG : ∃ q c, G[i]? = some (.ow q c)) (h : XE X F e G fun d G1 => XE X F ix G1 fun y G2 => ∃ q ds k j, G2[i]? = some (.ow q (.lst ds)) ∧ y = .int k ∧ ixN ds.length k = some j ∧ P.nx (G2.set i (.ow q (.lst (ds.set j d)))))
    
    (hN : X.N[i]? = some x := by rfl) (hv : Vis X.env.scope x := by first | exact Or.inl rfl | exact Or.inr (Or.inl rfl) | exact Or.inr (Or.inr rfl)) (hd : (x == ("__debug__" : Str)) = false := by decide) (hcd : (x == ("__classdict__" : Str)) = false := by decide)
    (ha : ∀ v, assign (.Subscript (.Name x p1) ix p2) X.env v = (do
      let ov ← holding [v] (eval (.Name x p1) X.env)
      let iv ← holding [v, ov] (eval ix X.env)
      standAt p2
      holding [v, ov, iv] (setItem ov iv v)
      release [v, ov, iv] []) := by intro _; rfl)
    (hs : swapsWithSole [.Subscript (.Name x p1) ix p2] e pos.line X.env = pure false := by rfl) (hw : swappedStores [.Subscript (.Name x p1) ix p2] e X.env = pure none := by rfl)
    (h1 : (assignEach [.Subscript (.Name x p1) ix p2] X.env).map (·.2) = [assign (.Subscript (.Name x p1) ix p2) X.env] := by rfl) : XS X F (.Assign [.Subscript (.Name x p1) ix p2] e pos) G P := fun S H σ E I ok => by
  obtain ⟨_, c, hc⟩ := hG
  obtain ⟨p0, _, ep0, _⟩ := I.ow hc
  refine semS_of (ps_asg pe_sem (pg_sub (pe_var hN hv hd hcd) pe_sem set_list ha) hs hw h1) ?_
  refine semE_mono (h S H σ I) fun v H1 ⟨d, G1, S1, I1, e1, r1, q1⟩ => ?_
  refine ⟨_, ep0, ?_⟩
  refine semE_mono (q1 S1 H1 σ I1) fun v2 H2 ⟨y, G2, S2, I2, e2, r2, _, ds, k, j, g2, ey, hj, q⟩ => ?_
  subst ey
  cases r2
  obtain ⟨p, o, ep, n, hb, ho, r⟩ := I2.ow g2
  rw [ep0] at ep
  cases ep
  cases r with
  | @lst vs _ r =>
    refine ⟨_, vs, k, j, rfl, rfl, ho, by rw [r.length]; exact hj, ?_⟩
    exact ok.nx _ S2 _ σ (I2.write g2 ep0 (.lst (Reps.set (r1.mono e2) j r))) (e1.tr e2) q
/-- x.append(e), x the slot's own list -/
theorem xs_app (i : Nat) {x : Str} {p1 p2 p3 : Pos} (hG : ∃ q ds, G[i]? = some (.ow q (.lst ds))) (h : XE X F e G fun d G1 => ∃ q ds, G1[i]? = some (.ow q (.lst ds)) ∧ ds.length < 1000000 ∧ P.nx (G1.set i (.ow q (.lst (ds ++ [d])))))
    
    (hN : X.N[i]? = some x := by rfl) (hv : Vis X.env.scope x := by first | exact Or.inl rfl | exact Or.inr (Or.inl rfl) | exact Or.inr (Or.inr rfl)) (hd : (x == ("__debug__" : Str)) = false := by decide) (hcd : (x == ("__classdict__" : Str)) = false := by decide)
    (hbase : attributeBase (.Name x p1) "append" X.env (eval (.Name x p1) X.env) = eval (.Name x p1) X.env := by rfl)
    (hfew : ((backTo p3 (starEach [e] X.env)).all (fun x => !x.1) && (backToKw p3 (keywordEach [] X.env)).all (fun x => x.1.isSome)
      && decide (([e] : List Expr).length + ([] : List Keyword).length + (if ([] : List Keyword).isEmpty then 0 else 1) < 30)) = true := by rfl)
    (hline : (p2.endLine == p3.line) = true := by rfl) (hs : starEach [e] X.env = (false, eval e X.env) :: starEach [] X.env := by rfl) (hplain : (backTo p3 (starEach [] X.env)).any (·.1) = false := by rfl)
    (hsw : swapsWith (.Call (.Attribute (.Name x p1) "append" p2) [e] [] p3) none pos.line X.env = pure false := by rfl) :
    XS X F (.Expr (.Call (.Attribute (.Name x p1) "append" p2) [e] [] p3) pos) G P := fun S H σ E I ok => by
  obtain ⟨_, ds0, hc⟩ := hG
  obtain ⟨p0, o0, ep0, _, _, ho0, rc0⟩ := I.ow hc
  refine semS_of (ps_expr (pe_bm PySem.F.plainAttrs_list PySem.F.slot_list_append PySem.F.type_list_append (mt_append) (pe_var hN hv hd hcd) (pa_cons pe_sem pa_nil hs) hbase hfew hline hs hplain) hsw) ?_
  refine ⟨_, ep0, ?_, ?_⟩
  · cases rc0 with
    | lst r => exact .inl ⟨rfl, _, SqL.of ho0⟩
  refine semE_mono (h S H σ I) fun v H1 ⟨d, G1, S1, I1, e1, r1, _, ds, g1, hz, q⟩ => ?_
  obtain ⟨p, o, ep, n, hb, ho, r⟩ := I1.ow g1
  rw [ep0] at ep
  cases ep
  cases r with
  | @lst vs _ r =>
    refine ⟨_, vs, v, rfl, rfl, ho, by rw [r.length]; exact Nat.lt_trans hz (by decide), ?_⟩
    exact ok.nx _ S1 _ σ (I1.write g1 ep0 (.lst (r.append (.cons r1 .nil)))) e1 q

end

/-! a def's body keeps its promise -/
abbrev CXf (P : Program) (w : World) (K : PySem.W.Frag) (mg : Str → Option Value) (base : Heap) (N : List Str) (nm : Str) (st : Stmt) (f : Addr) (cdv : Value) (A : Around) (outer : List Env) (s : Shared) (H : Hp) (E : XK) : Cx :=
  (cxOf CX0 P w K mg base N nm (defScope st) f cdv A outer s H E).nox
theorem Reps.start {K : PySem.W.Frag} {F : Fm} {S H : Hp} (fr : Frame F S H) : ∀ {vs : List L2.V} {ds : List D} (n : Nat), Reps K S vs ds → IV K F (ds.map Sl.va ++ List.replicate n .no) S H (vs.map some ++ List.replicate n none) := by
  intro vs ds n r
  refine ⟨fr, by simp [r.length], fun _ => 0, fun i s hs => ?_, fun i j q c q2 e hi hj _ => ?_⟩
  · by_cases hi : i < ds.length
    · have hv : i < vs.length := by rw [r.length]; exact hi
      rw [List.getElem?_append_left (by rw [List.length_map]; exact hi), List.getElem?_map] at hs
      rw [List.getElem?_append_left (by rw [List.length_map]; exact hv), List.getElem?_map]
      obtain ⟨v, ev, rv⟩ := r.get (List.getElem?_eq_getElem hi)
      rw [List.getElem?_eq_getElem hi] at hs
      cases hs
      rw [ev]
      exact ⟨v, rfl, rv⟩
    · rw [List.getElem?_append_right (by rw [List.length_map]; omega)] at hs
      have := List.mem_of_getElem? hs
      rw [List.eq_of_mem_replicate this]
      trivial
  · by_cases h : i < ds.length
    · rw [List.getElem?_append_left (by rw [List.length_map]; exact h), List.getElem?_map, List.getElem?_eq_getElem h] at hi
      cases hi
    · rw [List.getElem?_append_right (by rw [List.length_map]; omega)] at hi
      have := List.eq_of_mem_replicate (List.mem_of_getElem? hi)
      cases this
section
variable {P : Program} {w : World} {K : PySem.W.Frag} {mg : Str → Option Value} {base : Heap}
theorem fn_okD {N ps : List Str} {nm : Str} {st : Stmt} {f : Addr} {fd : FuncData} {k : Nat} {R : List D → (D → Prop) → Prop} (Fn : Fun K nm nm st f fd) (Sc : FnScope N ps (defScope st)) (len : ∀ ds Φ, R ds Φ → ds.length = ps.length)
    (body : ∀ cdv A outer s H E F, Room k (A.deeper (envOfC nm (defScope st) s.heap.objs.size f cdv)) → ∀ ds Φ, R ds Φ →
      XSs (CXf P w K mg base N nm st f cdv A outer s H E) F (defBody st) (ds.map Sl.va ++ List.replicate (N.length - ds.length) .no) { nx := fun _ => Φ .non, rt := fun d' _ => Φ d' }) : FnOk P w K mg base CX0 (k + 1) f fd ps (SpD K R) := by
  refine Fn.ok Sc (fun vs H Q E h => ?_) (fun cdv A outer s H vs Q E hr h => ?_)
  · obtain ⟨S, ds, Φ, _, r, hR, _⟩ := h
    rw [r.length, len ds Φ hR]
  · obtain ⟨S, ds, Φ, e, r, hR, q⟩ := h
    refine ⟨_, pss_sem, ?_⟩
    have fr : Frame ⟨H, S, []⟩ S H := ⟨e, Ex.rfl', fun a o h _ => h, fun a h => .inl h, fun b hb => nomatch hb⟩
    refine body cdv A outer s H E ⟨H, S, []⟩ hr ds Φ hR S H (L2.start N vs) _ ?_ ⟨fun G S' H' σ I _ ed => ?_, fun d' v G S' H' σ I _ rv ed => ?_, fun _ _ _ _ _ _ z => z.elim, fun _ _ _ _ _ _ z => z.elim, fun _ _ _ _ _ _ _ _ _ _ _ _ _ z => z.elim⟩
    · have := Reps.start (F := ⟨H, S, []⟩) fr (N.length - ds.length) r
      rw [← r.length] at this ⊢
      exact this
    · exact q .non S' H' .non I.fr.old I.fr.ex (fun a o h => I.fr.fr a o h (by intro z; cases z)) I.fr.new .non ed
    · exact q v S' H' d' I.fr.old I.fr.ex (fun a o h => I.fr.fr a o h (by intro z; cases z)) I.fr.new rv ed
theorem fn_okB {N ps : List Str} {nm : Str} {st : Stmt} {f : Addr} {fd : FuncData} {k : Nat} {R : D → List D → (D → D → Prop) → Prop} (Fn : Fun K nm nm st f fd) (Sc : FnScope N ps (defScope st)) (len : ∀ c ds Φ, R c ds Φ → ds.length + 1 = ps.length)
    (body : ∀ cdv A outer s H E F, Room k (A.deeper (envOfC nm (defScope st) s.heap.objs.size f cdv)) → ∀ c ds Φ, R c ds Φ →
      XSs (CXf P w K mg base N nm st f cdv A outer s H E) F (defBody st) (.ow true c :: (ds.map Sl.va ++ List.replicate (N.length - (ds.length + 1)) .no)) { nx := fun G => ∃ c', G[0]? = some (.ow true c') ∧ Φ .non c', rt := fun d' G => ∃ c', G[0]? = some (.ow true c') ∧ Φ d' c' }) : FnOk P w K mg base CX0 (k + 1) f fd ps (SpB K R) := by
  refine Fn.ok Sc (fun vs H Q E h => ?_) (fun cdv A outer s H vs Q E hr h => ?_)
  · obtain ⟨S, b, o, c, ws, ds, Φ, rfl, _, _, _, _, r, hR, _⟩ := h
    rw [List.length_cons, r.length, len c ds Φ hR]
  · obtain ⟨S, b, o, c, ws, ds, Φ, rfl, e, hb, ho, rc, r, hR, q⟩ := h
    refine ⟨_, pss_sem, ?_⟩
    have fr : Frame ⟨H, S, [b]⟩ S H := ⟨e, Ex.rfl', fun a o h _ => h, fun a h => .inl h, fun a ha => by
      have ea : a = b := by simpa using ha
      subst ea; exact ⟨o, ho, rc.nt⟩⟩
    have fin : ∀ (v : L2.V) (d' c' : D) G S' H' σ, IV K ⟨H, S, [b]⟩ G S' H' σ → Rep K S' v d' → Φ d' c' → G[0]? = some (.ow true c') → Q v H' := fun v d' c' G S' H' σ I rv ed eg => by
      obtain ⟨p, o', ep, n, hb', ho', rc'⟩ := I.ow eg
      have epb : p = b := by
        rcases hb' with ⟨z, _⟩ | ⟨_, z⟩
        · cases z
        · simpa using z
      subst epb
      exact q v S' H' o' d' c' I.fr.old I.fr.ex (fun a u hne h => I.fr.fr a u h (by simpa using hne)) I.fr.new n ho' rc' rv ed
    refine body cdv A outer s H E ⟨H, S, [b]⟩ hr c ds Φ hR S H (L2.start N (.ref b :: ws)) _ ?_ ⟨fun G S' H' σ I _ ed => ?_, fun d' v G S' H' σ I _ rv ed => ?_, fun _ _ _ _ _ _ z => z.elim, fun _ _ _ _ _ _ z => z.elim, fun _ _ _ _ _ _ _ _ _ _ _ _ _ z => z.elim⟩
    · have I0 := Reps.start (F := ⟨H, S, [b]⟩) fr (N.length - (ds.length + 1)) r
      obtain ⟨ad, h1, h2⟩ := I0.sl
      have nov : ∀ (i : Nat) q c, (ds.map Sl.va ++ List.replicate (N.length - (ds.length + 1)) Sl.no)[i]? ≠ some (.ow q c) := fun i q c z => by
        have hm := List.mem_of_getElem? z
        rcases List.mem_append.mp hm with m | m
        · obtain ⟨_, _, e⟩ := List.mem_map.mp m; cases e
        · have := List.eq_of_mem_replicate m; cases this
      have es : L2.start N (.ref b :: ws) = some (.ref b) :: (ws.map some ++ List.replicate (N.length - (ds.length + 1)) none) := by
        unfold L2.start
        rw [List.length_cons, r.length]; rfl
      rw [es]
      refine ⟨fr, by simp [r.length], fun i => if i = 0 then b else ad (i - 1), fun i s hs => ?_, fun i j q1 c1 q2 c2 hi hj _ => ?_⟩
      · cases i with
        | zero =>
          cases hs
          exact ⟨rfl, hb, .inr ⟨rfl, by simp⟩, o, ho, rc⟩
        | succ i => exact h1 i s (by simpa using hs)
      · cases i with
        | zero =>
          cases j with
          | zero => rfl
          | succ j => exact absurd (by simpa using hj) (nov j q2 c2)
        | succ i => exact absurd (by simpa using hi) (nov i q1 c1)
    · obtain ⟨c', e1, e2⟩ := ed
      exact fin .non .non c' G S' H' σ I .non e2 e1
    · obtain ⟨c', e1, e2⟩ := ed
      exact fin v d' c' G S' H' σ I rv e2 e1
end
end Pu

namespace Pu
open PySem PySem.Spec PyProof.Rows L2

/-! what is known, and less -/
inductive Cov : List Sl → List Sl → Prop where
  | nil : Cov [] []
  | same {s : Sl} {G T : List Sl} (h : Cov G T) : Cov (s :: G) (s :: T)
  | skip {s : Sl} {G T : List Sl} (h : Cov G T) : Cov (s :: G) (.no :: T)
theorem Cov.rfl' : ∀ {G : List Sl}, Cov G G
  | [] => .nil
  | _ :: _ => .same Cov.rfl'
theorem Cov.length : ∀ {G T : List Sl}, Cov G T → T.length = G.length
  | _, _, .nil => rfl
  | _, _, .same h => by rw [List.length_cons, List.length_cons, h.length]
  | _, _, .skip h => by rw [List.length_cons, List.length_cons, h.length]
theorem Cov.at : ∀ {G T : List Sl}, Cov G T → ∀ (i : Nat) (s : Sl), T[i]? = some s → s = Sl.no ∨ G[i]? = some s
  | _, _, .nil, i, s, e => by simp at e
  | _, _, .same h, 0, s, e => by simp at e; subst e; exact .inr rfl
  | _, _, .same h, i + 1, s, e => h.at i s (by simpa using e)
  | _, _, .skip h, 0, s, e => by simp at e; subst e; exact .inl rfl
  | _, _, .skip h, i + 1, s, e => h.at i s (by simpa using e)
section
variable {K : PySem.W.Frag} {F : Fm} {G T : List Sl} {S H : Hp} {σ : L2.St} {X : Cx} {P : Pst}
theorem IV.cov (I : IV K F G S H σ) (c : Cov G T) : IV K F T S H σ := I.weak c.length c.at
theorem XSs.cov {sts : List Stmt} (c : Cov G T) (h : XSs X F sts T P) : XSs X F sts G P := fun S H σ E I ok => h S H σ E (I.cov c) ok
theorem XE.cov {e : Expr} {Kk : D → List Sl → Prop} (c : Cov G T) (h : XE X F e T Kk) : XE X F e G Kk := fun S H σ I => h S H σ (I.cov c)
/-- a statement, then the rest, from what is said between them -/
theorem xss_mid {st : Stmt} {rest : List Stmt} (M : List Sl → Prop) (h : XS X F st G { P with nx := fun G1 => ∃ T, M T ∧ Cov G1 T }) (k : ∀ T, M T → XSs X F rest T P) : XSs X F (st :: rest) G P :=
  xss fun S H σ E I ok => h S H σ E I ⟨fun G1 S1 H1 σ1 I1 e1 ⟨T, m, c⟩ => ok.nx G1 S1 H1 σ1 I1 e1 ((k T m).cov c), ok.rt, ok.bk, ok.ct, ok.ro⟩
end

/-! targets -/
def semG (X : Cx) (tg : Expr) : TG := fun v σ H Q => ∀ pins s u, Inv X pins σ H s → RelV v u → wpAny (model X.prog X.w) X.A (assign tg X.env u) (fun _ s' => ∃ σ' H', Inv X pins σ' H' s' ∧ Q σ' H') X.xe s
def semGs (X : Cx) (ts : List Expr) : TGs := fun vs σ H Q => ∀ pins s us, Inv X pins σ H s → Vals vs us → wpAny (model X.prog X.w) X.A (assignInOrder ((assignEach ts X.env).map (·.2)) us) (fun _ s' => ∃ σ' H', Inv X pins σ' H' s' ∧ Q σ' H') X.xe s
/-- the slots that may change: ws -/
def Keeps (ws : Nat → Bool) (σ σ' : L2.St) : Prop := σ'.length = σ.length ∧ ∀ (j : Nat), ws j = false → σ'[j]? = σ[j]?
abbrev allW : Nat → Bool := fun _ => true
theorem Keeps.refl {ws : Nat → Bool} {σ : L2.St} : Keeps ws σ σ := ⟨rfl, fun _ _ => rfl⟩
def XG (X : Cx) (F : Fm) (tg : Expr) (d : D) (G : List Sl) (ws : Nat → Bool) (Kk : List Sl → Prop) : Prop := ∀ S H σ v, IV X.K F G S H σ → Rep X.K S v d → semG X tg v σ H (fun σ' H' => ∃ G' S', IV X.K F G' S' H' σ' ∧ Ex S S' ∧ Keeps ws σ σ' ∧ Kk G')
def XGs (X : Cx) (F : Fm) (ts : List Expr) (ds : List D) (G : List Sl) (ws : Nat → Bool) (Kk : List Sl → Prop) : Prop := ∀ S H σ vs, IV X.K F G S H σ → Reps X.K S vs ds → semGs X ts vs σ H (fun σ' H' => ∃ G' S', IV X.K F G' S' H' σ' ∧ Ex S S' ∧ Keeps ws σ σ' ∧ Kk G')
section
variable {X : Cx} {F : Fm} {G : List Sl} {pos : Pos} {Kk : List Sl → Prop} {ws : Nat → Bool}
theorem pg_sem {tg : Expr} : PG X tg (semG X tg) := ⟨fun pins s _ _ _ u _ I r h => h pins s u I r⟩
theorem pgs_sem {ts : List Expr} : PGs X ts (semGs X ts) := ⟨fun pins s _ _ _ us _ I r h => h pins s us I r⟩
theorem semG_of {tg : Expr} {t : TG} (h : PG X tg t) {v : L2.V} {σ : L2.St} {H : Hp} {Q : L2.St → Hp → Prop} (q : t v σ H Q) : semG X tg v σ H Q := fun pins s u I r => h.run pins s σ H v u Q I r q
theorem semGs_of {ts : List Expr} {t : TGs} (h : PGs X ts t) {vs : List L2.V} {σ : L2.St} {H : Hp} {Q : L2.St → Hp → Prop} (q : t vs σ H Q) : semGs X ts vs σ H Q := fun pins s us I r => h.run pins s σ H vs us Q I r q
theorem semG_mono {tg : Expr} {v : L2.V} {σ : L2.St} {H : Hp} {Q Q' : L2.St → Hp → Prop} (h : semG X tg v σ H Q) (k : ∀ σ' H', Q σ' H' → Q' σ' H') : semG X tg v σ H Q' := fun pins s u I r =>
  thn (h pins s u I r) fun _ _ ⟨σ', H', I', q⟩ => ⟨σ', H', I', k σ' H' q⟩
theorem semGs_mono {ts : List Expr} {vs : List L2.V} {σ : L2.St} {H : Hp} {Q Q' : L2.St → Hp → Prop} (h : semGs X ts vs σ H Q) (k : ∀ σ' H', Q σ' H' → Q' σ' H') : semGs X ts vs σ H Q' := fun pins s us I r =>
  thn (h pins s us I r) fun _ _ ⟨σ', H', I', q⟩ => ⟨σ', H', I', k σ' H' q⟩
theorem xg_n (i : Nat) {x : Str} {d : D} (hn : X.N.Nodup) (k : Kk (G.set i (.va d))) (hi : X.N[i]? = some x := by rfl) (hx : Loc X.env.scope x := by first | exact Or.inl rfl | exact Or.inr rfl)
    (hf : X.fn x = true ∨ X.env.scope.names.lookup x = some .local := by first | exact .inl rfl | exact .inr rfl | assumption) (hw : ws i = true := by rfl) : XG X F (.Name x pos) d G ws Kk := fun S H σ v I r =>
  semG_of (pg_name hn hi hx hf) ⟨_, S, I.set r, Ex.rfl', ⟨by rw [List.length_set], fun j hj => List.getElem?_set_ne (fun z => by rw [z] at hw; rw [hw] at hj; cases hj)⟩, k⟩
theorem xgs_nil (k : Kk G) : XGs X F [] [] G ws Kk := fun S H σ vs I r => by
  cases r
  exact semGs_of pgs_nil ⟨rfl, G, S, I, Ex.rfl', .refl, k⟩
theorem xgs_cons {t : Expr} {ts : List Expr} {d : D} {ds : List D} (h : XG X F t d G ws fun G1 => XGs X F ts ds G1 ws Kk) (hs : (assignEach (t :: ts) X.env).map (·.2) = assign t X.env :: (assignEach ts X.env).map (·.2) := by rfl) : XGs X F (t :: ts) (d :: ds) G ws Kk := fun S H σ vs I r => by
  cases r with
  | cons r0 rs =>
    refine semGs_of (pgs_cons pg_sem pgs_sem hs) ⟨_, _, rfl, ?_⟩
    refine semG_mono (h S H σ _ I r0) fun σ1 H1 ⟨G1, S1, I1, e1, w1', k1⟩ => ?_
    exact semGs_mono (k1 S1 H1 σ1 _ I1 (rs.mono e1)) fun σ2 H2 ⟨G2, S2, I2, e2, w2', k2⟩ => ⟨G2, S2, I2, e1.tr e2, ⟨w2'.1.trans w1'.1, fun j hj => (w2'.2 j hj).trans (w1'.2 j hj)⟩, k2⟩
theorem xg_tup {es : List Expr} {k : Nat} {ds : List D} (h : XGs X F es ds G ws Kk) (hl : ds.length = es.length) (hc : X.calm = true := by rfl) (hn : (assignEach es X.env).length = es.length := by rfl) (hst : (assignEach es X.env).findIdx? (·.1) = none := by rfl) : XG X F (.Tuple es k pos) (.tup ds) G ws Kk := fun S H σ v I r => by
  cases r with
  | tup hs r =>
    exact semG_of (pg_tup hc pgs_sem hn hst) ⟨_, _, rfl, SqT.of (I.fr.ex _ _ hs), by rw [r.length, hl], h S H σ _ I r⟩
/-- a, b = e -/
theorem xs_tup {P : Pst} {e tg : Expr} (h : XE X F e G fun d G1 => XG X F tg d G1 allW P.nx) (hs : swapsWithSole [tg] e pos.line X.env = pure false := by rfl) (hw : swappedStores [tg] e X.env = pure none := by rfl)
    (h1 : (assignEach [tg] X.env).map (·.2) = [assign tg X.env] := by rfl) : XS X F (.Assign [tg] e pos) G P := fun S H σ E I ok => by
  refine semS_of (ps_asg pe_sem pg_sem hs hw h1) ?_
  refine semE_mono (h S H σ I) fun v H1 ⟨d, G1, S1, I1, e1, r1, q1⟩ => ?_
  exact semG_mono (q1 S1 H1 σ v I1 r1) fun σ2 H2 ⟨G2, S2, I2, e2, _, k2⟩ => ok.nx G2 S2 H2 σ2 I2 (e1.tr e2) k2
end

/-! what is walked -/
structure Wk (K : PySem.W.Frag) (J : It) (ds : List D) (S1 : Hp) : Prop where
  go : ∀ F G S H σ i, IV K F G S H σ → Ex S1 S → i < ds.length → J.go i H
  yld : ∀ F G S H σ i d x H', IV K F G S H σ → Ex S1 S → ds[i]? = some d → J.yld i H x H' → ∃ S', IV K F G S' H' σ ∧ Ex S S' ∧ Rep K S' x d
  stop : ∀ F G S H σ, IV K F G S H σ → Ex S1 S → J.stop ds.length H
/-- the data that an iterable gives, in order -/
def semI (X : Cx) (tg iter : Expr) : TI := fun σ H R => ∀ pins s, Inv X pins σ H s → wpAny (model X.prog X.w) X.A (eval iter X.env) (fun v s1 => wpAny (model X.prog X.w) X.A (pyIter v) (PIE X pins σ tg R) X.xe s1) X.xe s
theorem pi_sem {X : Cx} {tg iter : Expr} : PI X tg iter (semI X tg iter) := ⟨fun pins s _ _ _ I h => h pins s I⟩
theorem semI_of {X : Cx} {tg iter : Expr} {wi : TI} (h : PI X tg iter wi) {σ : L2.St} {H : Hp} {R : It → Hp → Prop} (q : wi σ H R) : semI X tg iter σ H R := fun pins s I => h.run pins s σ H R I q
theorem semI_mono {X : Cx} {tg iter : Expr} {σ : L2.St} {H : Hp} {R R' : It → Hp → Prop} (h : semI X tg iter σ H R) (k : ∀ J H', R J H' → R' J H') : semI X tg iter σ H R' := fun pins s I =>
  thn (h pins s I) fun v s1 h1 => thn h1 fun itv s2 ⟨it, fp, tn, J, H', a, b, c, d, e, q⟩ => ⟨it, fp, tn, J, H', a, b, c, d, e, k J H' q⟩
def XW' (X : Cx) (F : Fm) (tg iter : Expr) (G : List Sl) (Kk : List D → List Sl → Prop) : Prop :=
  ∀ S H σ, IV X.K F G S H σ → semI X tg iter σ H fun J H1 => ∃ ds G1 S1, IV X.K F G1 S1 H1 σ ∧ Ex S S1 ∧ Wk X.K J ds S1 ∧ Kk ds G1
section
variable {X : Cx} {F : Fm} {G : List Sl} {pos : Pos} {Kk : List D → List Sl → Prop} {tg : Expr}
theorem wk_list {K : PySem.W.Frag} {S1 : Hp} {a : Addr} {vs : List L2.V} {ds : List D} (h : S1 a = some (.lst vs)) (r : Reps K S1 vs ds) : Wk K (Itl K a) ds S1 where
  go := fun F G S H σ i I e hi => by
    have hs : SqL K H a vs := SqL.of (I.fr.ex _ _ (e _ _ h))
    have hv : i < vs.length := by rw [r.length]; exact hi
    exact ⟨vs, vs[i], hs, List.getElem?_eq_getElem hv⟩
  yld := fun F G S H σ i d x H' I e hd y => by
    obtain ⟨rfl, y⟩ := y
    obtain ⟨v, ev, rv⟩ := r.get hd
    have := y vs (SqL.of (I.fr.ex _ _ (e _ _ h)))
    rw [ev] at this; cases this
    exact ⟨S, I, Ex.rfl', rv.mono e⟩
  stop := fun F G S H σ I e => ⟨vs, SqL.of (I.fr.ex _ _ (e _ _ h)), by rw [r.length]; exact Nat.le_refl _⟩
theorem xw_list {e : Expr} (h : XE X F e G fun d G1 => ∃ ds, d = .lst ds ∧ Kk ds G1) : XW' X F tg e G Kk :=
  fun S H σ I => semI_of (pi_list pe_sem) <| semE_mono (h S H σ I) fun v H1 ⟨d, G1, S1, I1, e1, r1, ds, ed, k⟩ => by
    subst ed
    cases r1 with
    | lst hl r => exact ⟨_, rfl, ⟨_, SqL.of (I1.fr.ex _ _ hl)⟩, ds, G1, S1, I1, e1, wk_list hl r, k⟩
theorem xw_tup {e : Expr} (h : XE X F e G fun d G1 => ∃ ds, d = .tup ds ∧ Kk ds G1) : XW' X F tg e G Kk :=
  fun S H σ I => semI_of (pi_tup pe_sem) <| semE_mono (h S H σ I) fun v H1 ⟨d, G1, S1, I1, e1, r1, ds, ed, k⟩ => by
    subst ed
    cases r1 with
    | @tup a vs _ hl r =>
      refine ⟨_, rfl, ⟨_, SqT.of (I1.fr.ex _ _ hl)⟩, ds, G1, S1, I1, e1, ⟨fun F G S H σ i I e hi => ?_, fun F G S H σ i d x H' I e hd y => ?_, fun F G S H σ I e => ?_⟩, k⟩
      · have hv : i < vs.length := by rw [r.length]; exact hi
        exact ⟨vs, vs[i], (SqT.of (I.fr.ex _ _ (e _ _ hl)) : SqT _ _ _ _), List.getElem?_eq_getElem hv⟩
      · obtain ⟨rfl, y⟩ := y
        obtain ⟨v, ev, rv⟩ := r.get hd
        have := y vs ((SqT.of (I.fr.ex _ _ (e _ _ hl)) : SqT _ _ _ _))
        rw [ev] at this; cases this
        exact ⟨S, I, Ex.rfl', rv.mono e⟩
      · exact ⟨vs, (SqT.of (I.fr.ex _ _ (e _ _ hl)) : SqT _ _ _ _), by rw [r.length]; exact Nat.le_refl _⟩
theorem wk_range {K : PySem.W.Frag} {S1 : Hp} {lo : Int} {n : Nat} : Wk K (Itr lo n) ((List.range n).map fun (i : Nat) => D.int (lo + i)) S1 where
  go := fun F G S H σ i I e hi => by rw [List.length_map, List.length_range] at hi; exact hi
  yld := fun F G S H σ i d x H' I e hd y => by
    obtain ⟨rfl, rfl⟩ := y
    rw [List.getElem?_map] at hd
    cases h : (List.range n)[i]? with
    | none => rw [h] at hd; cases hd
    | some j =>
      rw [h] at hd; cases hd
      have ej : j = i := by
        obtain ⟨hl, e2⟩ := List.getElem?_eq_some_iff.mp h
        rw [List.getElem_range] at e2; exact e2.symm
      subst ej
      exact ⟨S, I, Ex.rfl', .int _⟩
  stop := fun F G S H σ I e => by
    show n ≤ ((List.range n).map fun (i : Nat) => D.int (lo + i)).length
    rw [List.length_map, List.length_range]; exact Nat.le_refl _
theorem xw_r1 {a : Expr} {p1 p2 : Pos} (hm : X.mg "range" = none) (h : XE X F a G fun d G1 => ∃ n, d = .int n ∧ (-1000000 < n ∧ n < 1000000) ∧ Kk ((List.range n.toNat).map fun (i : Nat) => D.int (0 + i)) G1) (hg : Gl X "range" := by rfl)
    (hse : starEach [a] X.env = [(false, eval a X.env)] := by rfl) : XW' X F tg (.Call (.Name "range" p1) [a] [] p2) G Kk :=
  fun S H σ I => semI_of (pi_range1 hg hm (pa_cons pe_sem pa_nil hse) hse) <| semE_mono (h S H σ I) fun v H1 ⟨d, G1, S1, I1, e1, r1, n, ed, hz, k⟩ => by
    subst ed
    cases r1
    exact ⟨n, rfl, by omega, by omega, _, G1, S1, I1, e1, wk_range, k⟩
theorem xw_r2 {a b : Expr} {p1 p2 : Pos} (hm : X.mg "range" = none) (h : XE X F a G fun d G1 => XE X F b G1 fun d2 G2 => ∃ m n, d = .int m ∧ d2 = .int n ∧ (-1000000 < m ∧ m < 1000000 ∧ -1000000 < n ∧ n < 1000000) ∧ Kk ((List.range (n - m).toNat).map fun (i : Nat) => D.int (m + i)) G2) (hg : Gl X "range" := by rfl)
    (hse : starEach [a, b] X.env = [(false, eval a X.env), (false, eval b X.env)] := by rfl) (hs2 : starEach [b] X.env = [(false, eval b X.env)] := by rfl) (hs3 : starEach [a, b] X.env = (false, eval a X.env) :: starEach [b] X.env := by rfl) : XW' X F tg (.Call (.Name "range" p1) [a, b] [] p2) G Kk :=
  fun S H σ I => semI_of (pi_range2 hg hm (pa_cons pe_sem (pa_cons pe_sem pa_nil hs2) hs3) hse hs2) <| semE_mono (h S H σ I) fun v H1 ⟨d, G1, S1, I1, e1, r1, q⟩ => semE_mono (q S1 H1 σ I1) fun v2 H2 ⟨d2, G2, S2, I2, e2, r2, m, n, ed, ed2, hz, k⟩ => by
    subst ed ed2
    cases r1
    cases r2
    exact ⟨m, n, rfl, ⟨by omega, by omega, by omega, by omega⟩, _, G2, S2, I2, e1.tr e2, wk_range, k⟩
theorem xw_str {e : Expr} (h : XE X F e G fun d G1 => ∃ z, d = .str z ∧ Kk (z.cps.toList.map fun c => D.str ⟨#[c]⟩) G1) : XW' X F tg e G Kk :=
  fun S H σ I => semI_of (pi_str pe_sem) <| semE_mono (h S H σ I) fun v H1 ⟨d, G1, S1, I1, e1, r1, z, ed, k⟩ => by
    subst ed
    cases r1
    refine ⟨z, rfl, _, G1, S1, I1, e1, ⟨fun F G S H σ i I e hi => ?_, fun F G S H σ i d x H' I e hd y => ?_, fun F G S H σ I e => ?_⟩, k⟩
    · rw [List.length_map, Array.length_toList] at hi; exact hi
    · obtain ⟨rfl, c, hc, rfl⟩ := y
      rw [List.getElem?_map, Array.getElem?_toList, hc] at hd
      cases hd
      exact ⟨S, I, Ex.rfl', .str _⟩
    · show z.cps.size ≤ (z.cps.toList.map fun c => D.str ⟨#[c]⟩).length
      rw [List.length_map, Array.length_toList]; exact Nat.le_refl _
/-- two lists side by side -/
theorem xw_zip {a b : Expr} {elts : List Expr} {kk : Nat} {p p2 tpos : Pos} (hm : X.mg "zip" = none) (h : XA X F [a, b] G fun vs G1 => ∃ ds es, vs = [.lst ds, .lst es] ∧ Kk ((ds.zip es).map fun q => D.tup [q.1, q.2]) G1) (hg : Gl X "zip" := by rfl)
    (hse : starEach [a, b] X.env = [(false, eval a X.env), (false, eval b X.env)] := by rfl) (hs2 : starEach [b] X.env = [(false, eval b X.env)] := by rfl) (hs3 : starEach [a, b] X.env = (false, eval a X.env) :: starEach [b] X.env := by rfl) (hpl : (backTo p2 (starEach [b] X.env)).any (·.1) = false := by rfl) : XW' X F (.Tuple elts kk tpos) (.Call (.Name "zip" p) [a, b] [] p2) G Kk :=
  fun S H σ I => semI_of (pi_zip hg hm pa_sem hs3 hpl) <| semA_mono (h S H σ I) fun vs H1 ⟨dd, G1, S1, I1, e1, r1, ds, es, ed, k⟩ => by
    subst ed
    cases r1 with
    | cons ra r1 =>
      cases r1 with
      | cons rb r1 =>
        cases r1
        cases ra with
        | @lst pa va _ hla r =>
          cases rb with
          | @lst pb vb _ hlb r' =>
            refine ⟨pa, pb, va, vb, rfl, SqL.of (I1.fr.ex _ _ hla), SqL.of (I1.fr.ex _ _ hlb), _, G1, S1, I1, e1, ⟨fun F G S H σ i I e hi => ?_, fun F G S H σ i d x H' I e hd y => ?_, fun F G S H σ I e => ?_⟩, k⟩
            · rw [List.length_map, List.length_zip] at hi
              have h1 : i < va.length := by rw [r.length]; omega
              have h2 : i < vb.length := by rw [r'.length]; omega
              exact ⟨va, vb, va[i], vb[i], SqL.of (I.fr.ex _ _ (e _ _ hla)), SqL.of (I.fr.ex _ _ (e _ _ hlb)), List.getElem?_eq_getElem h1, List.getElem?_eq_getElem h2⟩
            · obtain ⟨Ta, x1, x2, rfl, nT, rfl, f1, f2⟩ := y
              have g1 := f1 va (SqL.of (I.fr.ex _ _ (e _ _ hla)))
              have g2 := f2 vb (SqL.of (I.fr.ex _ _ (e _ _ hlb)))
              obtain ⟨d1, hd1, rv1⟩ := r.getV g1
              obtain ⟨d2, hd2, rv2⟩ := r'.getV g2
              rw [List.getElem?_map, (List.getElem?_zip_eq_some (z := (d1, d2))).mpr ⟨hd1, hd2⟩] at hd
              cases hd
              obtain ⟨I2, e2⟩ := I.alloc (o := .tup [x1, x2]) nT
              exact ⟨_, I2, e2, .tup upd_same (.cons (rv1.mono (e.tr e2)) (.cons (rv2.mono (e.tr e2)) .nil))⟩
            · refine ⟨va, vb, SqL.of (I.fr.ex _ _ (e _ _ hla)), SqL.of (I.fr.ex _ _ (e _ _ hlb)), ?_⟩
              rw [List.length_map, List.length_zip, r.length, r'.length]
              omega
theorem xw_enum {a : Expr} {elts : List Expr} {kk : Nat} {p p2 tpos : Pos} (hm : X.mg "enumerate" = none) (h : XE X F a G fun d G1 => ∃ ds, d = .lst ds ∧ Kk ((List.range ds.length).zip ds |>.map fun q => D.tup [.int (q.1 : Nat), q.2]) G1) (hg : Gl X "enumerate" := by rfl)
    (hse : starEach [a] X.env = [(false, eval a X.env)] := by rfl) : XW' X F (.Tuple elts kk tpos) (.Call (.Name "enumerate" p) [a] [] p2) G Kk :=
  fun S H σ I => semI_of (pi_enum hg hm (pa_cons pe_sem pa_nil hse) hse) <| semE_mono (h S H σ I) fun v H1 ⟨d, G1, S1, I1, e1, r1, ds, ed, k⟩ => by
    subst ed
    cases r1 with
    | @lst pa va _ hla r =>
      refine ⟨pa, va, rfl, SqL.of (I1.fr.ex _ _ hla), _, G1, S1, I1, e1, ⟨fun F G S H σ i I e hi => ?_, fun F G S H σ i d x H' I e hd y => ?_, fun F G S H σ I e => ?_⟩, k⟩
      · rw [List.length_map, List.length_zip, List.length_range] at hi
        have h1 : i < va.length := by rw [r.length]; omega
        exact ⟨va, va[i], SqL.of (I.fr.ex _ _ (e _ _ hla)), List.getElem?_eq_getElem h1⟩
      · obtain ⟨Ta, x1, rfl, nT, rfl, f1⟩ := y
        have g1 := f1 va (SqL.of (I.fr.ex _ _ (e _ _ hla)))
        obtain ⟨d1, hd1, rv1⟩ := r.getV g1
        have hi : i < ds.length := (List.getElem?_eq_some_iff.mp hd1).1
        rw [List.getElem?_map, (List.getElem?_zip_eq_some (z := (i, d1))).mpr ⟨List.getElem?_range hi, hd1⟩] at hd
        cases hd
        obtain ⟨I2, e2⟩ := I.alloc (o := .tup [.int (i : Nat), x1]) nT
        exact ⟨_, I2, e2, .tup upd_same (.cons (.int _) (.cons (rv1.mono (e.tr e2)) .nil))⟩
      · refine ⟨va, SqL.of (I.fr.ex _ _ (e _ _ hla)), ?_⟩
        rw [List.length_map, List.length_zip, List.length_range, r.length]
        omega
/-- for tg in iter: body; J: what holds ahead of the i-th turn, of what is known -/
theorem xs_for {iter : Expr} {body : List Stmt} {P : Pst} (h : XW' X F tg iter G fun ds G1 => ∃ J : Nat → List Sl → Prop, (∃ T, J 0 T ∧ Cov G1 T) ∧
      (∀ i d T, ds[i]? = some d → J i T → XG X F tg d T allW fun T' => XSs X F body T' { nx := fun G' => ∃ T2, J (i + 1) T2 ∧ Cov G' T2, ct := fun G' => ∃ T2, J (i + 1) T2 ∧ Cov G' T2, bk := P.nx, rt := P.rt }) ∧ ∀ T, J ds.length T → P.nx T)
    (hpo : PassesOwn (model X.prog X.w) X.A X.env X.xe := by exact PassesOwn.never) (hc : X.calm = true := by rfl) (hs : ∀ x, foldedSetIterable iter X.env x = pure x := by intro _; rfl) : XS X F (.For tg iter body [] pos) G P := fun S H σ E Iv ok => by
  refine semS_of (ps_for hpo hc pi_sem pg_sem pss_sem hs) ?_
  have key : ∀ J H1, (∃ ds G1 S1, IV X.K F G1 S1 H1 σ ∧ Ex S S1 ∧ Wk X.K J ds S1 ∧ ∃ Jv : Nat → List Sl → Prop, (∃ T, Jv 0 T ∧ Cov G1 T) ∧
      (∀ i d T, ds[i]? = some d → Jv i T → XG X F tg d T allW fun T' => XSs X F body T' { nx := fun G' => ∃ T2, Jv (i + 1) T2 ∧ Cov G' T2, ct := fun G' => ∃ T2, Jv (i + 1) T2 ∧ Cov G' T2, bk := P.nx, rt := P.rt }) ∧ ∀ T, Jv ds.length T → P.nx T) →
      ∃ W : Nat → Nat → L2.St → Hp → Prop, (∃ m, W 0 m σ H1) ∧ ∀ i m σ H, W i m σ H →
        (J.stop i H ∧ E.nx σ H) ∨ (J.go i H ∧ ∃ N : L2.St → Hp → Prop, (∀ σ' H', N σ' H' → ∃ m', m' < m ∧ W (i + 1) m' σ' H') ∧ ∀ x H', J.yld i H x H' → semG X tg x σ H' fun σ2 H2 => semSs X body { E with nx := N, ct := N, bk := E.nx } σ2 H2) := by
    intro J H1 ⟨ds, G1, S1, I1, e1, wk, Jv, ⟨T0, j0, c0⟩, turn, done⟩
    refine ⟨fun i m σ H => m = ds.length - i ∧ i ≤ ds.length ∧ ∃ T S2, IV X.K F T S2 H σ ∧ Ex S1 S2 ∧ Jv i T, ⟨ds.length, by simp, Nat.zero_le _, T0, S1, I1.cov c0, Ex.rfl', j0⟩, ?_⟩
    rintro i m σ2 H2 ⟨rfl, hi, T, S2, I2, e2, jv⟩
    by_cases hlt : i < ds.length
    · refine .inr ⟨wk.go F T S2 H2 σ2 i I2 e2 hlt, fun σ' H' => ∃ T S3, IV X.K F T S3 H' σ' ∧ Ex S1 S3 ∧ Jv (i + 1) T, fun σ' H' ⟨T', S3, I3, e3, j3⟩ => ⟨ds.length - (i + 1), by omega, rfl, hlt, T', S3, I3, e3, j3⟩, fun x H' y => ?_⟩
      obtain ⟨S3, I3, e3, rx⟩ := wk.yld F T S2 H2 σ2 i _ x H' I2 e2 (List.getElem?_eq_getElem hlt) y
      refine semG_mono (turn i _ T (List.getElem?_eq_getElem hlt) jv S3 H' σ2 x I3 rx) fun σ4 H4 ⟨G4, S4, I4, e4, _, k4⟩ => ?_
      have ee : Ex S1 S4 := (e2.tr e3).tr e4
      refine k4 S4 H4 σ4 _ I4 ⟨fun G5 S5 H5 σ5 I5 e5 ⟨T5, j5, c5⟩ => ⟨T5, S5, I5.cov c5, ee.tr e5, j5⟩, fun d v G5 S5 H5 σ5 I5 e5 r5 k5 => ok.rt d v G5 S5 H5 σ5 I5 ((e1.tr ee).tr e5) r5 k5, fun G5 S5 H5 σ5 I5 e5 k5 => ok.nx G5 S5 H5 σ5 I5 ((e1.tr ee).tr e5) k5, fun G5 S5 H5 σ5 I5 e5 ⟨T5, j5, c5⟩ => ⟨T5, S5, I5.cov c5, ee.tr e5, j5⟩, fun _ _ _ _ _ _ _ _ _ _ _ _ _ z => z.elim⟩
    · have e : i = ds.length := by omega
      subst e
      exact .inl ⟨wk.stop F T S2 H2 σ2 I2 e2, ok.nx T S2 H2 σ2 I2 (e1.tr e2) (done T jv)⟩
  exact semI_mono (h S H σ Iv) key
end
end Pu

namespace Pu
open PySem PySem.Spec PyProof.Rows L2

/-! kinds, isinstance, == of data -/
def tyD : D → String
  | .non => "NoneType" | .bl _ => "bool" | .int _ => "int" | .str _ => "str" | .tup _ => "tuple" | .lst _ => "list" | .dk _ => "dict" | .dt _ => "dict" | _ => ""
mutual
def toPy : D → PyData
  | .bl b => .bool b
  | .int i => .int i
  | .str x => .str x
  | .tup ds => .tuple (toPys ds)
  | .lst ds => .list (toPys ds)
  | _ => .none
def toPys : List D → List PyData
  | [] => []
  | d :: ds => toPy d :: toPys ds
end
mutual
def plainD : D → Bool
  | .non => true
  | .bl _ => true
  | .int _ => true
  | .str _ => true
  | .tup ds => plainDs ds
  | .lst ds => plainDs ds
  | _ => false
def plainDs : List D → Bool
  | [] => true
  | d :: ds => plainD d && plainDs ds
end
mutual
theorem Rep.dp {K : PySem.W.Frag} {S H : Hp} (e : Ex S H) : ∀ {v : L2.V} {d : D}, Rep K S v d → plainD d = true → Dp K H v (toPy d)
  | _, _, .non, _ => by unfold toPy; exact .non
  | _, _, .bl b, _ => by unfold toPy; exact .bl b
  | _, _, .int i, _ => by unfold toPy; exact .int i
  | _, _, .str x, _ => by unfold toPy; exact .str x
  | _, _, .tup h r, p => by
    unfold plainD at p
    unfold toPy
    exact .tup (SqT.of (e _ _ h)) (Reps.dp e r p)
  | _, _, .lst h r, p => by
    unfold plainD at p
    unfold toPy
    exact .lst (SqL.of (e _ _ h)) (Reps.dp e r p)
  | _, _, .dk _ _ _, p => by unfold plainD at p; cases p
  | _, _, .dt _ _ _, p => by unfold plainD at p; cases p
  | _, _, .ins _ _ _, p => by unfold plainD at p; cases p
  | _, _, .scr _, p => by unfold plainD at p; cases p
  | _, _, .ty _, p => by unfold plainD at p; cases p
  | _, _, .kt _ _, p => by unfold plainD at p; cases p
  | _, _, .adr _, p => by unfold plainD at p; cases p
theorem Reps.dp {K : PySem.W.Frag} {S H : Hp} (e : Ex S H) : ∀ {vs : List L2.V} {ds : List D}, Reps K S vs ds → plainDs ds = true → DpAll K H vs (toPys ds)
  | _, _, .nil, _ => by unfold toPys; exact .nil
  | _, _, .cons h r, p => by
    unfold plainDs at p
    rw [Bool.and_eq_true] at p
    unfold toPys
    exact .cons (Rep.dp e h p.1) (Reps.dp e r p.2)
end
section
variable {X : Cx} {F : Fm} {G : List Sl} {Kk : D → List Sl → Prop} {pos : Pos}
theorem xe_bty {x : Str} {n : String} (hg : Gl X x) (hm : X.mg x = none) (hv : bootBuiltins x = some (.type n)) (k : Kk (.ty n) G) (hn : x ≠ "__name__" := by decide) (hd : (x == ("__debug__" : Str)) = false := by decide) : XE X F (.Name x pos) G Kk := fun S H σ I =>
  semE_of (pe_bltn (v := .ty n) hg hm hv rfl hn hd) (.at I Ex.rfl' (.ty n) k)
theorem xc_isi {x : D} {n : String} {b : Bool} (h : kitB (tyD x) n = some b) (hx : (tyD x == "") = false) (k : Kk (.bl b) G) : XC X F (.builtin "isinstance") [x, .ty n] G Kk :=
  ⟨_, call_isi, fun S H σ vs I r => by
    cases r with
    | cons rx r =>
      cases r with
      | cons rt r =>
        cases r
        cases rt
        have fin : ∀ (v : L2.V) (t : String), t = tyD x → TyX X.K H v (.type t) → rIsi X.K [v, .ty n] H (PK X.K F S σ Kk) := fun v t e ty => by
          subst e
          exact ⟨v, .ty n, _, _, b, rfl, .ty n, ty, kit_ty h, .at I Ex.rfl' (.bl b) k⟩
        cases rx with
        | non => exact fin _ _ rfl (.base .non)
        | bl y => exact fin _ _ rfl (.base (.bl y))
        | int y => exact fin _ _ rfl (.base (.int y))
        | str y => exact fin _ _ rfl (.base (.str y))
        | tup hs r => exact fin _ _ rfl (.base (.tup (I.fr.ex _ _ hs)))
        | lst hs r => exact fin _ _ rfl (.base (.lst (I.fr.ex _ _ hs)))
        | dk hs _ r => exact fin _ _ rfl (.base (.dK (I.fr.ex _ _ hs)))
        | dt hs _ r => exact fin _ _ rfl (.base (.dT (I.fr.ex _ _ hs)))
        | ins _ _ _ => cases hx
        | scr _ => cases hx
        | ty _ => cases hx
        | kt _ _ => cases hx
        | adr _ => cases hx⟩
theorem xo_eqD {x y : D} (hu : X.A.units + 64 < cLine) (px : plainD x = true) (py : plainD y = true) (sx : SeqAt.shaped (toPy x) = true) (sy : SeqAt.shaped (toPy y) = true) (k : Kk (.bl (PyData.eqv (toPy x) (toPy y))) G) : XO X F (compareOp .Eq) x y G Kk :=
  ⟨_, op_eqD hu, fun S H σ vx vy I rx ry => ⟨_, _, rx.dp I.fr.ex px, ry.dp I.fr.ex py, sx, sy, .at I Ex.rfl' (.bl _) k⟩⟩
theorem xo_neD {x y : D} (hu : X.A.units + 64 < cLine) (px : plainD x = true) (py : plainD y = true) (sx : SeqAt.shaped (toPy x) = true) (sy : SeqAt.shaped (toPy y) = true) (k : Kk (.bl (!PyData.eqv (toPy x) (toPy y))) G) : XO X F (compareOp .NotEq) x y G Kk :=
  ⟨_, op_neD hu, fun S H σ vx vy I rx ry => ⟨_, _, rx.dp I.fr.ex px, ry.dp I.fr.ex py, sx, sy, .at I Ex.rfl' (.bl _) k⟩⟩
/-- x.extend(e), x the slot's own list -/
theorem xs_ext (i : Nat) {P : Pst} {e : Expr} {x : Str} {p1 p2 p3 : Pos} (hG : ∃ q ds, G[i]? = some (.ow q (.lst ds))) (h : XE X F e G fun d G1 => ∃ q ds es, d = .lst es ∧ G1[i]? = some (.ow q (.lst ds)) ∧ ds.length + es.length < 1000000 ∧ P.nx (G1.set i (.ow q (.lst (ds ++ es)))))
    
    (hN : X.N[i]? = some x := by rfl) (hv : Vis X.env.scope x := by first | exact Or.inl rfl | exact Or.inr (Or.inl rfl) | exact Or.inr (Or.inr rfl)) (hd : (x == ("__debug__" : Str)) = false := by decide) (hcd : (x == ("__classdict__" : Str)) = false := by decide)
    (hbase : attributeBase (.Name x p1) "extend" X.env (eval (.Name x p1) X.env) = eval (.Name x p1) X.env := by rfl)
    (hfew : ((backTo p3 (starEach [e] X.env)).all (fun x => !x.1) && (backToKw p3 (keywordEach [] X.env)).all (fun x => x.1.isSome)
      && decide (([e] : List Expr).length + ([] : List Keyword).length + (if ([] : List Keyword).isEmpty then 0 else 1) < 30)) = true := by rfl)
    (hline : (p2.endLine == p3.line) = true := by rfl) (hs : starEach [e] X.env = (false, eval e X.env) :: starEach [] X.env := by rfl) (hplain : (backTo p3 (starEach [] X.env)).any (·.1) = false := by rfl)
    (hsw : swapsWith (.Call (.Attribute (.Name x p1) "extend" p2) [e] [] p3) none pos.line X.env = pure false := by rfl) :
    XS X F (.Expr (.Call (.Attribute (.Name x p1) "extend" p2) [e] [] p3) pos) G P := fun S H σ E I ok => by
  obtain ⟨_, ds0, hc⟩ := hG
  obtain ⟨p0, o0, ep0, _, _, ho0, rc0⟩ := I.ow hc
  refine semS_of (ps_expr (pe_bm PySem.F.plainAttrs_list PySem.F.slot_list_extend PySem.F.type_list_extend (mt_extend) (pe_var hN hv hd hcd) (pa_cons pe_sem pa_nil hs) hbase hfew hline hs hplain) hsw) ?_
  refine ⟨_, ep0, ?_, ?_⟩
  · cases rc0 with
    | lst r => exact .inl ⟨rfl, _, SqL.of ho0⟩
  refine semE_mono (h S H σ I) fun v H1 ⟨d, G1, S1, I1, e1, r1, _, ds, es, ed, g1, hz, q⟩ => ?_
  subst ed
  obtain ⟨p, o, ep, n, hb, ho, r⟩ := I1.ow g1
  rw [ep0] at ep
  cases ep
  cases r with
  | @lst vs _ r =>
    cases r1 with
    | @lst b ws _ hw r' =>
      refine ⟨_, _, vs, ws, rfl, rfl, ho, I1.fr.ex _ _ hw, by rw [r.length, r'.length]; exact Nat.le_trans (Nat.le_of_lt hz) (by decide), ?_⟩
      exact ok.nx _ S1 _ σ (I1.write g1 ep0 (.lst (r.append r'))) e1 q
end
end Pu

namespace Pu
open PySem PySem.Spec PyProof.Rows L2

/-! list comprehensions -/
def bor : Sl → Sl
  | .ow _ c => .ow true c
  | .va d => .va d
  | .no => .no
/-- within: the comprehension's own names are forgotten, what is owned is borrowed -/
def inC (vs : List Nat) : Nat → List Sl → List Sl
  | _, [] => []
  | i, s :: G => (bif vs.contains i then .no else bor s) :: inC vs (i + 1) G
def back : Sl → Sl → Sl
  | .ow q _, .ow _ c => .ow q c
  | .ow _ _, _ => .no
  | .va d, _ => .va d
  | .no, _ => .no
/-- behind: the flags as they were; what is owned and no longer told is forgotten -/
def outC : List Sl → List Sl → List Sl
  | s :: G, t :: T => back s t :: outC G T
  | s :: G, [] => .no :: outC G []
  | [], _ => []
theorem inC_length (vs : List Nat) : ∀ (i : Nat) (G : List Sl), (inC vs i G).length = G.length
  | _, [] => rfl
  | i, s :: G => by unfold inC; rw [List.length_cons, List.length_cons, inC_length vs (i + 1) G]
theorem outC_length : ∀ (G T : List Sl), (outC G T).length = G.length
  | s :: G, t :: T => by unfold outC; rw [List.length_cons, List.length_cons, outC_length G T]
  | s :: G, [] => by unfold outC; rw [List.length_cons, List.length_cons, outC_length G []]
  | [], _ => by unfold outC; rfl
theorem inC_at {vs : List Nat} : ∀ {k : Nat} {G : List Sl} {i : Nat} {s : Sl}, (inC vs k G)[i]? = some s → (s = .no) ∨ (k + i ∉ vs ∧ ((∃ q c, G[i]? = some (.ow q c) ∧ s = .ow true c) ∨ ∃ d, G[i]? = some (.va d) ∧ s = .va d))
  | k, [], i, s, h => by simp [inC] at h
  | k, t :: G, 0, s, h => by
    unfold inC at h
    have h' : (bif vs.contains k then Sl.no else bor t) = s := Option.some.inj h
    cases hc : vs.contains k with
    | true => rw [hc] at h'; exact .inl h'.symm
    | false =>
      rw [hc] at h'
      have h2 : bor t = s := h'
      have hn : k ∉ vs := fun z => by
        have : vs.contains k = true := List.contains_iff_mem.mpr z
        rw [hc] at this; cases this
      cases t with
      | no => exact .inl h2.symm
      | va d => exact .inr ⟨hn, .inr ⟨d, rfl, h2.symm⟩⟩
      | ow q c => exact .inr ⟨hn, .inl ⟨q, c, rfl, h2.symm⟩⟩
  | k, t :: G, i + 1, s, h => by
    unfold inC at h
    have h' : (inC vs (k + 1) G)[i]? = some s := by simpa using h
    rcases inC_at h' with e | ⟨hn, e⟩
    · exact .inl e
    · refine .inr ⟨by rw [show k + (i + 1) = k + 1 + i by omega]; exact hn, ?_⟩
      simpa using e
theorem outC_at : ∀ {G T : List Sl} {i : Nat} {s : Sl}, (outC G T)[i]? = some s → s = .no ∨ (∃ d, s = .va d ∧ G[i]? = some (.va d)) ∨ ∃ q c0 q' c, s = .ow q c ∧ G[i]? = some (.ow q c0) ∧ T[i]? = some (.ow q' c)
  | [], T, i, s, h => by simp [outC] at h
  | g :: G, [], 0, s, h => by
    unfold outC at h
    exact .inl (Option.some.inj h).symm
  | g :: G, [], i + 1, s, h => by
    unfold outC at h
    have h' : (outC G [])[i]? = some s := by simpa using h
    rcases outC_at h' with e | ⟨d, e, f⟩ | ⟨q, c0, q', c, e, f, z⟩
    · exact .inl e
    · exact .inr (.inl ⟨d, e, by simpa using f⟩)
    · simp at z
  | g :: G, t :: T, 0, s, h => by
    unfold outC at h
    have h' : back g t = s := Option.some.inj h
    cases g with
    | no => exact .inl h'.symm
    | va d => exact .inr (.inl ⟨d, h'.symm, rfl⟩)
    | ow q c =>
      cases t with
      | no => exact .inl h'.symm
      | va d => exact .inl h'.symm
      | ow q' c' => exact .inr (.inr ⟨q, c, q', c', h'.symm, rfl, rfl⟩)
  | g :: G, t :: T, i + 1, s, h => by
    unfold outC at h
    have h' : (outC G T)[i]? = some s := by simpa using h
    rcases outC_at h' with e | ⟨d, e, f⟩ | ⟨q, c0, q', c, e, f, z⟩
    · exact .inl e
    · exact .inr (.inl ⟨d, e, by simpa using f⟩)
    · exact .inr (.inr ⟨q, c0, q', c, e, by simpa using f, by simpa using z⟩)
theorem keeps_wipe {vs : List Nat} {ws : Nat → Bool} {σ σ' : L2.St} (k : Keeps ws (wipe σ vs) σ') (hs : ∀ j, ws j = true → j ∈ vs) : wipe σ' vs = wipe σ vs := by
  apply List.ext_getElem?
  intro j
  have hw : ∀ τ : L2.St, (wipe τ vs).length = τ.length := fun τ => wipe_length τ vs
  by_cases hj : j ∈ vs
  · have none_at : ∀ τ : L2.St, τ.length = σ.length → (wipe τ vs)[j]? = if j < σ.length then some none else none := fun τ hl => by
      by_cases hlt : j < σ.length
      · rw [if_pos hlt]
        have hlt' : j < (wipe τ vs).length := by rw [hw, hl]; exact hlt
        rw [List.getElem?_eq_getElem hlt']
        cases e : (wipe τ vs)[j] with
        | none => rfl
        | some x =>
          have := wipe_some (x := x) (vs := vs) (σ := τ) (i := j) (by rw [List.getElem?_eq_getElem hlt', e])
          exact absurd hj this.2
      · rw [if_neg hlt]
        exact List.getElem?_eq_none (by rw [hw, hl]; omega)
    rw [none_at σ' (by rw [k.1, hw]), none_at σ rfl]
  · rw [wipe_out hj, k.2 j (by cases e : ws j with | false => rfl | true => exact absurd (hs j e) hj)]
/-- the frame within: what is owned may change -/
def isOw : Option Sl → Bool
  | some (.ow _ _) => true
  | _ => false
def bsOf (ad : Nat → Addr) (G : List Sl) : List Addr := ((List.range G.length).filter fun i => isOw G[i]?).map ad
theorem mem_bsOf {ad : Nat → Addr} {G : List Sl} {b : Addr} : b ∈ bsOf ad G ↔ ∃ i q c, G[i]? = some (.ow q c) ∧ b = ad i := by
  unfold bsOf
  rw [List.mem_map]
  constructor
  · rintro ⟨i, hi, e⟩
    have h2 := (List.mem_filter.mp hi).2
    cases g : G[i]? with
    | none => rw [g] at h2; cases h2
    | some s =>
      rw [g] at h2
      cases s with
      | no => cases h2
      | va d => cases h2
      | ow q c => exact ⟨i, q, c, g, e.symm⟩
  · rintro ⟨i, q, c, g, rfl⟩
    exact ⟨i, List.mem_filter.mpr ⟨List.mem_range.mpr (List.getElem?_eq_some_iff.mp g).1, by rw [g]; rfl⟩, rfl⟩
section
variable {K : PySem.W.Frag} {F : Fm} {G : List Sl} {S H : Hp} {σ : L2.St} {vs : List Nat}
/-- into the block -/
theorem IV.inC (I : IV K F G S H σ) {ad : Nat → Addr} (h1 : ∀ i s, G[i]? = some s → SlOk K F S H s ((σ[i]?).bind id) (ad i)) (h2 : ∀ i j q c q2 e, G[i]? = some (.ow q c) → G[j]? = some (.ow q2 e) → ad i = ad j → i = j) :
    IV K ⟨H, S, bsOf ad G⟩ (Pu.inC vs 0 G) S H (wipe σ vs) := by
  refine ⟨⟨I.fr.ex, Ex.rfl', fun a o h _ => h, fun a h => .inl h, fun b hb => ?_⟩, by rw [wipe_length, inC_length]; exact I.len, ad, fun i s hs => ?_, fun i j q c q2 e hi hj eq => ?_⟩
  · obtain ⟨i, q, c, g, rfl⟩ := mem_bsOf.mp hb
    obtain ⟨_, _, _, o, ho, rc⟩ := h1 i _ g
    exact ⟨o, ho, rc.nt⟩
  · rcases inC_at hs with e | ⟨hn, ⟨q, c, g, e⟩ | ⟨d, g, e⟩⟩
    · subst e; trivial
    · subst e
      rw [Nat.zero_add] at hn
      obtain ⟨ev, n, hb, o, ho, rc⟩ := h1 i _ g
      rw [wipe_out hn]
      exact ⟨ev, n, .inr ⟨rfl, mem_bsOf.mpr ⟨i, q, c, g, rfl⟩⟩, o, ho, rc⟩
    · subst e
      rw [Nat.zero_add] at hn
      rw [wipe_out hn]
      exact h1 i _ g
  · have own_at : ∀ {i : Nat} {q : Bool} {c : D}, (Pu.inC vs 0 G)[i]? = some (.ow q c) → ∃ q c, G[i]? = some (.ow q c) := fun {i q c} hi => by
      rcases inC_at hi with e | ⟨_, ⟨q, c, g, e⟩ | ⟨d, g, e⟩⟩
      · cases e
      · exact ⟨q, c, g⟩
      · cases e
    obtain ⟨q3, c3, g3⟩ := own_at hi
    obtain ⟨q4, c4, g4⟩ := own_at hj
    exact h2 i j q3 c3 q4 c4 g3 g4 eq
/-- out of the block -/
theorem IV.outC {T : List Sl} {S' H' : Hp} {σ2 : L2.St} (I : IV K F G S H σ) {ad : Nat → Addr} (h1 : ∀ i s, G[i]? = some s → SlOk K F S H s ((σ[i]?).bind id) (ad i)) (h2 : ∀ i j q c q2 e, G[i]? = some (.ow q c) → G[j]? = some (.ow q2 e) → ad i = ad j → i = j)
    (I2 : IV K ⟨H, S, bsOf ad G⟩ T S' H' σ2) (hk : wipe σ2 vs = wipe σ vs) (hT : ∀ i ∈ vs, ∀ q c, T[i]? ≠ some (.ow q c)) : IV K F (Pu.outC G T) S' H' σ := by
  have eS : Ex S S' := I2.fr.old
  have fr : Frame F S' H' := by
    refine ⟨I2.fr.ex, I.fr.old.tr eS, fun a o q hb => ?_, fun a q => ?_, fun b hb => ?_⟩
    · refine I2.fr.fr a o (I.fr.fr a o q hb) fun z => ?_
      obtain ⟨i, q1, c, g, rfl⟩ := mem_bsOf.mp z
      obtain ⟨_, _, hb', _⟩ := h1 i _ g
      rcases hb' with ⟨_, z⟩ | ⟨_, z⟩
      · rw [z] at q; cases q
      · exact hb z
    · rcases I2.fr.new a q with z | z | ⟨us, z⟩
      · exact I.fr.new a z
      · exact .inr (.inl (I.fr.free z).2)
      · exact I.fr.oldT z
    · by_cases hb2 : b ∈ bsOf ad G
      · exact I2.fr.bor b hb2
      · obtain ⟨o, e, nt⟩ := I.fr.bor b hb
        exact ⟨o, I2.fr.fr b o e hb2, nt⟩
  obtain ⟨ad2, k1, k2⟩ := I2.sl
  -- an owned slot's address is the old one
  have same : ∀ {i : Nat} {q : Bool} {c0 : D} {q' : Bool} {c : D}, G[i]? = some (.ow q c0) → T[i]? = some (.ow q' c) → ad2 i = ad i := fun {i q c0 q' c} g t => by
    have hn : i ∉ vs := fun z => hT i z _ _ t
    have e1 := (k1 i _ t).1
    have e2 := (h1 i _ g).1
    have e3 : σ2[i]? = σ[i]? := by
      have := congrArg (fun l : L2.St => l[i]?) hk
      simp only [wipe_out hn] at this
      exact this
    rw [e3] at e1
    rw [e1] at e2
    exact L2.V.ref.inj (Option.some.inj e2)
  refine ⟨fr, by rw [outC_length]; exact I.len, ad, fun i s hs => ?_, fun i j q c q2 e hi hj eq => ?_⟩
  · rcases outC_at hs with e | ⟨d, e, g⟩ | ⟨q, c0, q', c, e, g, t⟩
    · subst e; trivial
    · subst e
      obtain ⟨v, ev, r⟩ := h1 i _ g
      exact ⟨v, ev, r.mono eS⟩
    · subst e
      obtain ⟨ev, n, hb, _⟩ := h1 i _ g
      obtain ⟨_, n2, _, o, ho, rc⟩ := k1 i _ t
      rw [same g t] at n2 ho
      exact ⟨ev, n2, hb, o, ho, rc⟩
  · have own_at : ∀ {i : Nat} {q : Bool} {c : D}, (Pu.outC G T)[i]? = some (.ow q c) → ∃ q c, G[i]? = some (.ow q c) := fun {i q c} hi => by
      rcases outC_at hi with e | ⟨d, e, g⟩ | ⟨q, c0, q', c, e, g, t⟩
      · cases e
      · cases e
      · exact ⟨q, c0, g⟩
    obtain ⟨q3, c3, g3⟩ := own_at hi
    obtain ⟨q4, c4, g4⟩ := own_at hj
    exact h2 i j q3 c3 q4 c4 g3 g4 eq
end
end Pu

namespace Pu
open PySem PySem.Spec PyProof.Rows L2

/-- within a block: its own names unknown, what is owned is borrowed -/
def okC (vs : List Nat) : Nat → List Sl → Prop
  | _, [] => True
  | k, s :: T => (bif vs.contains k then s = Sl.no else ∀ c, s ≠ Sl.ow false c) ∧ okC vs (k + 1) T
theorem okC_at {vs : List Nat} : ∀ {k : Nat} {T : List Sl} {i : Nat} {s : Sl}, okC vs k T → T[i]? = some s → (k + i ∈ vs → s = .no) ∧ ∀ c, s ≠ .ow false c
  | k, [], i, s, h, e => by simp at e
  | k, t :: T, 0, s, h, e => by
    have e' : t = s := Option.some.inj e
    subst e'
    have h1 := h.1
    cases hc : vs.contains k with
    | true =>
      rw [hc] at h1
      have h2 : t = Sl.no := h1
      exact ⟨fun _ => h2, fun c z => by rw [h2] at z; cases z⟩
    | false =>
      rw [hc] at h1
      refine ⟨fun z => ?_, h1⟩
      have this : vs.contains k = true := List.contains_iff_mem.mpr z
      rw [hc] at this
      cases this
  | k, t :: T, i + 1, s, h, e => by
    have := okC_at (i := i) h.2 (by simpa using e)
    rw [show k + (i + 1) = k + 1 + i by omega]
    exact this
section
variable {K : PySem.W.Frag} {G T : List Sl} {S S0 H H0 : Hp} {B : List Addr} {σ : L2.St} {vs : List Nat}
/-- the frame's heap moved to now -/
theorem IV.now (I : IV K ⟨H0, S0, B⟩ T S H σ) (ok : ∀ (i : Nat) c, T[i]? ≠ some (.ow false c)) : IV K ⟨H, S, B⟩ T S H σ := by
  obtain ⟨ad, h1, h2⟩ := I.sl
  refine ⟨⟨I.fr.ex, Ex.rfl', fun a o h _ => h, fun a h => .inl h, I.fr.bor⟩, I.len, ad, fun i s hs => ?_, h2⟩
  have q := h1 i s hs
  cases s with
  | no => trivial
  | va d => exact q
  | ow qq c =>
    obtain ⟨ev, n, hb, o, ho, r⟩ := q
    rcases hb with ⟨z, _⟩ | ⟨z, hb⟩
    · subst z; exact absurd hs (ok i c)
    · exact ⟨ev, n, .inr ⟨z, hb⟩, o, ho, r⟩
/-- and back to then -/
theorem IV.thenF {S1 H1 : Hp} {σ2 : L2.St} (I : IV K ⟨H, S, B⟩ T S1 H1 σ2) (f : Frame ⟨H0, S0, B⟩ S H) (ok : ∀ (i : Nat) c, T[i]? ≠ some (.ow false c)) : IV K ⟨H0, S0, B⟩ T S1 H1 σ2 := by
  obtain ⟨ad, h1, h2⟩ := I.sl
  refine ⟨⟨I.fr.ex, f.old.tr I.fr.old, fun a o h hb => I.fr.fr a o (f.fr a o h hb) hb, fun a h => ?_, I.fr.bor⟩, I.len, ad, fun i s hs => ?_, h2⟩
  · rcases I.fr.new a h with z | z | ⟨us, z⟩
    · exact f.new a z
    · exact .inr (.inl (f.free z).2)
    · exact f.oldT z
  have q := h1 i s hs
  cases s with
  | no => trivial
  | va d => exact q
  | ow qq c =>
    obtain ⟨ev, n, hb, o, ho, r⟩ := q
    rcases hb with ⟨z, _⟩ | ⟨z, hb⟩
    · subst z; exact absurd hs (ok i c)
    · exact ⟨ev, n, .inr ⟨z, hb⟩, o, ho, r⟩
/-- an object that no slot owns is written -/
theorem IV.wr {F : Fm} (I : IV K F T S H σ) {p : Addr} {o : HO} (n : S p = none) (h0 : F.H0 p = none) (hB : p ∉ F.B) (ok : ∀ (i : Nat) c, T[i]? ≠ some (.ow false c)) : IV K F T S (upd H p o) σ := by
  obtain ⟨ad, h1, h2⟩ := I.sl
  refine ⟨⟨fun a u q => ?_, I.fr.old, fun a u q hb => ?_, I.fr.new, fun b hb => ?_⟩, I.len, ad, fun i s hs => ?_, h2⟩
  · rw [upd_ne (fun z => by subst z; rw [n] at q; cases q)]; exact I.fr.ex a u q
  · rw [upd_ne (fun z => by subst z; rw [h0] at q; cases q)]; exact I.fr.fr a u q hb
  · obtain ⟨o', e', nt⟩ := I.fr.bor b hb; exact ⟨o', by rw [upd_ne (fun z => hB (by rw [← z]; exact hb))]; exact e', nt⟩
  have q := h1 i s hs
  cases s with
  | no => trivial
  | va d => exact q
  | ow qq c =>
    obtain ⟨ev, nn, hb, o', ho, r⟩ := q
    rcases hb with ⟨z, _⟩ | ⟨z, hb⟩
    · subst z; exact absurd hs (ok i c)
    · exact ⟨ev, nn, .inr ⟨z, hb⟩, o', by rw [upd_ne (fun z => hB (by rw [← z]; exact hb))]; exact ho, r⟩
/-- such an object becomes frozen -/
theorem IV.frz {F : Fm} (I : IV K F T S H σ) {p : Addr} {o : HO} (n : S p = none) (h0 : F.H0 p = none) (ho : H p = some o) (hB : p ∉ F.B) (ok : ∀ (i : Nat) c, T[i]? ≠ some (.ow false c)) : IV K F T (upd S p o) H σ := by
  obtain ⟨ad, h1, h2⟩ := I.sl
  have e1 : Ex S (upd S p o) := Ex.new n
  refine ⟨⟨fun a u q => ?_, I.fr.old.tr e1, I.fr.fr, fun a q => ?_, I.fr.bor⟩, I.len, ad, fun i s hs => ?_, h2⟩
  · by_cases ha : a = p
    · subst ha; rw [upd_same] at q; cases q; exact ho
    · rw [upd_ne ha] at q; exact I.fr.ex a u q
  · by_cases ha : a = p
    · subst ha; exact .inr (.inl h0)
    · rw [upd_ne ha] at q; exact I.fr.new a q
  have q := h1 i s hs
  cases s with
  | no => trivial
  | va d =>
    obtain ⟨v, ev, r⟩ := q
    exact ⟨v, ev, r.mono e1⟩
  | ow qq c =>
    obtain ⟨ev, nn, hb, o', ho', r⟩ := q
    rcases hb with ⟨z, _⟩ | ⟨z, hb⟩
    · subst z; exact absurd hs (ok i c)
    · exact ⟨ev, by rw [upd_ne (fun z => hB (by rw [← z]; exact hb))]; exact nn, .inr ⟨z, hb⟩, o', ho', r.mono e1⟩
end

/-- no slot owns p -/
def NoOwn (G : List Sl) (σ : L2.St) (p : Addr) : Prop := ∀ (i : Nat) q c, G[i]? = some (.ow q c) → (σ[i]?).bind id ≠ some (.ref p)
theorem IV.frz2 {K : PySem.W.Frag} {F : Fm} {T : List Sl} {S H : Hp} {σ : L2.St} (I : IV K F T S H σ) {p : Addr} {o : HO} (n : S p = none) (h0 : F.H0 p = none) (ho : H p = some o) (no : NoOwn T σ p) : IV K F T (upd S p o) H σ := by
  obtain ⟨ad, h1, h2⟩ := I.sl
  have e1 : Ex S (upd S p o) := Ex.new n
  refine ⟨⟨fun a u q => ?_, I.fr.old.tr e1, I.fr.fr, fun a q => ?_, I.fr.bor⟩, I.len, ad, fun i s hs => ?_, h2⟩
  · by_cases ha : a = p
    · subst ha; rw [upd_same] at q; cases q; exact ho
    · rw [upd_ne ha] at q; exact I.fr.ex a u q
  · by_cases ha : a = p
    · subst ha; exact .inr (.inl h0)
    · rw [upd_ne ha] at q; exact I.fr.new a q
  have q := h1 i s hs
  cases s with
  | no => trivial
  | va d =>
    obtain ⟨v, ev, r⟩ := q
    exact ⟨v, ev, r.mono e1⟩
  | ow qq c =>
    obtain ⟨ev, nn, hb, o', ho', r⟩ := q
    exact ⟨ev, by rw [upd_ne (fun z => no i qq c hs (by rw [← z]; exact ev))]; exact nn, hb, o', ho', r.mono e1⟩
theorem IV.own2 {K : PySem.W.Frag} {F : Fm} {T : List Sl} {S H : Hp} {σ : L2.St} (I : IV K F T S H σ) {i : Nat} {p : Addr} {o : HO} {c : D} (n : S p = none) (h0 : F.H0 p = none) (hB : p ∉ F.B) (ho : H p = some o) (no : NoOwn T σ p) (r : CRep K S o c) :
    IV K F (T.set i (.ow false c)) S H (σ.set i (some (.ref p))) := by
  have I' : IV K F T S (fun a => if a = p then none else H a) σ := by
    obtain ⟨ad, h1, h2⟩ := I.sl
    refine ⟨⟨fun a u q => ?_, I.fr.old, fun a u q hb => ?_, I.fr.new, fun b hb => ?_⟩, I.len, ad, fun i s hs => ?_, h2⟩
    · show (if a = p then none else H a) = some u
      rw [if_neg (fun z => by subst z; rw [n] at q; cases q)]; exact I.fr.ex a u q
    · show (if a = p then none else H a) = some u
      rw [if_neg (fun z => by subst z; rw [h0] at q; cases q)]; exact I.fr.fr a u q hb
    · obtain ⟨o', e', nt⟩ := I.fr.bor b hb; exact ⟨o', by show (if b = p then none else H b) = _; rw [if_neg (fun z => hB (by rw [← z]; exact hb))]; exact e', nt⟩
    have q := h1 i s hs
    cases s with
    | no => trivial
    | va d => exact q
    | ow qq c =>
      obtain ⟨ev, nn, hb, o', ho', r⟩ := q
      refine ⟨ev, nn, hb, o', ?_, r⟩
      show (if ad i = p then none else H (ad i)) = some o'
      rw [if_neg (fun z => no i qq c hs (by rw [← z]; exact ev))]; exact ho'
  have := I'.own (i := i) (p := p) (o := o) (c := c) (if_pos rfl) r
  have e : upd (fun a => if a = p then none else H a) p o = H := by
    funext a
    by_cases ha : a = p
    · subst ha; rw [upd_same]; exact ho.symm
    · rw [upd_ne ha]; exact if_neg ha
  rw [e] at this
  exact this

def XTs (X : Cx) (F : Fm) (ifs : List Expr) (G : List Sl) (Kk : Bool → List Sl → Prop) : Prop := match ifs with
  | [] => Kk true G
  | [c] => XT X F c G Kk
  | _ => False
def semTs (X : Cx) (ifs : List Expr) : TT := match ifs with
  | [] => tYes
  | [c] => semT X c
  | _ => fun _ _ _ => False
theorem pts_sem {X : Cx} : ∀ {ifs : List Expr}, ifs.length ≤ 1 → PTs X ifs (semTs X ifs)
  | [], _ => pts_nil
  | [c], _ => pts_one pt_sem
  | a :: b :: r, h => by simp at h
theorem semTs_run {X : Cx} {F : Fm} {G : List Sl} {Kk : Bool → List Sl → Prop} : ∀ {ifs : List Expr}, XTs X F ifs G Kk → ∀ S H σ, IV X.K F G S H σ → semTs X ifs σ H (fun b H' => ∃ G' S', IV X.K F G' S' H' σ ∧ Ex S S' ∧ Kk b G')
  | [], h, S, H, σ, I => ⟨G, S, I, Ex.rfl', h⟩
  | [c], h, S, H, σ, I => h S H σ I
  | _ :: _ :: _, h, _, _, _, _ => h.elim

section
variable {X : Cx} {F : Fm} {G : List Sl} {Kk : D → List Sl → Prop} {pos : Pos}
theorem lc_sem {Kd : List D → List Sl → Prop} {elt tg iter : Expr} {ifs : List Expr} {scope : Scope} (own : List (Str × Nat)) (hif : ifs.length ≤ 1) (hn : X.N.Nodup) (N : List Str) (sc : Scope) (ok : blkC N sc scope own = true) (h : XW' X F tg iter G fun ds G1 => ∃ J : Nat → List Sl → List D → Prop, J 0 (inC (own.map (·.2)) 0 G1) [] ∧ ds.length < 1000000 ∧
      (∀ i T acc, J i T acc → okC (own.map (·.2)) 0 T ∧ acc.length ≤ i) ∧
      (∀ i d T acc, ds[i]? = some d → J i T acc → ∀ F' s0 H0 C cl fp, XG (X.blk s0 H0 scope (compEnvC scope cl C X.env) fp) F' tg d T (fun j => (own.map (·.2)).contains j) fun T' => ∀ s0 H0 C cl fp, XTs (X.blk s0 H0 scope (compEnvC scope cl C X.env) fp) F' ifs T' fun b T2 =>
        (b = true → ∀ s0 H0 C cl fp, XE (X.blk s0 H0 scope (compEnvC scope cl C X.env) fp) F' elt T2 fun y T3 => ∃ T4, J (i + 1) T4 (acc ++ [y]) ∧ Cov T3 T4) ∧ (b = false → ∃ T4, J (i + 1) T4 acc ∧ Cov T2 T4)) ∧
      ∀ T acc, J ds.length T acc → Kd acc (outC G1 T))
    (hc : X.calm = true := by rfl) (eN : X.N = N := by rfl) (eS : X.env.scope = sc := by rfl) (hs : ∀ x, foldedSetIterable iter X.env x = pure x := by intro _; rfl) : ∀ S H σ, IV X.K F G S H σ → ∀ Q : VK, (∀ Dl acc vacc G' S2 H2, IV X.K F G' S2 H2 σ → Ex S S2 → S2 Dl = none → F.H0 Dl = none → Dl ∉ F.B → NoOwn G' σ Dl → H2 Dl = some (.lst vacc) → Reps X.K S2 vacc acc → Kd acc G' → Q (.ref Dl) H2) →
      tLc (semI X tg iter) (fun v σ H Q => ∀ s0 H0 C cl fp, semG (X.blk s0 H0 scope (compEnvC scope cl C X.env) fp) tg v σ H Q) (fun σ H Q => ∀ s0 H0 C cl fp, semTs (X.blk s0 H0 scope (compEnvC scope cl C X.env) fp) ifs σ H Q) (fun σ H Q => ∀ s0 H0 C cl fp, semE (X.blk s0 H0 scope (compEnvC scope cl C X.env) fp) elt σ H Q) (own.map (·.2)) σ H Q := by
  intro S H σ Iv Q kq
  let Y : Shared → Hp → Addr → List (Str × Addr) → List Addr → Cx := fun s0 H0 C cl fp => X.blk s0 H0 scope (compEnvC scope cl C X.env) fp
  refine semI_mono (h S H σ Iv) fun It H1 ⟨ds, G1, S1, I1, e1, wk, J, j0, hlen, hok, turn, done⟩ => ?_
  intro Dl hD
  have vsE : own.map (·.2) = own.map (·.2) := rfl
  obtain ⟨ad, h1, h2⟩ := I1.sl
  have nof : ∀ {i : Nat} {T : List Sl} {acc : List D}, J i T acc → ∀ (k : Nat) c, T[k]? ≠ some (.ow false c) := fun {i T acc} j k c z => (okC_at (hok i T acc j).1 z).2 c rfl
  have hDB : Dl ∉ bsOf ad G1 := fun z => by
    obtain ⟨i, q, c, g, e⟩ := mem_bsOf.mp z
    obtain ⟨_, _, _, o, ho, _⟩ := h1 i _ g
    rw [← e, hD] at ho; cases ho
  have hS1 : S1 Dl = none := (I1.fr.free hD).1
  have Iin : IV X.K ⟨H1, S1, bsOf ad G1⟩ (inC (own.map (·.2)) 0 G1) S1 H1 (wipe σ (own.map (·.2))) := I1.inC h1 h2
  refine ⟨fun i m H2 => m = ds.length - i ∧ i ≤ ds.length ∧ ∃ T S2 acc vacc, IV X.K ⟨H1, S1, bsOf ad G1⟩ T S2 H2 (wipe σ (own.map (·.2))) ∧ J i T acc ∧ S2 Dl = none ∧ H2 Dl = some (.lst vacc) ∧ Reps X.K S2 vacc acc,
    ⟨ds.length, by simp, Nat.zero_le _, _, S1, [], [], Iin.wr hS1 hD hDB (nof j0), j0, hS1, upd_same, .nil⟩, ?_⟩
  rintro i m H2 ⟨rfl, hi, T, S2, acc, vacc, I2, j, n2, d2, r2⟩
  have e2 : Ex S1 S2 := I2.fr.old
  by_cases hlt : i < ds.length
  · refine .inr ⟨wk.go _ _ S2 H2 _ i I2 e2 hlt, fun H3 => ∃ T S3 acc vacc, IV X.K ⟨H1, S1, bsOf ad G1⟩ T S3 H3 (wipe σ (own.map (·.2))) ∧ J (i + 1) T acc ∧ S3 Dl = none ∧ H3 Dl = some (.lst vacc) ∧ Reps X.K S3 vacc acc,
      fun H3 hN => ⟨ds.length - (i + 1), by omega, rfl, hlt, hN⟩, fun x H3 y => ?_⟩
    have hd := List.getElem?_eq_getElem hlt
    have I2' : IV X.K ⟨H2, S2, bsOf ad G1⟩ T S2 H2 (wipe σ (own.map (·.2))) := I2.now (nof j)
    obtain ⟨S3, I3, e3, rx⟩ := wk.yld _ _ S2 H2 _ i _ x H3 I2' e2 hd y
    -- whatever happens within the turn, the new list stays
    have keepD : ∀ {T' : List Sl} {S' H' : Hp} {σ' : L2.St}, IV X.K ⟨H2, S2, bsOf ad G1⟩ T' S' H' σ' → H' Dl = some (.lst vacc) ∧ S' Dl = none := fun {T' S' H' σ'} I' => by
      refine ⟨I'.fr.fr _ _ d2 hDB, ?_⟩
      cases e : S' Dl with
      | none => rfl
      | some u =>
        rcases I'.fr.new Dl (by rw [e]; intro z; cases z) with z | z | ⟨us, z⟩
        · exact absurd n2 z
        · have z' : H2 Dl = none := z
          rw [d2] at z'; cases z'
        · have z' : H2 Dl = some (.tup us) := z
          rw [d2] at z'; cases z'
    have fin : ∀ {T' T4 : List Sl} {S' H' : Hp} {σ' : L2.St} {acc' : List D} {vacc' : List L2.V}, IV X.K ⟨H2, S2, bsOf ad G1⟩ T' S' H' σ' → Cov T' T4 → wipe σ' (own.map (·.2)) = wipe σ (own.map (·.2)) → J (i + 1) T4 acc' → Reps X.K S' vacc' acc' →
        IV X.K ⟨H1, S1, bsOf ad G1⟩ T4 S' (upd H' Dl (.lst vacc')) (wipe σ (own.map (·.2))) := fun {T' T4 S' H' σ' acc' vacc'} I' c hw j' r' => by
      have a1 := (I'.cov c).thenF (H0 := H1) (S0 := S1) I2.fr (nof j')
      have a2 : IV X.K ⟨H1, S1, bsOf ad G1⟩ T4 S' H' (wipe σ (own.map (·.2))) := by
        obtain ⟨ad', k1, k2⟩ := a1.sl
        refine ⟨a1.fr, by rw [← hw, wipe_length]; exact a1.len, ad', fun k s hs => ?_, k2⟩
        by_cases hk : k ∈ own.map (·.2)
        · have z := (okC_at (hok _ _ _ j').1 hs).1 (by rw [Nat.zero_add]; exact hk)
          subst z; trivial
        · have q := k1 k s hs
          rw [← hw, wipe_out hk]
          exact q
      exact a2.wr (keepD I').2 hD hDB (nof j')
    refine fun s0 H0 C cl fp => ?_
    refine semG_mono (turn i _ T acc hd j _ s0 H0 C cl fp S3 H3 _ x I3 rx) fun σ4 H4 ⟨G4, S4, I4, e4, kp, q4⟩ => ?_
    have hw4 : wipe σ4 (own.map (·.2)) = wipe σ (own.map (·.2)) := keeps_wipe kp (fun j h => List.contains_iff_mem.mp h)
    refine ⟨hw4, fun s0 H0 C cl fp => ?_⟩
    have tmono : ∀ {Q Q' : Bool → Hp → Prop}, semTs (Y s0 H0 C cl fp) ifs σ4 H4 Q → (∀ b H', Q b H' → Q' b H') → semTs (Y s0 H0 C cl fp) ifs σ4 H4 Q' := fun {Q Q'} h k => by
      cases ifs with
      | nil => exact k _ _ h
      | cons c r =>
        cases r with
        | nil => exact semT_mono h k
        | cons c2 r => exact (h : False).elim
    refine tmono (semTs_run (q4 s0 H0 C cl fp) S4 H4 σ4 I4) fun b H5 ⟨G5, S5, I5, e5, k1, k2⟩ => ?_
    cases b with
    | true =>
      refine iteT fun s0 H0 C cl fp => ?_
      refine semE_mono (k1 rfl s0 H0 C cl fp S5 H5 σ4 I5) fun v H6 ⟨dv, G6, S6, I6, e6, rv, T4, j4, c4⟩ => ?_
      have r6 : Reps X.K S6 (vacc ++ [v]) (acc ++ [dv]) := (r2.mono (((e3.tr e4).tr e5).tr e6)).append (.cons rv .nil)
      refine ⟨vacc, (keepD I6).1, by rw [r2.length]; exact Nat.lt_of_le_of_lt (Nat.le_trans (hok i T acc j).2 hi) (Nat.lt_trans hlen (by decide)), T4, S6, _, _, fin I6 c4 hw4 j4 r6, j4, (keepD I6).2, upd_same, r6⟩
    | false =>
      refine iteF ?_
      obtain ⟨T4, j4, c4⟩ := k2 rfl
      have r5 : Reps X.K S5 vacc acc := r2.mono ((e3.tr e4).tr e5)
      have same : upd H5 Dl (.lst vacc) = H5 := by
        funext a
        by_cases ha : a = Dl
        · subst ha; rw [upd_same]; exact (keepD I5).1.symm
        · rw [upd_ne ha]
      have := fin I5 c4 hw4 j4 r5
      rw [same] at this
      exact ⟨T4, S5, _, _, this, j4, (keepD I5).2, (keepD I5).1, r5⟩
  · have e : i = ds.length := by omega
    subst e
    refine .inl ⟨wk.stop _ _ S2 H2 _ I2 e2, ?_⟩
    have I4 := I1.outC h1 h2 I2 (keeps_wipe (ws := fun _ => false) .refl (by intro j h; cases h)) (fun k hk q c z => by
      have := (okC_at (hok _ T acc j).1 z).1 (by rw [Nat.zero_add]; exact hk)
      cases this)
    have hF0 : F.H0 Dl = none := (I1.fr.free hD).2
    have hFB : Dl ∉ F.B := fun z => by obtain ⟨o', e', _⟩ := I1.fr.bor Dl z; rw [hD] at e'; cases e'
    have no : NoOwn (outC G1 T) σ Dl := fun k q c hk z => by
      rcases outC_at hk with e | ⟨d, e, _⟩ | ⟨q1, c0, q2, c2, _, g, _⟩
      · cases e
      · cases e
      · obtain ⟨ev, _, _, o, ho, _⟩ := h1 k _ g
        rw [z] at ev
        have ea : Dl = ad k := L2.V.ref.inj (Option.some.inj ev)
        rw [← ea, hD] at ho; cases ho
    exact kq Dl acc vacc _ S2 H2 I4 (e1.tr e2) n2 hF0 hFB no d2 r2 (done T acc j)
theorem xe_lc {elt tg iter : Expr} {ifs : List Expr} {scope : Scope} (own : List (Str × Nat)) (hif : ifs.length ≤ 1) (hn : X.N.Nodup) (N : List Str) (sc : Scope) (ok : blkC N sc scope own = true) (h : XW' X F tg iter G fun ds G1 => ∃ J : Nat → List Sl → List D → Prop, J 0 (inC (own.map (·.2)) 0 G1) [] ∧ ds.length < 1000000 ∧
      (∀ i T acc, J i T acc → okC (own.map (·.2)) 0 T ∧ acc.length ≤ i) ∧
      (∀ i d T acc, ds[i]? = some d → J i T acc → ∀ F' s0 H0 C cl fp, XG (X.blk s0 H0 scope (compEnvC scope cl C X.env) fp) F' tg d T (fun j => (own.map (·.2)).contains j) fun T' => ∀ s0 H0 C cl fp, XTs (X.blk s0 H0 scope (compEnvC scope cl C X.env) fp) F' ifs T' fun b T2 =>
        (b = true → ∀ s0 H0 C cl fp, XE (X.blk s0 H0 scope (compEnvC scope cl C X.env) fp) F' elt T2 fun y T3 => ∃ T4, J (i + 1) T4 (acc ++ [y]) ∧ Cov T3 T4) ∧ (b = false → ∃ T4, J (i + 1) T4 acc ∧ Cov T2 T4)) ∧
      ∀ T acc, J ds.length T acc → Kk (.lst acc) (outC G1 T))
    (hc : X.calm = true := by rfl) (eN : X.N = N := by rfl) (eS : X.env.scope = sc := by rfl) (hs : ∀ x, foldedSetIterable iter X.env x = pure x := by intro _; rfl) :
    XE X F (.ListComp elt [⟨tg, iter, ifs, 0⟩] scope pos) G Kk := fun S H σ Iv =>
  semE_of (pe_lc hc hn pi_sem (by rw [eN, eS]; exact blkOk_by ok) (g := fun v σ H Q => ∀ s0 H0 C cl fp, semG (X.blk s0 H0 scope (compEnvC scope cl C X.env) fp) tg v σ H Q) (tt := fun σ H Q => ∀ s0 H0 C cl fp, semTs (X.blk s0 H0 scope (compEnvC scope cl C X.env) fp) ifs σ H Q) (te := fun σ H Q => ∀ s0 H0 C cl fp, semE (X.blk s0 H0 scope (compEnvC scope cl C X.env) fp) elt σ H Q)
    (fun s0 H0 C cl fp => ⟨fun pins s σ H v u Q I r h => h s0 H0 C cl fp pins s u I r⟩) (fun s0 H0 C cl fp => ⟨fun pins s σ H Q I h => (pts_sem hif).run pins s σ H Q I (h s0 H0 C cl fp)⟩) (fun s0 H0 C cl fp => ⟨fun pins s σ H Q I h => h s0 H0 C cl fp pins s I⟩) hs)
    (lc_sem (Kd := fun acc G' => Kk (.lst acc) G') own hif hn N sc ok h hc eN eS hs S H σ Iv _ fun Dl acc vacc G' S2 H2 I2 e2 n2 h0 hB no d2 r2 k => by
      have e4 : Ex S2 (upd S2 Dl (.lst vacc)) := Ex.new n2
      exact .at (I2.frz2 n2 h0 d2 no) (e2.tr e4) (.lst upd_same (r2.mono e4)) k)
/-- y = [.. for ..] on one line -/
theorem xs_lc {elt tg iter : Expr} {ifs : List Expr} {scope : Scope} {P : Pst} {y : Str} {py spos : Pos} (i : Nat) (own : List (Str × Nat)) (hif : ifs.length ≤ 1) (hn : X.N.Nodup) (N : List Str) (sc : Scope) (ok : blkC N sc scope own = true) (h : XW' X F tg iter G fun ds G1 => ∃ J : Nat → List Sl → List D → Prop, J 0 (inC (own.map (·.2)) 0 G1) [] ∧ ds.length < 1000000 ∧
      (∀ i T acc, J i T acc → okC (own.map (·.2)) 0 T ∧ acc.length ≤ i) ∧
      (∀ i d T acc, ds[i]? = some d → J i T acc → ∀ F' s0 H0 C cl fp, XG (X.blk s0 H0 scope (compEnvC scope cl C X.env) fp) F' tg d T (fun j => (own.map (·.2)).contains j) fun T' => ∀ s0 H0 C cl fp, XTs (X.blk s0 H0 scope (compEnvC scope cl C X.env) fp) F' ifs T' fun b T2 =>
        (b = true → ∀ s0 H0 C cl fp, XE (X.blk s0 H0 scope (compEnvC scope cl C X.env) fp) F' elt T2 fun y T3 => ∃ T4, J (i + 1) T4 (acc ++ [y]) ∧ Cov T3 T4) ∧ (b = false → ∃ T4, J (i + 1) T4 acc ∧ Cov T2 T4)) ∧
      ∀ T acc, J ds.length T acc → P.nx ((outC G1 T).set i (.va (.lst acc))))
    (hc : X.calm = true := by rfl) (eN : X.N = N := by rfl) (eS : X.env.scope = sc := by rfl) (hs : ∀ x, foldedSetIterable iter X.env x = pure x := by intro _; rfl) (hy : X.N[i]? = some y := by rfl) (hyl : X.env.scope.names.lookup y = some .local := by rfl)
    (hsw : swapsWith (.ListComp elt [⟨tg, iter, ifs, 0⟩] scope pos) (some (.Name y py)) spos.line X.env = pure true := by exact sw_true rfl rfl rfl (by decide +kernel)) :
    XS X F (.Assign [.Name y py] (.ListComp elt [⟨tg, iter, ifs, 0⟩] scope pos) spos) G P := fun S H σ E Iv eok =>
  semS_of (ps_setLc hc hn hy hyl hsw pi_sem (by rw [eN, eS]; exact blkOk_by ok) (g := fun v σ H Q => ∀ s0 H0 C cl fp, semG (X.blk s0 H0 scope (compEnvC scope cl C X.env) fp) tg v σ H Q) (tt := fun σ H Q => ∀ s0 H0 C cl fp, semTs (X.blk s0 H0 scope (compEnvC scope cl C X.env) fp) ifs σ H Q) (te := fun σ H Q => ∀ s0 H0 C cl fp, semE (X.blk s0 H0 scope (compEnvC scope cl C X.env) fp) elt σ H Q)
    (fun s0 H0 C cl fp => ⟨fun pins s σ H v u Q I r h => h s0 H0 C cl fp pins s u I r⟩) (fun s0 H0 C cl fp => ⟨fun pins s σ H Q I h => (pts_sem hif).run pins s σ H Q I (h s0 H0 C cl fp)⟩) (fun s0 H0 C cl fp => ⟨fun pins s σ H Q I h => h s0 H0 C cl fp pins s I⟩) hs)
    (lc_sem (Kd := fun acc G' => P.nx (G'.set i (.va (.lst acc)))) own hif hn N sc ok h hc eN eS hs S H σ Iv _ fun Dl acc vacc G' S2 H2 I2 e2 n2 h0 hB no d2 r2 k => by
      have e4 : Ex S2 (upd S2 Dl (.lst vacc)) := Ex.new n2
      exact eok.nx _ _ H2 _ ((I2.frz2 n2 h0 d2 no).set (.lst upd_same (r2.mono e4))) (e2.tr e4) k)
/-- y = [.. for ..] on one line, the slot's own list -/
theorem xs_lco {elt tg iter : Expr} {ifs : List Expr} {scope : Scope} {P : Pst} {y : Str} {py spos : Pos} (i : Nat) (own : List (Str × Nat)) (hif : ifs.length ≤ 1) (hn : X.N.Nodup) (N : List Str) (sc : Scope) (ok : blkC N sc scope own = true) (h : XW' X F tg iter G fun ds G1 => ∃ J : Nat → List Sl → List D → Prop, J 0 (inC (own.map (·.2)) 0 G1) [] ∧ ds.length < 1000000 ∧
      (∀ i T acc, J i T acc → okC (own.map (·.2)) 0 T ∧ acc.length ≤ i) ∧
      (∀ i d T acc, ds[i]? = some d → J i T acc → ∀ F' s0 H0 C cl fp, XG (X.blk s0 H0 scope (compEnvC scope cl C X.env) fp) F' tg d T (fun j => (own.map (·.2)).contains j) fun T' => ∀ s0 H0 C cl fp, XTs (X.blk s0 H0 scope (compEnvC scope cl C X.env) fp) F' ifs T' fun b T2 =>
        (b = true → ∀ s0 H0 C cl fp, XE (X.blk s0 H0 scope (compEnvC scope cl C X.env) fp) F' elt T2 fun y T3 => ∃ T4, J (i + 1) T4 (acc ++ [y]) ∧ Cov T3 T4) ∧ (b = false → ∃ T4, J (i + 1) T4 acc ∧ Cov T2 T4)) ∧
      ∀ T acc, J ds.length T acc → P.nx ((outC G1 T).set i (.ow false (.lst acc))))
    (hc : X.calm = true := by rfl) (eN : X.N = N := by rfl) (eS : X.env.scope = sc := by rfl) (hs : ∀ x, foldedSetIterable iter X.env x = pure x := by intro _; rfl) (hy : X.N[i]? = some y := by rfl) (hyl : X.env.scope.names.lookup y = some .local := by rfl)
    (hsw : swapsWith (.ListComp elt [⟨tg, iter, ifs, 0⟩] scope pos) (some (.Name y py)) spos.line X.env = pure true := by exact sw_true rfl rfl rfl (by decide +kernel)) :
    XS X F (.Assign [.Name y py] (.ListComp elt [⟨tg, iter, ifs, 0⟩] scope pos) spos) G P := fun S H σ E Iv eok =>
  semS_of (ps_setLc hc hn hy hyl hsw pi_sem (by rw [eN, eS]; exact blkOk_by ok) (g := fun v σ H Q => ∀ s0 H0 C cl fp, semG (X.blk s0 H0 scope (compEnvC scope cl C X.env) fp) tg v σ H Q) (tt := fun σ H Q => ∀ s0 H0 C cl fp, semTs (X.blk s0 H0 scope (compEnvC scope cl C X.env) fp) ifs σ H Q) (te := fun σ H Q => ∀ s0 H0 C cl fp, semE (X.blk s0 H0 scope (compEnvC scope cl C X.env) fp) elt σ H Q)
    (fun s0 H0 C cl fp => ⟨fun pins s σ H v u Q I r h => h s0 H0 C cl fp pins s u I r⟩) (fun s0 H0 C cl fp => ⟨fun pins s σ H Q I h => (pts_sem hif).run pins s σ H Q I (h s0 H0 C cl fp)⟩) (fun s0 H0 C cl fp => ⟨fun pins s σ H Q I h => h s0 H0 C cl fp pins s I⟩) hs)
    (lc_sem (Kd := fun acc G' => P.nx (G'.set i (.ow false (.lst acc)))) own hif hn N sc ok h hc eN eS hs S H σ Iv _ fun Dl acc vacc G' S2 H2 I2 e2 n2 h0 hB no d2 r2 k => by
      exact eok.nx _ _ H2 _ (I2.own2 n2 h0 hB d2 no (.lst r2)) e2 k)
end
end Pu

namespace Pu
open PySem PySem.Spec PyProof.Rows L2

/-! the laws' own helpers: what is true of what they draw -/
def Dg (l : List Int) : Prop := ∀ x ∈ l, 0 ≤ x ∧ x < 1000
def BoxOk (c : D) : Prop := ∃ (l : List Int) (a : Int), c = .lst [.lst (l.map D.int), .int a] ∧ Dg l ∧ 0 ≤ a
def Solid (c : Nat) : Prop := 33 ≤ c ∧ c ≤ 126 ∧ c ≠ 37
def AnyC (c : Nat) : Prop := c = 10 ∨ (32 ≤ c ∧ c ≤ 126 ∧ c ≠ 37)
instance (c : Nat) : Decidable (Solid c) := by unfold Solid; infer_instance
instance (c : Nat) : Decidable (AnyC c) := by unfold AnyC; infer_instance
theorem Solid.any {c : Nat} (h : Solid c) : AnyC c := .inr ⟨by have := h.1; omega, h.2⟩
def RCell (ds : List D) (Φ : D → Prop) : Prop := ∃ (ns : List Int) (k : Int), ds = [.scr ns, .int k] ∧ 0 ≤ k ∧ ∀ n : Int, Φ (.int n)
def RDigits (ds : List D) (Φ : D → Prop) : Prop := ∃ (ns : List Int) (a b : Nat), ds = [.scr ns, .int a, .int b] ∧ a ≤ b ∧ b ≤ 100 ∧ ∀ l : List Int, Dg l → Φ (.lst (l.map D.int))
def RDraw (c : D) (ds : List D) (Φ : D → D → Prop) : Prop := BoxOk c ∧ ∃ m : Int, ds = [.int m] ∧ 0 < m ∧ ∀ (n : Int) c', 0 ≤ n → n < m → BoxOk c' → Φ (.int n) c'
def RSolid (c : D) (ds : List D) (Φ : D → D → Prop) : Prop := BoxOk c ∧ ds = [] ∧ ∀ (ch : Nat) c', Solid ch → BoxOk c' → Φ (.str ⟨#[ch]⟩) c'
def RAny (c : D) (ds : List D) (Φ : D → D → Prop) : Prop := BoxOk c ∧ ds = [] ∧ ∀ (ch : Nat) c', AnyC ch → BoxOk c' → Φ (.str ⟨#[ch]⟩) c'
def RText (Cs : Nat → Prop) (c : D) (ds : List D) (Φ : D → D → Prop) : Prop := BoxOk c ∧ ∃ m : Int, ds = [.int m] ∧ 0 ≤ m ∧ m ≤ 10000 ∧ ∀ (z : Str) c', (z.cps.toList.length : Int) = m → (∀ ch ∈ z.cps.toList, Cs ch) → BoxOk c' → Φ (.str z) c'
/-! the same data, at most so deep, are found the same -/
mutual
def depD : D → Nat
  | .tup ds => depDs ds + 1
  | .lst ds => depDs ds + 1
  | _ => 0
def depDs : List D → Nat
  | [] => 0
  | d :: ds => max (depD d) (depDs ds)
end
/-- a text of ordinary signs -/
def SOk (x : Str) : Prop := x.cps.all (· < 0x110000) = true
theorem SOk.of {x : Str} (h : ∀ c ∈ x.cps.toList, c ≤ 1000) : SOk x := by
  unfold SOk
  rw [Array.all_eq_true]
  intro i hi
  have := h x.cps[i] (by rw [Array.mem_toList_iff]; exact Array.getElem_mem hi)
  exact decide_eq_true (by omega)
theorem SOk.solid {x : Str} (h : ∀ c ∈ x.cps.toList, Solid c) : SOk x := .of fun c hc => by have := (h c hc).2.1; omega
theorem SOk.any {x : Str} (h : ∀ c ∈ x.cps.toList, AnyC c) : SOk x := .of fun c hc => by rcases h c hc with e | e <;> omega
mutual
def smallD : D → Prop
  | .tup ds => ds.length < 1000000 ∧ smallDs ds
  | .lst ds => ds.length < 1000000 ∧ smallDs ds
  | .str x => SOk x
  | _ => True
def smallDs : List D → Prop
  | [] => True
  | d :: ds => smallD d ∧ smallDs ds
end
theorem smalls_get : ∀ {ds : List D} {i : Nat} {d : D}, smallDs ds → ds[i]? = some d → smallD d
  | [], i, d, _, h => by simp at h
  | e :: ds, 0, d, p, h => by
    have : e = d := Option.some.inj h
    subst this
    unfold smallDs at p; exact p.1
  | e :: ds, i + 1, d, p, h => by
    unfold smallDs at p
    exact smalls_get p.2 (by simpa using h)
theorem smalls_all : ∀ {ds : List D}, (∀ d ∈ ds, smallD d) → smallDs ds
  | [], _ => by unfold smallDs; trivial
  | e :: ds, h => by unfold smallDs; exact ⟨h e (List.Mem.head _), smalls_all fun d hd => h d (List.Mem.tail _ hd)⟩
theorem plains_all : ∀ {ds : List D}, (∀ d ∈ ds, plainD d = true) → plainDs ds = true
  | [], _ => by unfold plainDs; rfl
  | e :: ds, h => by unfold plainDs; rw [h e (List.Mem.head _), plains_all fun d hd => h d (List.Mem.tail _ hd)]; rfl
theorem deps_all {n : Nat} : ∀ {ds : List D}, (∀ d ∈ ds, depD d ≤ n) → depDs ds ≤ n
  | [], _ => by unfold depDs; exact Nat.zero_le _
  | e :: ds, h => by unfold depDs; exact Nat.max_le.mpr ⟨h e (List.Mem.head _), deps_all fun d hd => h d (List.Mem.tail _ hd)⟩
/-- data that can be compared: plain, so deep, not long -/
def Cmp (n : Nat) (d : D) : Prop := plainD d = true ∧ depD d ≤ n ∧ smallD d
theorem Cmp.lst {n : Nat} {ds : List D} (hl : ds.length < 1000000) (h : ∀ d ∈ ds, Cmp n d) : Cmp (n + 1) (.lst ds) :=
  ⟨by unfold plainD; exact plains_all fun d hd => (h d hd).1, by unfold depD; exact Nat.succ_le_succ (deps_all fun d hd => (h d hd).2.1), by unfold smallD; exact ⟨hl, smalls_all fun d hd => (h d hd).2.2⟩⟩
theorem Cmp.tup {n : Nat} {ds : List D} (hl : ds.length < 1000000) (h : ∀ d ∈ ds, Cmp n d) : Cmp (n + 1) (.tup ds) :=
  ⟨by unfold plainD; exact plains_all fun d hd => (h d hd).1, by unfold depD; exact Nat.succ_le_succ (deps_all fun d hd => (h d hd).2.1), by unfold smallD; exact ⟨hl, smalls_all fun d hd => (h d hd).2.2⟩⟩
theorem Cmp.int {n : Nat} (i : Int) : Cmp n (.int i) := ⟨by unfold plainD; rfl, by unfold depD; exact Nat.zero_le _, by unfold smallD; trivial⟩
theorem Cmp.str {n : Nat} {x : Str} (h : SOk x := by decide +kernel) : Cmp n (.str x) := ⟨by unfold plainD; rfl, by unfold depD; exact Nat.zero_le _, by unfold smallD; exact h⟩
theorem Cmp.bl {n : Nat} (b : Bool) : Cmp n (.bl b) := ⟨by unfold plainD; rfl, by unfold depD; exact Nat.zero_le _, by unfold smallD; trivial⟩
theorem Cmp.non {n : Nat} : Cmp n .non := ⟨by unfold plainD; rfl, by unfold depD; exact Nat.zero_le _, by unfold smallD; trivial⟩
theorem Cmp.up {n m : Nat} {d : D} (h : Cmp n d) (hm : n ≤ m := by decide) : Cmp m d := ⟨h.1, Nat.le_trans h.2.1 hm, h.2.2⟩
instance (x : Str) : Decidable (SOk x) := by unfold SOk; infer_instance
mutual
theorem shape_of : ∀ {d : D}, plainD d = true → smallD d → (toPy d).canLay0 = true ∧ (toPy d).depth ≤ depD d
  | .non, _, _ => by unfold toPy; exact ⟨rfl, Nat.zero_le _⟩
  | .bl b, _, _ => by unfold toPy; exact ⟨rfl, Nat.zero_le _⟩
  | .int b, _, _ => by unfold toPy; exact ⟨rfl, Nat.zero_le _⟩
  | .str b, _, h => by
    unfold smallD at h
    unfold toPy; exact ⟨h, Nat.zero_le _⟩
  | .tup ds, p, h => by
    unfold plainD at p
    unfold smallD at h
    have := shapes_of p h.2
    unfold toPy depD
    exact ⟨this.1, Nat.succ_le_succ this.2⟩
  | .lst ds, p, h => by
    unfold plainD at p
    unfold smallD at h
    have := shapes_of p h.2
    unfold toPy depD
    exact ⟨this.1, Nat.succ_le_succ this.2⟩
  | .dk _, p, _ => by unfold plainD at p; cases p
  | .dt _, p, _ => by unfold plainD at p; cases p
  | .ins _ _, p, _ => by unfold plainD at p; cases p
  | .scr _, p, _ => by unfold plainD at p; cases p
  | .ty _, p, _ => by unfold plainD at p; cases p
  | .kt _, p, _ => by unfold plainD at p; cases p
theorem shapes_of : ∀ {ds : List D}, plainDs ds = true → smallDs ds → PyData.canLayAll0 (toPys ds) = true ∧ PyData.depthAll (toPys ds) ≤ depDs ds
  | [], _, _ => by unfold toPys; exact ⟨rfl, Nat.zero_le _⟩
  | d :: ds, p, h => by
    unfold plainDs at p
    unfold smallDs at h
    have p' := Bool.and_eq_true_iff.mp p
    have h1 := shape_of p'.1 h.1
    have h2 := shapes_of p'.2 h.2
    unfold toPys depDs
    refine ⟨by show (_ && _) = true; rw [h1.1, h2.1]; rfl, ?_⟩
    show max _ _ ≤ _
    omega
end
theorem Cmp.shaped {n : Nat} {d : D} (h : Cmp n d) (hn : n ≤ 64 := by decide) : SeqAt.shaped (toPy d) = true := by
  have := shape_of h.1 h.2.2
  unfold SeqAt.shaped
  rw [this.1, decide_eq_true (Nat.le_trans this.2 (Nat.le_trans h.2.1 hn))]
  rfl
def RSame (n : Nat) (ds : List D) (Φ : D → Prop) : Prop := ∃ d : D, ds = [d, d] ∧ plainD d = true ∧ depD d ≤ n ∧ smallD d ∧ Φ (.bl true)
theorem depDs_get : ∀ {ds : List D} {i : Nat} {d : D}, ds[i]? = some d → depD d ≤ depDs ds
  | [], i, d, h => by simp at h
  | e :: ds, 0, d, h => by
    have : e = d := Option.some.inj h
    subst this
    unfold depDs; exact Nat.le_max_left _ _
  | e :: ds, i + 1, d, h => by
    have := depDs_get (ds := ds) (i := i) (by simpa using h)
    unfold depDs; exact Nat.le_trans this (Nat.le_max_right _ _)
theorem plainDs_get : ∀ {ds : List D} {i : Nat} {d : D}, plainDs ds = true → ds[i]? = some d → plainD d = true
  | [], i, d, _, h => by simp at h
  | e :: ds, 0, d, p, h => by
    have : e = d := Option.some.inj h
    subst this
    unfold plainDs at p; exact (Bool.and_eq_true_iff.mp p).1
  | e :: ds, i + 1, d, p, h => by
    unfold plainDs at p
    exact plainDs_get (Bool.and_eq_true_iff.mp p).2 (by simpa using h)
def RLaw (ds : List D) (Φ : D → Prop) : Prop := ∃ ns : List Int, ds = [.scr ns] ∧ ns.length ≤ 63 ∧ Φ (.bl true)
theorem spL_start {K : PySem.W.Frag} {H : Hp} {a : Addr} {ns : List Int} {E : XK} (h : SqL K H a (ns.map L2.V.int)) (hl : ns.length ≤ 63) : SpD K RLaw [.ref a] H (fun v _ => v = .bl true) E :=
  ⟨H, [.scr ns], fun d => d = .bl true, Ex.rfl', .cons (.scr h) .nil, ⟨ns, rfl, hl, rfl⟩, fun v S' H' d _ _ _ _ r hd => by subst hd; cases r; rfl⟩
theorem Dg.app {l : List Int} {x : Int} (h : Dg l) (h0 : 0 ≤ x) (h1 : x < 1000) : Dg (l ++ [x]) := fun y hy => by
  rcases List.mem_append.mp hy with z | z
  · exact h y z
  · rw [List.mem_singleton.mp z]; exact ⟨h0, h1⟩
theorem mapInt_app (l : List Int) (x : Int) : l.map D.int ++ [D.int x] = (l ++ [x]).map D.int := by rw [List.map_append]; rfl
theorem app_l (a y : Str) : (a ++ y).cps.toList = a.cps.toList ++ y.cps.toList := by rw [Str.cps_append, Array.toList_append]
theorem len_l (a : Str) : a.length = a.cps.toList.length := Array.length_toList.symm
theorem get_range_int {n : Nat} {lo : Int} {i : Nat} {d : D} (h : ((List.range n).map fun (i : Nat) => D.int (lo + i))[i]? = some d) : i < n ∧ d = .int (lo + i) := by
  rw [List.getElem?_map] at h
  by_cases hi : i < n
  · rw [List.getElem?_range hi] at h
    exact ⟨hi, (Option.some.inj h).symm⟩
  · rw [List.getElem?_eq_none (by rw [List.length_range]; omega)] at h
    cases h
theorem len_range_int {n : Nat} {lo : Int} : ((List.range n).map fun (i : Nat) => D.int (lo + i)).length = n := by rw [List.length_map, List.length_range]
theorem atI_in {α : Type} {xs : List α} {n : Int} (h0 : 0 ≤ n) (h1 : n < xs.length) : ∃ v, atI xs n = some v ∧ v ∈ xs := by
  obtain ⟨k, rfl⟩ := Int.eq_ofNat_of_zero_le h0
  have hk : k < xs.length := by exact_mod_cast h1
  exact ⟨xs[k], atI_nat (List.getElem?_eq_getElem hk), List.getElem_mem hk⟩
abbrev solids : List Nat := (Str.ofString "!\"#$&'()*+,-./0123456789:;<=>?@ABCDEFGHIJKLMNOPQRSTUVWXYZ[\\]^_`abcdefghijklmnopqrstuvwxyz{|}~").cps.toList
theorem solids_ok : ∀ c ∈ solids, Solid c := by decide +kernel
abbrev anys : List Nat := (Str.ofString " !\"#$&'()*+,-./0123456789:;<=>?@ABCDEFGHIJKLMNOPQRSTUVWXYZ[\\]^_`abcdefghijklmnopqrstuvwxyz{|}~\n").cps.toList
theorem anys_ok : ∀ c ∈ anys, AnyC c := by decide +kernel
theorem kt_NoneType_list : kitB "NoneType" "list" = some false := by decide +kernel
theorem kt_NoneType_tuple : kitB "NoneType" "tuple" = some false := by decide +kernel
theorem kt_NoneType_bool : kitB "NoneType" "bool" = some false := by decide +kernel
theorem kt_NoneType_str : kitB "NoneType" "str" = some false := by decide +kernel
theorem kt_NoneType_int : kitB "NoneType" "int" = some false := by decide +kernel
theorem kt_NoneType_dict : kitB "NoneType" "dict" = some false := by decide +kernel
theorem kt_bool_list : kitB "bool" "list" = some false := by decide +kernel
theorem kt_bool_tuple : kitB "bool" "tuple" = some false := by decide +kernel
theorem kt_bool_bool : kitB "bool" "bool" = some true := by decide +kernel
theorem kt_bool_str : kitB "bool" "str" = some false := by decide +kernel
theorem kt_bool_int : kitB "bool" "int" = some true := by decide +kernel
theorem kt_bool_dict : kitB "bool" "dict" = some false := by decide +kernel
theorem kt_int_list : kitB "int" "list" = some false := by decide +kernel
theorem kt_int_tuple : kitB "int" "tuple" = some false := by decide +kernel
theorem kt_int_bool : kitB "int" "bool" = some false := by decide +kernel
theorem kt_int_str : kitB "int" "str" = some false := by decide +kernel
theorem kt_int_int : kitB "int" "int" = some true := by decide +kernel
theorem kt_int_dict : kitB "int" "dict" = some false := by decide +kernel
theorem kt_str_list : kitB "str" "list" = some false := by decide +kernel
theorem kt_str_tuple : kitB "str" "tuple" = some false := by decide +kernel
theorem kt_str_bool : kitB "str" "bool" = some false := by decide +kernel
theorem kt_str_str : kitB "str" "str" = some true := by decide +kernel
theorem kt_str_int : kitB "str" "int" = some false := by decide +kernel
theorem kt_str_dict : kitB "str" "dict" = some false := by decide +kernel
theorem kt_tuple_list : kitB "tuple" "list" = some false := by decide +kernel
theorem kt_tuple_tuple : kitB "tuple" "tuple" = some true := by decide +kernel
theorem kt_tuple_bool : kitB "tuple" "bool" = some false := by decide +kernel
theorem kt_tuple_str : kitB "tuple" "str" = some false := by decide +kernel
theorem kt_tuple_int : kitB "tuple" "int" = some false := by decide +kernel
theorem kt_tuple_dict : kitB "tuple" "dict" = some false := by decide +kernel
theorem kt_list_list : kitB "list" "list" = some true := by decide +kernel
theorem kt_list_tuple : kitB "list" "tuple" = some false := by decide +kernel
theorem kt_list_bool : kitB "list" "bool" = some false := by decide +kernel
theorem kt_list_str : kitB "list" "str" = some false := by decide +kernel
theorem kt_list_int : kitB "list" "int" = some false := by decide +kernel
theorem kt_list_dict : kitB "list" "dict" = some false := by decide +kernel
theorem kt_dict_list : kitB "dict" "list" = some false := by decide +kernel
theorem kt_dict_tuple : kitB "dict" "tuple" = some false := by decide +kernel
theorem kt_dict_bool : kitB "dict" "bool" = some false := by decide +kernel
theorem kt_dict_str : kitB "dict" "str" = some false := by decide +kernel
theorem kt_dict_int : kitB "dict" "int" = some false := by decide +kernel
theorem kt_dict_dict : kitB "dict" "dict" = some true := by decide +kernel
theorem okC_nil {vs : List Nat} {k : Nat} : okC vs k [] := trivial
theorem okC_no {vs : List Nat} {k : Nat} {T : List Sl} (h : okC vs (k + 1) T) : okC vs k (.no :: T) := ⟨by cases vs.contains k with | true => rfl | false => exact fun c z => (by cases z), h⟩
theorem okC_va {vs : List Nat} {k : Nat} {d : D} {T : List Sl} (hk : vs.contains k = false) (h : okC vs (k + 1) T) : okC vs k (.va d :: T) := ⟨by rw [hk]; exact fun c z => (by cases z), h⟩
theorem okC_ow {vs : List Nat} {k : Nat} {d : D} {T : List Sl} (hk : vs.contains k = false) (h : okC vs (k + 1) T) : okC vs k (.ow true d :: T) := ⟨by rw [hk]; exact fun c z => (by cases z), h⟩
theorem xts_nil {X : Cx} {F : Fm} {G : List Sl} {Kk : Bool → List Sl → Prop} (k : Kk true G) : XTs X F [] G Kk := k
theorem xts_one {X : Cx} {F : Fm} {G : List Sl} {c : Expr} {Kk : Bool → List Sl → Prop} (k : XT X F c G Kk) : XTs X F [c] G Kk := k
abbrev s0 : Str := Str.ofString ""
theorem s0_nil : s0.cps.toList = [] := by decide +kernel
theorem none_in {Q : Nat → Prop} : ∀ ch ∈ s0.cps.toList, Q ch := fun ch h => by rw [s0_nil] at h; cases h
theorem _root_.L2.Room.in1' {j k : Nat} {A : Around} (r : Room k A) (h : j ≤ k := by decide) : Room j A := r.mono h
end Pu

namespace Pu
open PySem PySem.Spec PyProof.Rows L2

/-! more operations -/
def flatD : D → Bool
  | .non => true
  | .bl _ => true
  | .int _ => true
  | .str _ => true
  | _ => false
def eqF : D → D → Bool
  | .non, .non => true
  | .bl a, .bl b => a == b
  | .bl a, .int b => (if a then 1 else 0) == b
  | .int a, .bl b => a == (if b then 1 else 0)
  | .int a, .int b => a == b
  | .str a, .str b => a == b
  | _, _ => false
def inD (x : D) (ds : List D) : Bool := ds.any fun y => eqF y x
theorem Rep.flat {K : PySem.W.Frag} {S : Hp} {v : L2.V} {d : D} (r : Rep K S v d) (h : flatD d = true) : flatV v = true := by
  cases r <;> first | rfl | cases h
theorem Rep.eqF {K : PySem.W.Frag} {S : Hp} {v w : L2.V} {d e : D} (r : Rep K S v d) (q : Rep K S w e) (h : flatD d = true) (h' : flatD e = true) : eqV v w = eqF d e := by
  cases r <;> cases q <;> first | rfl | exact Bool.noConfusion h | exact Bool.noConfusion h'
theorem Reps.flat {K : PySem.W.Frag} {S : Hp} : ∀ {vs : List L2.V} {ds : List D}, Reps K S vs ds → ds.all flatD = true → vs.all flatV = true
  | _, _, .nil, _ => rfl
  | _, _, .cons h r, p => by
    rw [List.all_cons, Bool.and_eq_true] at p ⊢
    exact ⟨h.flat p.1, Reps.flat r p.2⟩
theorem Reps.inD {K : PySem.W.Frag} {S : Hp} {v : L2.V} {d : D} (rv : Rep K S v d) (hd : flatD d = true) : ∀ {vs : List L2.V} {ds : List D}, Reps K S vs ds → ds.all flatD = true → inV v vs = inD d ds
  | _, _, .nil, _ => rfl
  | _, _, .cons h r, p => by
    rw [List.all_cons, Bool.and_eq_true] at p
    have := Reps.inD rv hd r p.2
    unfold inV Pu.inD at this ⊢
    rw [List.any_cons, List.any_cons, this, h.eqF rv p.1 hd]
theorem inD_int {i : Int} {l : List Int} : inD (.int i) (l.map D.int) = decide (i ∈ l) := by
  unfold inD
  rw [List.any_map]
  induction l with
  | nil => rfl
  | cons x l ih =>
    rw [List.any_cons, ih]
    show ((x == i) || _) = _
    by_cases h : x = i
    · subst h; simp
    · have h' : i ≠ x := fun z => h z.symm
      rw [beq_eq_false_iff_ne.mpr h]
      simp [h']
theorem inD_str {x : Str} {l : List Str} : inD (.str x) (l.map D.str) = decide (x ∈ l) := by
  unfold inD
  rw [List.any_map]
  induction l with
  | nil => rfl
  | cons y l ih =>
    rw [List.any_cons, ih]
    show ((y == x) || _) = _
    by_cases h : y = x
    · subst h; simp
    · have h' : x ≠ y := fun z => h z.symm
      have : (y == x) = false := beq_eq_false_iff_ne.mpr h
      rw [this]
      simp [h']
theorem flat_int (l : List Int) : (l.map D.int).all flatD = true := by rw [List.all_map]; exact List.all_eq_true.mpr fun _ _ => rfl
theorem flat_str (l : List Str) : (l.map D.str).all flatD = true := by rw [List.all_map]; exact List.all_eq_true.mpr fun _ _ => rfl
section
variable {X : Cx} {F : Fm} {G : List Sl} {Kk : D → List Sl → Prop} {pos : Pos}
/-- a op b op' c -/
theorem xe_chain {op op' : CmpOp} {a b c : Expr} (h : XE X F a G fun x G1 => XE X F b G1 fun y G2 => XO X F (compareOp op) x y G2 fun d G3 => ∃ k, d = .bl k ∧
      (k = true → XE X F c G3 fun z G4 => XO X F (compareOp op') y z G4 Kk) ∧ (k = false → Kk (.bl false) G3)) (hm : lastMarks [op, op'] [b, c] = false := by with_unfolding_all rfl) : XE X F (.Compare a [op, op'] [b, c] pos) G Kk := by
  intro S H σ I
  have sem : ∀ o : CmpOp, OpR X (compareOp o) (fun x y H Q => ∀ pins s σ u w, Inv X pins σ H s → RelV x u → RelV y w → wpAny (model X.prog X.w) X.A (compareOp o u w) (EP X pins σ Q) X.xe s) := fun o pins s σ H x y u w Q I rx ry h => h pins s σ u w I rx ry
  refine semE_of (pe_chain (sem op) (sem op') pe_sem pe_sem pe_sem hm) ?_
  refine semE_mono (h S H σ I) fun v1 H1 ⟨x, G1, S1, I1, e1, r1, q1⟩ => ?_
  refine semE_mono (q1 S1 H1 σ I1) fun v2 H2 ⟨y, G2, S2, I2, e2, r2, r, hr, q2⟩ => ?_
  intro pins s σ' u w Iv rx ry
  refine thn (hr pins s σ' H2 v1 v2 u w _ Iv rx ry (q2 S2 H2 σ v1 v2 I2 (r1.mono e2) r2)) fun u' s' ⟨v, H', I', rv, d, G3, S3, I3, e3, r3, k, hk, k1, k2⟩ => ?_
  subst hk
  cases r3
  refine ⟨_, H', I', rv, k, rfl, ?_⟩
  cases k with
  | true =>
    refine iteT ?_
    refine semE_mono ((k1 rfl) S3 H' σ I3) fun v4 H4 ⟨z, G4, S4, I4, e4, r4, r', hr', q4⟩ => ?_
    intro pins s σ'' u4 w4 Iv4 rx4 ry4
    exact thn (hr' pins s σ'' H4 v2 v4 u4 w4 _ Iv4 rx4 ry4 (q4 S4 H4 σ v2 v4 I4 (r2.mono (e3.tr e4)) r4)) fun u' s' ⟨v, H', I', rv, k⟩ => ⟨v, H', I', rv, k.of (((e1.tr e2).tr e3).tr e4)⟩
  | false => exact iteF (.at I3 ((e1.tr e2).tr e3) (.bl false) (k2 rfl))
theorem xo_leS {x y : Str} (k : Kk (.bl (!decide (y.cps.toList < x.cps.toList))) G) : XO X F (compareOp .LtE) (.str x) (.str y) G Kk :=
  ⟨_, op_le_str, fun S H σ vx vy I rx ry => by cases rx; cases ry; exact ⟨x, y, rfl, rfl, .at I Ex.rfl' (.bl _) k⟩⟩
theorem xo_rep {xs : List D} {n : Int} (h0 : -(2 ^ 63) ≤ n) (h1 : n < 2 ^ 63) (hz : xs.length * n.toNat ≤ 1000000) (k : Kk (.lst (List.replicate n.toNat xs).flatten) G) : XO X F (binaryOp .Mult) (.lst xs) (.int n) G Kk :=
  ⟨_, op_rep, fun S H σ vx vy I rx ry => by
    cases ry
    cases rx with
    | @lst a vs _ h r =>
      refine ⟨a, n, vs, rfl, rfl, I.fr.ex _ _ h, h0, h1, by rw [r.length]; exact Nat.le_trans hz (by decide), fun p hp => ?_⟩
      obtain ⟨I2, e2⟩ := I.alloc (o := .lst (List.replicate n.toNat vs).flatten) hp
      have rr : ∀ m : Nat, Reps X.K S (List.replicate m vs).flatten (List.replicate m xs).flatten := fun m => by
        induction m with
        | zero => exact .nil
        | succ m ih => rw [List.replicate_succ, List.replicate_succ, List.flatten_cons, List.flatten_cons]; exact r.append ih
      exact .at I2 e2 (.lst upd_same ((rr _).mono e2)) k⟩
theorem xc_max2 {i j : Int} (hc : X.calm = true) (k : Kk (.int (max i j)) G) : XC X F (.builtin "max") [.int i, .int j] G Kk :=
  ⟨_, call_max2 hc, fun S H σ vs I r => by
    cases r with
    | cons h t =>
      cases t with
      | cons h' t =>
        cases t; cases h; cases h'
        have e : (if j > i then j else i) = max i j := by split <;> omega
        exact ⟨i, j, rfl, by rw [e]; exact .at I Ex.rfl' (.int _) k⟩⟩
theorem xc_min2 {i j : Int} (hc : X.calm = true) (k : Kk (.int (min i j)) G) : XC X F (.builtin "min") [.int i, .int j] G Kk :=
  ⟨_, call_min2 hc, fun S H σ vs I r => by
    cases r with
    | cons h t =>
      cases t with
      | cons h' t =>
        cases t; cases h; cases h'
        have e : (if j < i then j else i) = min i j := by split <;> omega
        exact ⟨i, j, rfl, by rw [e]; exact .at I Ex.rfl' (.int _) k⟩⟩
theorem xc_int_bl {b : Bool} (k : Kk (.int (if b then 1 else 0)) G) : XC X F (.type "int") [.bl b] G Kk :=
  ⟨_, call_int1, fun S H σ vs I r => by
    cases r with
    | cons h t =>
      cases t
      cases h
      exact .inr ⟨_, rfl, .at I Ex.rfl' (.int _) k⟩⟩
/-- in, not in: a list or tuple of flat things -/
theorem xo_in {x : D} {ds : List D} (hx : flatD x = true) (hd : ds.all flatD = true) (k : Kk (.bl (inD x ds)) G) : XO X F (compareOp .In) x (.lst ds) G Kk :=
  ⟨_, op_in_seq, fun S H σ vx vy I rx ry => by
    cases ry with
    | lst h r => exact ⟨_, _, rfl, .inl (SqL.of (I.fr.ex _ _ h)), rx.flat hx, r.flat hd, by rw [if_neg Bool.false_ne_true, Reps.inD rx hx r hd]; exact .at I Ex.rfl' (.bl _) k⟩⟩
theorem xo_inT {x : D} {ds : List D} (hx : flatD x = true) (hd : ds.all flatD = true) (k : Kk (.bl (inD x ds)) G) : XO X F (compareOp .In) x (.tup ds) G Kk :=
  ⟨_, op_in_seq, fun S H σ vx vy I rx ry => by
    cases ry with
    | tup h r => exact ⟨_, _, rfl, .inr (SqT.of (I.fr.ex _ _ h)), rx.flat hx, r.flat hd, by rw [if_neg Bool.false_ne_true, Reps.inD rx hx r hd]; exact .at I Ex.rfl' (.bl _) k⟩⟩
theorem xo_ni {x : D} {ds : List D} (hx : flatD x = true) (hd : ds.all flatD = true) (k : Kk (.bl (!inD x ds)) G) : XO X F (compareOp .NotIn) x (.lst ds) G Kk :=
  ⟨_, op_notIn_seq, fun S H σ vx vy I rx ry => by
    cases ry with
    | lst h r => exact ⟨_, _, rfl, .inl (SqL.of (I.fr.ex _ _ h)), rx.flat hx, r.flat hd, by rw [if_pos rfl, Reps.inD rx hx r hd]; exact .at I Ex.rfl' (.bl _) k⟩⟩
theorem xo_niT {x : D} {ds : List D} (hx : flatD x = true) (hd : ds.all flatD = true) (k : Kk (.bl (!inD x ds)) G) : XO X F (compareOp .NotIn) x (.tup ds) G Kk :=
  ⟨_, op_notIn_seq, fun S H σ vx vy I rx ry => by
    cases ry with
    | tup h r => exact ⟨_, _, rfl, .inr (SqT.of (I.fr.ex _ _ h)), rx.flat hx, r.flat hd, by rw [if_pos rfl, Reps.inD rx hx r hd]; exact .at I Ex.rfl' (.bl _) k⟩⟩
/-- x not in xs, xs the slot's own list, which stays its own -/
theorem xe_nio (i : Nat) {a : Expr} {x : Str} {p1 : Pos} (hG : ∃ q c, G[i]? = some (.ow q c)) (h : XE X F a G fun d G1 => ∃ q ds, G1[i]? = some (.ow q (.lst ds)) ∧ flatD d = true ∧ ds.all flatD = true ∧ Kk (.bl (!inD d ds)) G1)
    (hN : X.N[i]? = some x := by rfl) (hv : Vis X.env.scope x := by first | exact Or.inl rfl | exact Or.inr (Or.inl rfl) | exact Or.inr (Or.inr rfl)) (hd : (x == ("__debug__" : Str)) = false := by decide) (hcd : (x == ("__classdict__" : Str)) = false := by decide) :
    XE X F (.Compare a [.NotIn] [.Name x p1] pos) G Kk := by
  intro S H σ I
  obtain ⟨_, c, hc⟩ := hG
  obtain ⟨p0, _, ep0, _⟩ := I.ow hc
  refine semE_of (pe_cmpR op_notIn_seq pe_sem (pe_var hN hv hd hcd) rfl) ?_
  refine semE_mono (h S H σ I) fun v1 H1 ⟨x, G1, S1, I1, e1, r1, _, ds, g1, hx, hds, k⟩ => ?_
  refine ⟨_, ep0, ?_⟩
  obtain ⟨p, o, ep, n, hb, ho, r⟩ := I1.ow g1
  rw [ep0] at ep; cases ep
  cases r with
  | lst r => exact ⟨_, _, rfl, .inl (SqL.of ho), r1.flat hx, r.flat hds, by rw [if_pos rfl, Reps.inD r1 hx r hds]; exact .at I1 e1 (.bl _) k⟩
theorem xe_ino (i : Nat) {a : Expr} {x : Str} {p1 : Pos} (hG : ∃ q c, G[i]? = some (.ow q c)) (h : XE X F a G fun d G1 => ∃ q ds, G1[i]? = some (.ow q (.lst ds)) ∧ flatD d = true ∧ ds.all flatD = true ∧ Kk (.bl (inD d ds)) G1)
    (hN : X.N[i]? = some x := by rfl) (hv : Vis X.env.scope x := by first | exact Or.inl rfl | exact Or.inr (Or.inl rfl) | exact Or.inr (Or.inr rfl)) (hd : (x == ("__debug__" : Str)) = false := by decide) (hcd : (x == ("__classdict__" : Str)) = false := by decide) :
    XE X F (.Compare a [.In] [.Name x p1] pos) G Kk := by
  intro S H σ I
  obtain ⟨_, c, hc⟩ := hG
  obtain ⟨p0, _, ep0, _⟩ := I.ow hc
  refine semE_of (pe_cmpR op_in_seq pe_sem (pe_var hN hv hd hcd) rfl) ?_
  refine semE_mono (h S H σ I) fun v1 H1 ⟨x, G1, S1, I1, e1, r1, _, ds, g1, hx, hds, k⟩ => ?_
  refine ⟨_, ep0, ?_⟩
  obtain ⟨p, o, ep, n, hb, ho, r⟩ := I1.ow g1
  rw [ep0] at ep; cases ep
  cases r with
  | lst r => exact ⟨_, _, rfl, .inl (SqL.of ho), r1.flat hx, r.flat hds, by rw [if_neg Bool.false_ne_true, Reps.inD r1 hx r hds]; exact .at I1 e1 (.bl _) k⟩
theorem xt_nio (i : Nat) {Kb : Bool → List Sl → Prop} {a : Expr} {x : Str} {p1 : Pos} (hG : ∃ q c, G[i]? = some (.ow q c)) (h : XE X F a G fun d G1 => ∃ q ds, G1[i]? = some (.ow q (.lst ds)) ∧ flatD d = true ∧ ds.all flatD = true ∧ Kb (!inD d ds) G1)
    (hN : X.N[i]? = some x := by rfl) (hv : Vis X.env.scope x := by first | exact Or.inl rfl | exact Or.inr (Or.inl rfl) | exact Or.inr (Or.inr rfl)) (hd : (x == ("__debug__" : Str)) = false := by decide) (hcd : (x == ("__classdict__" : Str)) = false := by decide) :
    XT X F (.Compare a [.NotIn] [.Name x p1] pos) G Kb := by
  intro S H σ I
  obtain ⟨_, c, hc⟩ := hG
  obtain ⟨p0, _, ep0, _⟩ := I.ow hc
  refine semT_of (pt_cmpR op_notIn_seq pe_sem (pe_var hN hv hd hcd) rfl) ?_
  refine semE_mono (h S H σ I) fun v1 H1 ⟨x, G1, S1, I1, e1, r1, _, ds, g1, hx, hds, k⟩ => ?_
  refine ⟨_, ep0, ?_⟩
  obtain ⟨p, o, ep, n, hb, ho, r⟩ := I1.ow g1
  rw [ep0] at ep; cases ep
  cases r with
  | lst r => exact ⟨_, _, rfl, .inl (SqL.of ho), r1.flat hx, r.flat hds, by rw [if_pos rfl, Reps.inD r1 hx r hds]; exact ⟨_, rfl, G1, S1, I1, e1, k⟩⟩
theorem xt_ino (i : Nat) {Kb : Bool → List Sl → Prop} {a : Expr} {x : Str} {p1 : Pos} (hG : ∃ q c, G[i]? = some (.ow q c)) (h : XE X F a G fun d G1 => ∃ q ds, G1[i]? = some (.ow q (.lst ds)) ∧ flatD d = true ∧ ds.all flatD = true ∧ Kb (inD d ds) G1)
    (hN : X.N[i]? = some x := by rfl) (hv : Vis X.env.scope x := by first | exact Or.inl rfl | exact Or.inr (Or.inl rfl) | exact Or.inr (Or.inr rfl)) (hd : (x == ("__debug__" : Str)) = false := by decide) (hcd : (x == ("__classdict__" : Str)) = false := by decide) :
    XT X F (.Compare a [.In] [.Name x p1] pos) G Kb := by
  intro S H σ I
  obtain ⟨_, c, hc⟩ := hG
  obtain ⟨p0, _, ep0, _⟩ := I.ow hc
  refine semT_of (pt_cmpR op_in_seq pe_sem (pe_var hN hv hd hcd) rfl) ?_
  refine semE_mono (h S H σ I) fun v1 H1 ⟨x, G1, S1, I1, e1, r1, _, ds, g1, hx, hds, k⟩ => ?_
  refine ⟨_, ep0, ?_⟩
  obtain ⟨p, o, ep, n, hb, ho, r⟩ := I1.ow g1
  rw [ep0] at ep; cases ep
  cases r with
  | lst r => exact ⟨_, _, rfl, .inl (SqL.of ho), r1.flat hx, r.flat hds, by rw [if_neg Bool.false_ne_true, Reps.inD r1 hx r hds]; exact ⟨_, rfl, G1, S1, I1, e1, k⟩⟩
/-- len(xs), xs the slot's own list -/
theorem xe_leno (i : Nat) {x : Str} {p1 p2 : Pos} {q : Bool} {ds : List D} (hG : G[i]? = some (.ow q (.lst ds))) (hm : X.mg "len" = none) (k : Kk (.int ds.length) G) (hg : Gl X "len" := by rfl)
    (hN : X.N[i]? = some x := by rfl) (hv : Vis X.env.scope x := by first | exact Or.inl rfl | exact Or.inr (Or.inl rfl) | exact Or.inr (Or.inr rfl)) (hd : (x == ("__debug__" : Str)) = false := by decide) (hcd : (x == ("__classdict__" : Str)) = false := by decide)
    (he : starEach [.Name x p1] X.env = (false, eval (.Name x p1) X.env) :: starEach [] X.env := by rfl) (hpl : (backTo pos (starEach [] X.env)).any (·.1) = false := by rfl) : XE X F (.Call (.Name "len" p2) [.Name x p1] [] pos) G Kk := by
  intro S H σ I
  obtain ⟨p, o, ep, n, hb, ho, r⟩ := I.ow hG
  refine semE_of (pe_callB call_len_seq hg hm PySem.boot_len (pa_cons (pe_var hN hv hd hcd) pa_nil he) (by decide) (by decide) he hpl) ?_
  cases r with
  | lst r => exact ⟨_, ep, _, _, rfl, .inl (SqL.of ho), by rw [r.length]; exact .at I Ex.rfl' (.int _) k⟩
/-- text * int -/
theorem op_mulS : OpR X (binaryOp .Mult) (fun x y H Q => ∃ z n, x = .str z ∧ y = .int n ∧ MulOk z n ∧ Q (.str (Txt.mul z n)) H) := by
  intro pins s σ H x y v u Q I rx ry h
  obtain ⟨z, n, rfl, rfl, hok, q⟩ := h
  obtain ⟨t, rfl⟩ := rx
  obtain ⟨t', rfl⟩ := ry
  exact SB.mul hok fun t' k => ⟨.str _, H, I.tok _, ⟨_, rfl⟩, q⟩
theorem mulOk {z : Str} {n : Int} (h0 : 0 ≤ n) (h1 : n ≤ 1000) (hz : z.length ≤ 1000) : MulOk z n := by
  refine ⟨?_, fun h _ => ?_, fun h _ => ?_⟩
  · rw [decide_eq_false (by omega), decide_eq_false (by omega)]; rfl
  · intro hgt
    have h2 : (2 ^ 63 - 1 : Int) / n ≥ (2 ^ 63 - 1) / 1000 := by
      have hn : 0 < n := by omega
      apply Int.le_ediv_of_mul_le hn
      have : ((2 ^ 63 - 1 : Int) / 1000) * n ≤ ((2 ^ 63 - 1 : Int) / 1000) * 1000 := Int.mul_le_mul_of_nonneg_left h1 (by decide)
      exact Int.le_trans this (by decide)
    have h3 : ((2 ^ 63 - 1 : Int) / 1000) = 9223372036854775 := by decide
    omega
  · have : z.length * n.toNat ≤ 1000 * 1000 := Nat.mul_le_mul hz (by omega)
    unfold Builtin.Str.tooLong
    exact decide_eq_false (by
      have e : sizeLine = 16777216 := by decide
      first | omega | (rw [e]; omega))
theorem xo_mulS {z : Str} {n : Int} (h0 : 0 ≤ n) (h1 : n ≤ 1000) (hz : z.length ≤ 1000) (k : Kk (.str (Txt.mul z n)) G) : XO X F (binaryOp .Mult) (.str z) (.int n) G Kk :=
  ⟨_, op_mulS, fun S H σ vx vy I rx ry => by cases rx; cases ry; exact ⟨z, n, rfl, rfl, mulOk h0 h1 hz, .at I Ex.rfl' (.str _) k⟩⟩
end
theorem fold_len (x : Array Nat) : ∀ (k : Nat) (a : Array Nat), ((List.replicate k x).foldl (· ++ ·) a).size = a.size + k * x.size
  | 0, a => by simp
  | k + 1, a => by rw [List.replicate_succ, List.foldl_cons, fold_len x k, Array.size_append, Nat.succ_mul]; omega
theorem mul_len {z : Str} {n : Int} (h0 : 0 ≤ n) : (Txt.mul z n).length ≤ z.length * n.toNat := by
  unfold Txt.mul
  split
  · exact Nat.zero_le _
  · split
    · rename_i h
      rcases Bool.or_eq_true_iff.mp h with h | h
      · have : n = 1 := by simpa using h
        subst this; simp
      · have : z.length = 0 := by simpa using h
        omega
    · have := fold_len z.cps n.toNat #[]
      show ((List.replicate n.toNat z.cps).foldl (· ++ ·) #[]).size ≤ _
      rw [this]
      show 0 + n.toNat * z.cps.size ≤ z.cps.size * n.toNat
      rw [Nat.zero_add, Nat.mul_comm]; exact Nat.le_refl _
theorem nodup_len : ∀ (n : Nat) (l : List Nat), l.Nodup → (∀ x ∈ l, x < n) → l.length ≤ n
  | 0, l, _, h => by
    cases l with
    | nil => exact Nat.le_refl _
    | cons a r => exact absurd (h a (List.Mem.head _)) (Nat.not_lt_zero _)
  | n + 1, l, hn, h => by
    by_cases hm : n ∈ l
    · have h1 := List.length_erase_of_mem hm
      have h2 := nodup_len n (l.erase n) (hn.erase n) fun x hx => by
        have a := h x (List.mem_of_mem_erase hx)
        have b : x ≠ n := fun e => by subst e; exact (hn.mem_erase_iff.mp hx).1 rfl
        omega
      have h3 : 0 < l.length := List.length_pos_of_mem hm
      omega
    · have := nodup_len n l hn fun x hx => by
        have a := h x hx
        have b : x ≠ n := fun e => by subst e; exact hm hx
        omega
      omega
end Pu

namespace Pu
open PySem PySem.Spec PyProof.Rows L2
theorem Reps.ints {K : PySem.W.Frag} {S : Hp} : ∀ {vs : List L2.V} {ns : List Int}, Reps K S vs (ns.map D.int) → vs = ns.map L2.V.int
  | _, [], .nil => rfl
  | _, n :: ns, .cons h r => by
    cases h
    rw [List.map_cons, Reps.ints r]
section
variable {X : Cx} {F : Fm} {G : List Sl} {Kk : D → List Sl → Prop} {pos : Pos}
theorem xo_isB {a b : Bool} (k : Kk (.bl (decide (a = b))) G) : XO X F (compareOp .Is) (.bl a) (.bl b) G Kk :=
  ⟨_, op_isBl, fun S H σ vx vy I rx ry => by cases rx; cases ry; exact ⟨a, b, rfl, rfl, .at I Ex.rfl' (.bl _) k⟩⟩
theorem xo_isntB {a b : Bool} (k : Kk (.bl (!decide (a = b))) G) : XO X F (compareOp .IsNot) (.bl a) (.bl b) G Kk :=
  ⟨_, op_notBl, fun S H σ vx vy I rx ry => by cases rx; cases ry; exact ⟨a, b, rfl, rfl, .at I Ex.rfl' (.bl _) k⟩⟩
theorem xc_sum {ns : List Int} (hc : X.calm = true) (k : Kk (.int ns.sum) G) : XC X F (.builtin "sum") [.lst (ns.map D.int)] G Kk :=
  ⟨_, cr_sum hc, fun S H σ vs I r => by
    cases r with
    | cons h t =>
      cases t
      cases h with
      | lst h r =>
        have e := r.ints
        subst e
        exact ⟨_, ns, rfl, SqL.of (I.fr.ex _ _ h), .at I Ex.rfl' (.int _) k⟩⟩
/-- x.insert(i, e), x the slot's own list -/
theorem xs_ins (i : Nat) {P : Pst} {e1 e2 : Expr} {x : Str} {p1 p2 p3 : Pos} (hG : ∃ q ds, G[i]? = some (.ow q (.lst ds))) (h : XA X F [e1, e2] G fun as G1 => ∃ q ds k d, as = [.int k, d] ∧ G1[i]? = some (.ow q (.lst ds)) ∧ ds.length < 1000000 ∧ 0 ≤ k ∧ k < 2 ^ 63 ∧ P.nx (G1.set i (.ow q (.lst (ds.take k.toNat ++ [d] ++ ds.drop k.toNat)))))
    (hN : X.N[i]? = some x := by rfl) (hv : Vis X.env.scope x := by first | exact Or.inl rfl | exact Or.inr (Or.inl rfl) | exact Or.inr (Or.inr rfl)) (hd : (x == ("__debug__" : Str)) = false := by decide) (hcd : (x == ("__classdict__" : Str)) = false := by decide)
    (hbase : attributeBase (.Name x p1) "insert" X.env (eval (.Name x p1) X.env) = eval (.Name x p1) X.env := by rfl)
    (hfew : ((backTo p3 (starEach [e1, e2] X.env)).all (fun x => !x.1) && (backToKw p3 (keywordEach [] X.env)).all (fun x => x.1.isSome)
      && decide (([e1, e2] : List Expr).length + ([] : List Keyword).length + (if ([] : List Keyword).isEmpty then 0 else 1) < 30)) = true := by rfl)
    (hline : (p2.endLine == p3.line) = true := by rfl) (hs : starEach [e1, e2] X.env = (false, eval e1 X.env) :: starEach [e2] X.env := by rfl) (hplain : (backTo p3 (starEach [e2] X.env)).any (·.1) = false := by rfl)
    (hsw : swapsWith (.Call (.Attribute (.Name x p1) "insert" p2) [e1, e2] [] p3) none pos.line X.env = pure false := by rfl) :
    XS X F (.Expr (.Call (.Attribute (.Name x p1) "insert" p2) [e1, e2] [] p3) pos) G P := fun S H σ E I ok => by
  obtain ⟨_, ds0, hc⟩ := hG
  obtain ⟨p0, o0, ep0, _, _, ho0, rc0⟩ := I.ow hc
  refine semS_of (ps_expr (pe_bm PySem.F.plainAttrs_list PySem.F.slot_list_insert PySem.F.type_list_insert (mt_insert) (pe_var hN hv hd hcd) pa_sem hbase hfew hline hs hplain) hsw) ?_
  refine ⟨_, ep0, ?_, ?_⟩
  · cases rc0 with
    | lst r => exact .inl ⟨rfl, _, SqL.of ho0⟩
  refine semA_mono (h S H σ I) fun vs H1 ⟨as, G1, S1, I1, e1, r1, _, ds, k, d, ea, g1, hz, h0, hk, q⟩ => ?_
  subst ea
  cases r1 with
  | cons rk r1 =>
    cases r1 with
    | cons rd r1 =>
      cases r1
      cases rk
      obtain ⟨p, o, ep, n, hb, ho, r⟩ := I1.ow g1
      rw [ep0] at ep
      cases ep
      cases r with
      | @lst vs _ r =>
        refine ⟨_, vs, k, _, rfl, rfl, ho, by rw [r.length]; exact Nat.lt_trans hz (by decide), h0, hk, ?_⟩
        exact ok.nx _ S1 _ σ (I1.write g1 ep0 (.lst (((r.take _).append (.cons rd .nil)).append (r.drop _)))) e1 q
end
end Pu

namespace Pu
open PySem PySem.Spec PyProof.Rows L2

/-! dicts -/
def keyD : Key → D
  | .inl i => .int i
  | .inr x => .str x
theorem Rep.key {K : PySem.W.Frag} {S : Hp} {v : L2.V} {k : Key} (r : Rep K S v (keyD k)) : v = kV k := by
  cases k with
  | inl i => cases r; rfl
  | inr x => cases r; rfl
theorem Reps.keys {K : PySem.W.Frag} {S : Hp} : ∀ {ks : List Key} {vs : List L2.V}, Reps K S vs (ks.map keyD) → vs = ks.map kV
  | [], _, .nil => rfl
  | k :: ks, _, .cons h r => by rw [List.map_cons, h.key, Reps.keys r]
section
variable {κ : Type} [DecidableEq κ]
def gD (kds : List (κ × D)) (k : κ) : Option D := (kds.find? fun kv => decide (kv.1 = k)).map (·.2)
def pD (kds : List (κ × D)) (k : κ) (d : D) : List (κ × D) :=
  if (kds.any fun kv => decide (kv.1 = k)) = true then kds.map (fun kv => if kv.1 = k then (kv.1, d) else kv) else kds ++ [(k, d)]
theorem gD_nil {k : κ} : gD ([] : List (κ × D)) k = none := rfl
theorem gD_cons {p : κ × D} {r : List (κ × D)} {k : κ} : gD (p :: r) k = if p.1 = k then some p.2 else gD r k := by
  unfold gD
  rw [List.find?_cons]
  by_cases h : p.1 = k
  · rw [decide_eq_true h, if_pos h]; rfl
  · rw [decide_eq_false h, if_neg h]
theorem gD_any (k : κ) : ∀ kds : List (κ × D), (kds.any fun kv => decide (kv.1 = k)) = (gD kds k).isSome
  | [] => rfl
  | p :: r => by
    rw [List.any_cons, gD_any k r, gD_cons]
    by_cases h : p.1 = k
    · rw [decide_eq_true h, if_pos h]; rfl
    · rw [decide_eq_false h, if_neg h, Bool.false_or]
theorem pD_new {kds : List (κ × D)} {k : κ} {d : D} (h : gD kds k = none) : pD kds k d = kds ++ [(k, d)] := by
  unfold pD; rw [gD_any, h]; rfl
theorem gD_app {a b : List (κ × D)} {k : κ} : gD (a ++ b) k = (gD a k).or (gD b k) := by
  induction a with
  | nil => rfl
  | cons p a ih =>
    rw [List.cons_append, gD_cons, gD_cons, ih]
    by_cases h : p.1 = k
    · rw [if_pos h, if_pos h]; rfl
    · rw [if_neg h, if_neg h]
theorem gD_map (k j : κ) (d : D) : ∀ kds : List (κ × D), gD (kds.map fun kv => if kv.1 = k then (kv.1, d) else kv) j = if j = k then (gD kds j).map (fun _ => d) else gD kds j
  | [] => by simp [gD]
  | p :: r => by
    rw [List.map_cons, gD_cons, gD_cons, gD_map k j d r]
    by_cases h : p.1 = k
    · by_cases h2 : j = k
      · subst h2; simp [h]
      · have h3 : ¬ k = j := fun z => h2 z.symm
        rw [if_pos h, if_neg h2, if_neg h2]; dsimp only; rw [if_neg (fun z => h3 (h.symm.trans z)), if_neg (fun z => h3 (h.symm.trans z))]
    · by_cases h2 : j = k
      · subst h2; simp [h]
      · simp [h, h2]
theorem gD_put (kds : List (κ × D)) (k j : κ) (d : D) : gD (pD kds k d) j = if j = k then some d else gD kds j := by
  unfold pD
  rw [gD_any]
  cases h : gD kds k with
  | none =>
    show gD (kds ++ [(k, d)]) j = _
    rw [gD_app, gD_cons, gD_nil]
    by_cases h2 : j = k
    · subst h2; simp [h]
    · have h3 : ¬ k = j := fun z => h2 z.symm
      rw [if_neg h2, if_neg h3]; cases gD kds j <;> rfl
  | some e =>
    show gD (kds.map fun kv => if kv.1 = k then (kv.1, d) else kv) j = _
    rw [gD_map]
    by_cases h2 : j = k
    · subst h2; simp [h]
    · simp [h2]
theorem pD_len (kds : List (κ × D)) (k : κ) (d : D) : (pD kds k d).length ≤ kds.length + 1 := by
  unfold pD; split
  · rw [List.length_map]; omega
  · simp
theorem pD_keys_nodup {kds : List (κ × D)} {k : κ} {d : D} (h : (kds.map (·.1)).Nodup) : ((pD kds k d).map (·.1)).Nodup := by
  unfold pD
  split
  · rw [List.map_map]
    have : (kds.map ((fun x : κ × D => x.1) ∘ fun kv => if kv.1 = k then (kv.1, d) else kv)) = kds.map (·.1) := by
      apply List.map_congr_left; intro p _; show (if p.1 = k then (p.1, d) else p).1 = p.1; split <;> rfl
    rw [this]; exact h
  · rename_i hn
    rw [List.map_append, List.nodup_append]
    refine ⟨h, by simp, fun a ha b hb e => ?_⟩
    have hb' : b = k := by simpa using hb
    obtain ⟨p, hp, rfl⟩ := List.mem_map.mp ha
    exact hn (List.any_eq_true.mpr ⟨p, hp, decide_eq_true (e.trans hb')⟩)
theorem Reps.gD {K : PySem.W.Frag} {S : Hp} {k : κ} : ∀ {kvs : List (κ × L2.V)} {kds : List (κ × D)}, kvs.map (·.1) = kds.map (·.1) → Reps K S (kvs.map (·.2)) (kds.map (·.2)) →
    (valV kvs k = none ∧ Pu.gD kds k = none) ∨ ∃ v d, valV kvs k = some v ∧ Pu.gD kds k = some d ∧ Rep K S v d
  | [], [], _, _ => .inl ⟨rfl, rfl⟩
  | [], _ :: _, e, _ => by simp at e
  | _ :: _, [], e, _ => by simp at e
  | p :: kvs, q :: kds, e, r => by
    rw [List.map_cons, List.map_cons] at e r
    injection e with e1 e2
    cases r with
    | cons h r =>
      by_cases hk : p.1 = k
      · exact .inr ⟨_, _, valV_pos hk, by rw [gD_cons, if_pos (e1 ▸ hk)], h⟩
      · rw [valV_neg hk, gD_cons, if_neg (fun z => hk (e1.trans z))]
        exact Reps.gD e2 r
theorem keys_map {k : κ} {v : L2.V} {d : D} : ∀ {kvs : List (κ × L2.V)} {kds : List (κ × D)}, kvs.map (·.1) = kds.map (·.1) →
    (kvs.map fun kv => if kv.1 = k then (kv.1, v) else kv).map (·.1) = (kds.map fun kv => if kv.1 = k then (kv.1, d) else kv).map (·.1) := fun {kvs kds} e => by
  rw [List.map_map, List.map_map]
  have a : kvs.map ((fun x : κ × L2.V => x.1) ∘ fun kv => if kv.1 = k then (kv.1, v) else kv) = kvs.map (·.1) := by
    apply List.map_congr_left; intro p _; show (if p.1 = k then (p.1, v) else p).1 = p.1; split <;> rfl
  have b : kds.map ((fun x : κ × D => x.1) ∘ fun kv => if kv.1 = k then (kv.1, d) else kv) = kds.map (·.1) := by
    apply List.map_congr_left; intro p _; show (if p.1 = k then (p.1, d) else p).1 = p.1; split <;> rfl
  rw [a, b, e]
theorem Reps.mapD {K : PySem.W.Frag} {S : Hp} {k : κ} {v : L2.V} {d : D} (rv : Rep K S v d) : ∀ {kvs : List (κ × L2.V)} {kds : List (κ × D)}, kvs.map (·.1) = kds.map (·.1) → Reps K S (kvs.map (·.2)) (kds.map (·.2)) →
    Reps K S ((kvs.map fun kv => if kv.1 = k then (kv.1, v) else kv).map (·.2)) ((kds.map fun kv => if kv.1 = k then (kv.1, d) else kv).map (·.2))
  | [], [], _, _ => .nil
  | [], _ :: _, e, _ => by simp at e
  | _ :: _, [], e, _ => by simp at e
  | p :: kvs, q :: kds, e, r => by
    rw [List.map_cons, List.map_cons] at e r
    injection e with e1 e2
    cases r with
    | cons h r =>
      rw [List.map_cons, List.map_cons, List.map_cons, List.map_cons]
      by_cases hk : p.1 = k
      · rw [if_pos hk, if_pos (e1 ▸ hk)]
        exact .cons rv (Reps.mapD rv e2 r)
      · rw [if_neg hk, if_neg (fun z => hk (e1.trans z))]
        exact .cons h (Reps.mapD rv e2 r)
theorem anyD (k : κ) : ∀ {kvs : List (κ × L2.V)} {kds : List (κ × D)}, kvs.map (·.1) = kds.map (·.1) → (kvs.any fun kv => decide (kv.1 = k)) = (kds.any fun kv => decide (kv.1 = k))
  | [], [], _ => rfl
  | [], _ :: _, e => by simp at e
  | _ :: _, [], e => by simp at e
  | p :: kvs, q :: kds, e => by
    rw [List.map_cons, List.map_cons] at e
    injection e with e1 e2
    rw [List.any_cons, List.any_cons, anyD k e2, e1]
theorem Reps.pD {K : PySem.W.Frag} {S : Hp} {k : κ} {v : L2.V} {d : D} {kvs : List (κ × L2.V)} {kds : List (κ × D)} (e : kvs.map (·.1) = kds.map (·.1)) (r : Reps K S (kvs.map (·.2)) (kds.map (·.2))) (rv : Rep K S v d) :
    (putK kvs k v).map (·.1) = (Pu.pD kds k d).map (·.1) ∧ Reps K S ((putK kvs k v).map (·.2)) ((Pu.pD kds k d).map (·.2)) := by
  unfold putK Pu.pD
  rw [anyD k e]
  split
  · exact ⟨keys_map e, r.mapD rv e⟩
  · rw [List.map_append, List.map_append, List.map_append, List.map_append, e]
    exact ⟨rfl, r.append (.cons rv .nil)⟩
end
/-- what a dict gives for a key -/
inductive GetD : D → D → Option D → Prop where
  | k {kds : List (Key × D)} (k : Key) : GetD (.dk kds) (keyD k) (gD kds k)
  | t {kds : List (List Key × D)} (ks : List Key) : GetD (.dt kds) (.tup (ks.map keyD)) (gD kds ks)
/-- the slot's value, own or frozen -/
def SlD (G : List Sl) (i : Nat) (c : D) : Prop := G[i]? = some (.va c) ∨ ∃ q, G[i]? = some (.ow q c)
theorem SlD.va {G : List Sl} {i : Nat} {c : D} (h : G[i]? = some (.va c)) : SlD G i c := .inl h
theorem SlD.ow {G : List Sl} {i : Nat} {q : Bool} {c : D} (h : G[i]? = some (.ow q c)) : SlD G i c := .inr ⟨q, h⟩
theorem IV.dict {K : PySem.W.Frag} {F : Fm} {G : List Sl} {S H : Hp} {σ : L2.St} (I : IV K F G S H σ) {i : Nat} {c : D} (h : SlD G i c) (hc : (∃ kds, c = .dk kds) ∨ ∃ kds, c = .dt kds) :
    ∃ p o, σ[i]? = some (some (.ref p)) ∧ H p = some o ∧ CRep K S o c := by
  rcases h with h | ⟨q, h⟩
  · obtain ⟨v, ev, r⟩ := I.va h
    rcases hc with ⟨kds, rfl⟩ | ⟨kds, rfl⟩
    · cases r with
      | dk a b c => exact ⟨_, _, ev, I.fr.ex _ _ a, .dk b c⟩
    · cases r with
      | dt a b c => exact ⟨_, _, ev, I.fr.ex _ _ a, .dt b c⟩
  · obtain ⟨p, o, ep, _, _, ho, r⟩ := I.ow h
    exact ⟨p, o, ep, ho, r⟩
theorem GetD.cases' {c y : D} {r : Option D} (g : GetD c y r) : (∃ kds, c = .dk kds) ∨ ∃ kds, c = .dt kds := by
  cases g with
  | k k => exact .inl ⟨_, rfl⟩
  | t ks => exact .inr ⟨_, rfl⟩
theorem CRep.get {K : PySem.W.Frag} {S H : Hp} {p : Addr} {o : HO} {c y : D} {r : Option D} {vy : L2.V} (e : Ex S H) (hp : H p = some o) (rc : CRep K S o c) (ry : Rep K S vy y) (g : GetD c y r) :
    ∃ vr : Option L2.V, DGet H p vy vr ∧ ((vr = none ∧ r = none) ∨ ∃ v d, vr = some v ∧ r = some d ∧ Rep K S v d) := by
  cases g with
  | k k =>
    cases rc with
    | dk q rs =>
      have := ry.key
      subst this
      exact ⟨_, DGet.k hp, (rs.gD (k := k) q).imp id fun ⟨v, d, a, b, c⟩ => ⟨v, d, a, b, c⟩⟩
  | t ks =>
    cases rc with
    | dt q rs =>
      cases ry with
      | tup ht rt =>
        have := rt.keys
        subst this
        exact ⟨_, DGet.t hp (e _ _ ht), (rs.gD (k := ks) q).imp id fun ⟨v, d, a, b, c⟩ => ⟨v, d, a, b, c⟩⟩
section
variable {X : Cx} {F : Fm} {G : List Sl} {Kk : D → List Sl → Prop} {pos : Pos}
/-- d[e], d a name -/
theorem xe_dget (i : Nat) {x : Str} {e : Expr} {p1 : Pos} (hu : X.A.units + 1 < cLine) (hG : ∃ c, SlD G i c ∧ ((∃ kds, c = .dk kds) ∨ ∃ kds, c = .dt kds)) (h : XE X F e G fun y G1 => ∃ c d, SlD G1 i c ∧ GetD c y (some d) ∧ Kk d G1) (hs : NoSl e := by exact fun _ _ => rfl)
    (hN : X.N[i]? = some x := by rfl) (hv : Vis X.env.scope x := by first | exact Or.inl rfl | exact Or.inr (Or.inl rfl) | exact Or.inr (Or.inr rfl)) (hd : (x == ("__debug__" : Str)) = false := by decide) (hcd : (x == ("__classdict__" : Str)) = false := by decide) :
    XE X F (.Subscript (.Name x p1) e pos) G Kk := by
  intro S H σ I
  obtain ⟨c0, hc0, hc1⟩ := hG
  obtain ⟨p0, _, ep0, _, _⟩ := I.dict hc0 hc1
  refine semE_of (pe_dget hu (pe_var hN hv hd hcd) pe_sem hs) ⟨_, ep0, ?_⟩
  refine semE_mono (h S H σ I) fun v1 H1 ⟨y, G1, S1, I1, e1, r1, c, d, hc, g, k⟩ => ?_
  obtain ⟨p, o, ep, ho, rc⟩ := I1.dict hc g.cases'
  rw [ep0] at ep; cases ep
  obtain ⟨vr, dg, z | ⟨v, d', ev, ed, rv⟩⟩ := rc.get I1.fr.ex ho r1 g
  · cases z.2
  · cases ed
    rw [ev] at dg
    exact ⟨_, v, rfl, dg, .at I1 e1 rv k⟩
/-- e in d, e not in d, as a test -/
theorem xt_din (i : Nat) {Kb : Bool → List Sl → Prop} {x : Str} {e : Expr} {p1 : Pos} (hu : X.A.units + 1 < cLine) (hG : ∃ c, SlD G i c ∧ ((∃ kds, c = .dk kds) ∨ ∃ kds, c = .dt kds)) (h : XE X F e G fun y G1 => ∃ c r, SlD G1 i c ∧ GetD c y r ∧ Kb r.isSome G1)
    (hN : X.N[i]? = some x := by rfl) (hv : Vis X.env.scope x := by first | exact Or.inl rfl | exact Or.inr (Or.inl rfl) | exact Or.inr (Or.inr rfl)) (hd : (x == ("__debug__" : Str)) = false := by decide) (hcd : (x == ("__classdict__" : Str)) = false := by decide) :
    XT X F (.Compare e [.In] [.Name x p1] pos) G Kb := by
  intro S H σ I
  obtain ⟨c0, hc0, hc1⟩ := hG
  obtain ⟨p0, _, ep0, _, _⟩ := I.dict hc0 hc1
  refine semT_of (pt_cmp (pc_din hu pe_sem (pe_var hN hv hd hcd)) rfl) ?_
  refine semE_mono (h S H σ I) fun v1 H1 ⟨y, G1, S1, I1, e1, r1, c, r, hc, g, k⟩ => ⟨_, ep0, ?_⟩
  obtain ⟨p, o, ep, ho, rc⟩ := I1.dict hc g.cases'
  rw [ep0] at ep; cases ep
  obtain ⟨vr, dg, z⟩ := rc.get I1.fr.ex ho r1 g
  have es : vr.isSome = r.isSome := by rcases z with ⟨a, b⟩ | ⟨v, d, a, b, _⟩ <;> rw [a, b] <;> rfl
  exact ⟨_, vr, rfl, dg, _, rfl, G1, S1, I1, e1, by rw [es]; exact k⟩
theorem xt_dni (i : Nat) {Kb : Bool → List Sl → Prop} {x : Str} {e : Expr} {p1 : Pos} (hu : X.A.units + 1 < cLine) (hG : ∃ c, SlD G i c ∧ ((∃ kds, c = .dk kds) ∨ ∃ kds, c = .dt kds)) (h : XE X F e G fun y G1 => ∃ c r, SlD G1 i c ∧ GetD c y r ∧ Kb (!r.isSome) G1)
    (hN : X.N[i]? = some x := by rfl) (hv : Vis X.env.scope x := by first | exact Or.inl rfl | exact Or.inr (Or.inl rfl) | exact Or.inr (Or.inr rfl)) (hd : (x == ("__debug__" : Str)) = false := by decide) (hcd : (x == ("__classdict__" : Str)) = false := by decide) :
    XT X F (.Compare e [.NotIn] [.Name x p1] pos) G Kb := by
  intro S H σ I
  obtain ⟨c0, hc0, hc1⟩ := hG
  obtain ⟨p0, _, ep0, _, _⟩ := I.dict hc0 hc1
  refine semT_of (pt_cmp (pc_dnotin hu pe_sem (pe_var hN hv hd hcd)) rfl) ?_
  refine semE_mono (h S H σ I) fun v1 H1 ⟨y, G1, S1, I1, e1, r1, c, r, hc, g, k⟩ => ⟨_, ep0, ?_⟩
  obtain ⟨p, o, ep, ho, rc⟩ := I1.dict hc g.cases'
  rw [ep0] at ep; cases ep
  obtain ⟨vr, dg, z⟩ := rc.get I1.fr.ex ho r1 g
  have es : vr.isSome = r.isSome := by rcases z with ⟨a, b⟩ | ⟨v, d, a, b, _⟩ <;> rw [a, b] <;> rfl
  exact ⟨_, vr, rfl, dg, _, rfl, G1, S1, I1, e1, by rw [es]; exact k⟩
/-- d.get(e, f), d a name -/
theorem xe_dgetD (i : Nat) {x : Str} {e f : Expr} {p1 apos : Pos} (hu : X.A.units + 1 < cLine) (hG : ∃ c, SlD G i c ∧ ((∃ kds, c = .dk kds) ∨ ∃ kds, c = .dt kds)) (h : XE X F e G fun y G1 => XE X F f G1 fun z G2 => ∃ c r, SlD G2 i c ∧ GetD c y r ∧ Kk (r.getD z) G2)
    (m : M2 X (.Name x p1) "get" apos e f pos := by exact ⟨rfl, rfl, rfl, rfl⟩)
    (hN : X.N[i]? = some x := by rfl) (hv : Vis X.env.scope x := by first | exact Or.inl rfl | exact Or.inr (Or.inl rfl) | exact Or.inr (Or.inr rfl)) (hd : (x == ("__debug__" : Str)) = false := by decide) (hcd : (x == ("__classdict__" : Str)) = false := by decide) :
    XE X F (.Call (.Attribute (.Name x p1) "get" apos) [e, f] [] pos) G Kk := by
  intro S H σ I
  obtain ⟨c0, hc0, hc1⟩ := hG
  obtain ⟨p0, o0, ep0, ho0, rc0⟩ := I.dict hc0 hc1
  refine semE_of (pe_dget2 hu (pe_var hN hv hd hcd) pe_sem pe_sem m) ⟨_, ep0, p0, rfl, ?_, ?_⟩
  · rcases hc1 with ⟨kds, rfl⟩ | ⟨kds, rfl⟩
    · cases rc0 with
      | dk _ _ => exact .inl ⟨_, .of ho0⟩
    · cases rc0 with
      | dt _ _ => exact .inr ⟨_, .of ho0⟩
  refine semE_mono (h S H σ I) fun v1 H1 ⟨y, G1, S1, I1, e1, r1, q1⟩ => ?_
  refine semE_mono (q1 S1 H1 σ I1) fun v2 H2 ⟨z, G2, S2, I2, e2, r2, c, r, hc, g, k⟩ => ?_
  obtain ⟨p, o, ep, ho, rc⟩ := I2.dict hc g.cases'
  rw [ep0] at ep; cases ep
  obtain ⟨vr, dg, w⟩ := rc.get I2.fr.ex ho (r1.mono e2) g
  refine ⟨vr, dg, ?_⟩
  rcases w with ⟨a, b⟩ | ⟨v, d, a, b, rv⟩
  · subst a b; exact .at I2 (e1.tr e2) r2 k
  · subst a b; exact .at I2 (e1.tr e2) rv k
/-- d[e] = v, d the slot's own -/
inductive PutD : D → D → D → D → Prop where
  | k {kds : List (Key × D)} (k : Key) (d : D) : PutD (.dk kds) (keyD k) d (.dk (pD kds k d))
  | t {kds : List (List Key × D)} (ks : List Key) (d : D) : PutD (.dt kds) (.tup (ks.map keyD)) d (.dt (pD kds ks d))
def lenD : D → Nat
  | .dk kds => kds.length
  | .dt kds => kds.length
  | _ => 0
theorem xs_dput (i : Nat) {P : Pst} {x : Str} {e v : Expr} {p1 p2 : Pos} (hu : X.A.units + 1 < cLine) (hG : ∃ q c, G[i]? = some (.ow q c)) (h : XE X F v G fun d G1 => XE X F e G1 fun y G2 => ∃ q c c', G2[i]? = some (.ow q c) ∧ PutD c y d c' ∧ lenD c < 1000000 ∧ P.nx (G2.set i (.ow q c')))
    (hN : X.N[i]? = some x := by rfl) (hv : Vis X.env.scope x := by first | exact Or.inl rfl | exact Or.inr (Or.inl rfl) | exact Or.inr (Or.inr rfl)) (hd : (x == ("__debug__" : Str)) = false := by decide) (hcd : (x == ("__classdict__" : Str)) = false := by decide)
    (hs : swapsWith v (some (.Subscript (.Name x p1) e p2)) pos.line X.env = pure false := by rfl) : XS X F (.Assign [.Subscript (.Name x p1) e p2] v pos) G P := fun S H σ E I ok => by
  obtain ⟨_, c0, hc0⟩ := hG
  obtain ⟨p0, _, ep0, _⟩ := I.ow hc0
  refine semS_of (ps_dput hu (pe_var hN hv hd hcd) pe_sem pe_sem hs) ?_
  refine semE_mono (h S H σ I) fun v1 H1 ⟨d, G1, S1, I1, e1, r1, q1⟩ => ⟨_, ep0, ?_⟩
  refine semE_mono (q1 S1 H1 σ I1) fun v2 H2 ⟨y, G2, S2, I2, e2, r2, q, c, c', hc, g, hz, k⟩ => ?_
  obtain ⟨p, o, ep, n, hb, ho, rc⟩ := I2.ow hc
  rw [ep0] at ep; cases ep
  cases g with
  | k kk d =>
    cases rc with
    | @dk kvs kds q rs =>
      have ek := r2.key
      subst ek
      have pp := Reps.pD (k := kk) q rs (r1.mono e2)
      have hl : kvs.length < sizeLine := by
        have := congrArg List.length q
        rw [List.length_map, List.length_map] at this
        rw [this]; exact Nat.lt_trans hz (by decide)
      exact ⟨_, _, rfl, DPut.k ho hl, ok.nx _ S2 _ σ (I2.write hc ep0 (.dk pp.1 pp.2)) (e1.tr e2) k⟩
  | t ks d =>
    cases rc with
    | @dt kvs kds q rs =>
      cases r2 with
      | tup ht rt =>
        have ek := rt.keys
        subst ek
        have pp := Reps.pD (k := ks) q rs (r1.mono e2)
        have hl : kvs.length < sizeLine := by
          have := congrArg List.length q
          rw [List.length_map, List.length_map] at this
          rw [this]; exact Nat.lt_trans hz (by decide)
        exact ⟨_, _, rfl, DPut.t ho (I2.fr.ex _ _ ht) hl, ok.nx _ S2 _ σ (I2.write hc ep0 (.dt pp.1 pp.2)) (e1.tr e2) k⟩
/-- x = {}: keys that are ints and texts; tuples -/
theorem xs_dnew (i : Nat) {P : Pst} {x : Str} {p1 p2 : Pos} (hn : X.N.Nodup) (k : P.nx (G.set i (.ow false (.dk [])))) (hi : X.N[i]? = some x := by rfl) (hx : Loc X.env.scope x := by first | exact Or.inl rfl | exact Or.inr rfl) (hs : swapsWith (.Dict [] [] p1) (some (.Name x p2)) pos.line X.env = pure false := by rfl)
    (hf : X.fn x = true ∨ X.env.scope.names.lookup x = some .local := by first | exact .inl rfl | exact .inr rfl | assumption) : XS X F (.Assign [.Name x p2] (.Dict [] [] p1) pos) G P := fun S H σ E I ok =>
  semS_of (ps_set hn hi hx pe_dnewK hs hf) fun p hp => ok.nx _ S _ _ (I.own hp (.dk rfl .nil)) Ex.rfl' k
theorem xs_dnewT (i : Nat) {P : Pst} {x : Str} {p1 p2 : Pos} (hn : X.N.Nodup) (k : P.nx (G.set i (.ow false (.dt [])))) (hi : X.N[i]? = some x := by rfl) (hx : Loc X.env.scope x := by first | exact Or.inl rfl | exact Or.inr rfl) (hs : swapsWith (.Dict [] [] p1) (some (.Name x p2)) pos.line X.env = pure false := by rfl)
    (hf : X.fn x = true ∨ X.env.scope.names.lookup x = some .local := by first | exact .inl rfl | exact .inr rfl | assumption) : XS X F (.Assign [.Name x p2] (.Dict [] [] p1) pos) G P := fun S H σ E I ok =>
  semS_of (ps_set hn hi hx pe_dnewT hs hf) fun p hp => ok.nx _ S _ _ (I.own hp (.dt rfl .nil)) Ex.rfl' k
end
end Pu

namespace Pu
open PySem PySem.Spec PyProof.Rows L2

/-! enumerate over a text -/
def Ites (x : Str) : It :=
  ⟨fun i _ => i < x.cps.size, fun i H v H' => ∃ T c, v = .ref T ∧ H T = none ∧ H' = upd H T (.tup [.int (i : Nat), .str ⟨#[c]⟩]) ∧ x.cps[i]? = some c, fun i _ => i = x.cps.size⟩
theorem turn_enumS {P : Program} {w : World} {K : PySem.W.Frag} {elts : List Expr} {kk : Nat} {tpos : Pos} (x : Str) (t : Tok) (ty : String) (hty : ty = "str_ascii_iterator" ∨ ty = "str_iterator") (e it : Addr) :
    Turn P w K (.Tuple elts kk tpos) (Ites x) [e, it] e (fun i h => (∃ old, IsEnum h e it ((i : Nat) : Int) old) ∧ h.IsStrIter it ty x t i ∧ e ≠ it) where
  mem := by simp
  obj := fun i h st b hb => by
    obtain ⟨⟨old, he⟩, ⟨o, ho, hc, hd⟩, _⟩ := st
    have e' : b = e ∨ b = it := by simpa using hb
    rcases e' with z | z
    · rw [z]; exact ⟨_, he, fun v q => nomatch q⟩
    · rw [z]; exact ⟨o, ho, fun v q => by rw [hd] at q; cases q⟩
  keep := fun i h h' st k => let ⟨⟨old, he⟩, ⟨o, ho, r⟩, hne⟩ := st; ⟨⟨old, k e (by simp) _ he⟩, ⟨o, k it (by simp) o ho, r⟩, hne⟩
  item := by
    intro X hP hw hK hc i pins s σ H E I hf st hg
    subst hP hw hK
    obtain ⟨⟨old, he⟩, hit, hne⟩ := st
    have hh : X.A.in1.handled = none := I.ok.hd hc
    have D : Draws X.prog X.w X.A.in1 it [it] x.cps.size (fun i v => ∃ c u, x.cps[i]? = some c ∧ v = .str ⟨#[c]⟩ u) (fun i h => h.IsStrIter it ty x t i) := by
      rcases hty with z | z
      · rw [z]; exact Draws.strAscii hh it x t
      · rw [z]; exact Draws.strWide hh it x t
    have hel : e < s.heap.objs.size := Heap.lt_size he
    have hil : it < s.heap.objs.size := by obtain ⟨_, q, _⟩ := hit; exact Heap.lt_size q
    refine wpAny_pyNext_enum_itemD D he hit hg hne (by simpa using hne) fun v h' tk hP ho hit' hT hsz hk => ?_
    obtain ⟨c, u, hcx, rfl⟩ := hP
    refine ⟨_, rfl, wpAny_letOwnedTupleGo_enum (s := { s with heap := h', toks := tk + 1 }) ho fun h'' he' sb => ?_⟩
    have hT2 : h''.get? s.heap.objs.size = some { cls := .type "tuple", data := .seq #[.int i tk, .str ⟨#[c]⟩ u] } := (sb.2 _ (Nat.ne_of_gt hel)).trans hT
    have new : ObjOk X.prog X.w (upd H s.heap.objs.size (.tup [.int (i : Nat), .str ⟨#[c]⟩])) h'' s.heap.objs.size (.tup [.int (i : Nat), .str ⟨#[c]⟩]) :=
      ⟨by show 2 ≤ sizeLine; decide, [.int i tk, .str ⟨#[c]⟩ u], .cons ⟨_, rfl⟩ (.cons ⟨u, rfl⟩ .nil), ⟨_, hT2, rfl, _, rfl⟩⟩
    have I1 : Inv X pins σ (upd H s.heap.objs.size (.tup [.int (i : Nat), .str ⟨#[c]⟩])) { s with heap := h'', toks := tk + 1 } :=
      I.turnedNew (ch := [e, it]) (fun b ob hb q => (sb.2 b (fun z => hb (by simp [z]))).trans (hk b ob (fun z => hb (by simp [z])) (fun z => hb (by simp [z])) q)) hf (Nat.le_refl _) new
    refine ⟨.ref s.heap.objs.size, _, I1, rfl, ⟨_, c, rfl, I.hok.fresh (Nat.le_refl _), rfl, hcx⟩, ⟨⟨.str ⟨#[c]⟩ u, ?_⟩, ?_, hne⟩, fun b hb => ?_⟩
    · have e1 : ((i + 1 : Nat) : Int) = (i : Int) + 1 := by omega
      rw [e1]; exact he'
    · obtain ⟨o, ho2, r⟩ := hit'
      exact ⟨o, (sb.2 it (Ne.symm hne)).trans ho2, r⟩
    · have hb' : b < s.heap.objs.size := by
        have e' : b = e ∨ b = it := by simpa using hb
        rcases e' with z | z
        · rw [z]; exact hel
        · rw [z]; exact hil
      rw [upd_ne (Nat.ne_of_lt hb')]
      exact (hf b hb).1
  done := by
    intro X hP hw hK hc i pins s σ H E I hf st hg
    subst hP hw hK
    obtain ⟨⟨old, he⟩, hit, hne⟩ := st
    have hg : i = x.cps.size := hg
    subst hg
    have hh : X.A.in1.handled = none := I.ok.hd hc
    obtain ⟨f0, f1, f2, f3, f4, f5⟩ := hf it (by simp)
    have D : Draws X.prog X.w X.A.in1 it [it] x.cps.size (fun i v => ∃ c u, x.cps[i]? = some c ∧ v = .str ⟨#[c]⟩ u) (fun i h => h.IsStrIter it ty x t i) := by
      rcases hty with z | z
      · rw [z]; exact Draws.strAscii hh it x t
      · rw [z]; exact Draws.strWide hh it x t
    exact wpAny_pyNext_enum_endD D he hit fun h' eb => ⟨rfl, I.turned (t' := s.toks) (fun b o hb q => eb b o hb q) f0 f1 f3 f4 f5⟩
  self := fun A i s Q E st h => let ⟨⟨_, he⟩, _⟩ := st; wpAny_pyIter_enum he h
def iEnumS (ta : TA) : TI := fun σ H R => ta σ H fun vs H1 => ∃ x, vs = [.str x] ∧ R (Ites x) H1
theorem pi_enumS {X : Cx} {e : Expr} {ta : TA} {p pos tpos : Pos} {elts : List Expr} {kk : Nat} (hg : Gl X "enumerate") (hm : X.mg "enumerate" = none) (ha : PA X [e] ta) (hs : starEach [e] X.env = [(false, eval e X.env)] := by rfl) :
    PI X (.Tuple elts kk tpos) (.Call (.Name "enumerate" p) [e] [] pos) (iEnumS ta) := by
  refine ⟨fun pins s σ H R I h => ?_⟩
  refine Call_ (ld_blt I hg hm boot_enumerate (PyProof.Rows.callWith_type1 (thn (ha.run pos pins s σ H _ I h) fun us s1 ⟨vs, H1, I1, r1, q1⟩ => ?_) hs rfl))
  obtain ⟨x, ex, q⟩ := q1
  subst ex
  cases r1 with
  | cons r rr =>
    cases rr
    obtain ⟨t, rfl⟩ := r
    refine call_enumerate_str fun h' he hit hsz hk => wpAny_pyIter_enum he ?_
    have I2 : Inv X pins σ H1 { s1 with heap := h' } := I1.kept (t' := s1.toks) hk
    have hty : strIterType x = "str_ascii_iterator" ∨ strIterType x = "str_iterator" := by unfold strIterType; split <;> simp
    refine ⟨s1.heap.objs.size + 1, [s1.heap.objs.size + 1, s1.heap.objs.size], _, _, H1, rfl, I2, turn_enumS x t (strIterType x) hty (s1.heap.objs.size + 1) s1.heap.objs.size, ⟨⟨.none, he⟩, hit, Nat.succ_ne_self _⟩, fun b hb => ?_, q⟩
    have e' : b = s1.heap.objs.size + 1 ∨ b = s1.heap.objs.size := by simpa using hb
    have hle : s1.heap.objs.size ≤ b := by
      rcases e' with z | z
      · rw [z]; exact Nat.le_add_right _ _
      · rw [z]; exact Nat.le_refl _
    exact I1.fpOk hle (I1.hok.fresh hle)
def enumD (z : Str) : List D := (List.range z.cps.toList.length).map fun (i : Nat) => D.tup [.int i, .str ⟨#[z.cps.toList.getD i 0]⟩]
section
variable {X : Cx} {F : Fm} {G : List Sl} {pos : Pos}
theorem xw_enumS {Kk : List D → List Sl → Prop} {e : Expr} {elts : List Expr} {kk : Nat} {p tpos : Pos} (hm : X.mg "enumerate" = none) (h : XE X F e G fun d G1 => ∃ z, d = .str z ∧ Kk (enumD z) G1) (hg : Gl X "enumerate" := by rfl) (hs : starEach [e] X.env = [(false, eval e X.env)] := by rfl) :
    XW' X F (.Tuple elts kk tpos) (.Call (.Name "enumerate" p) [e] [] pos) G Kk :=
  fun S H σ I => semI_of (pi_enumS hg hm (pa_cons pe_sem pa_nil hs) hs) <| semE_mono (h S H σ I) fun v H1 ⟨d, G1, S1, I1, e1, r1, z, ed, k⟩ => by
    subst ed
    cases r1
    refine ⟨z, rfl, _, G1, S1, I1, e1, ⟨fun F G S H σ i I e hi => ?_, fun F G S H σ i d x H' I e hd y => ?_, fun F G S H σ I e => ?_⟩, k⟩
    · unfold enumD at hi
      rw [List.length_map, List.length_range, Array.length_toList] at hi; exact hi
    · obtain ⟨T, c, rfl, hT, rfl, hc⟩ := y
      have hi : i < z.cps.toList.length := by rw [Array.length_toList]; exact (Array.getElem?_eq_some_iff.mp hc).1
      have hc' : z.cps.toList.getD i 0 = c := by rw [List.getD_eq_getElem?_getD, Array.getElem?_toList, hc]; rfl
      unfold enumD at hd
      rw [List.getElem?_map, List.getElem?_range hi] at hd
      have hd' : D.tup [.int i, .str ⟨#[z.cps.toList.getD i 0]⟩] = d := Option.some.inj hd
      rw [hc'] at hd'
      subst hd'
      obtain ⟨I2, e2⟩ := I.alloc (o := .tup [.int (i : Nat), .str ⟨#[c]⟩]) hT
      exact ⟨_, I2, e2, .tup upd_same (.cons (.int _) (.cons (.str _) .nil))⟩
    · show (enumD z).length = z.cps.size
      unfold enumD
      rw [List.length_map, List.length_range, Array.length_toList]
theorem dc_sem {Kd : List (Key × D) → List Sl → Prop} {kx vx tg iter : Expr} {ifs : List Expr} {scope : Scope} (own : List (Str × Nat)) (hif : ifs.length ≤ 1) (hn : X.N.Nodup) (N : List Str) (sc : Scope) (ok : blkC N sc scope own = true) (h : XW' X F tg iter G fun ds G1 => ∃ J : Nat → List Sl → List (Key × D) → Prop, J 0 (inC (own.map (·.2)) 0 G1) [] ∧ ds.length < 1000000 ∧
      (∀ i T acc, J i T acc → okC (own.map (·.2)) 0 T ∧ acc.length ≤ i) ∧
      (∀ i d T acc, ds[i]? = some d → J i T acc → ∀ F' s0 H0 C cl fp, XG (X.blk s0 H0 scope (compEnvC scope cl C X.env) fp) F' tg d T (fun j => (own.map (·.2)).contains j) fun T' => ∀ s0 H0 C cl fp, XTs (X.blk s0 H0 scope (compEnvC scope cl C X.env) fp) F' ifs T' fun b T2 =>
        (b = true → ∀ s0 H0 C cl fp, XE (X.blk s0 H0 scope (compEnvC scope cl C X.env) fp) F' kx T2 fun y T3 => ∀ s0 H0 C cl fp, XE (X.blk s0 H0 scope (compEnvC scope cl C X.env) fp) F' vx T3 fun z T5 => ∃ k T4, y = keyD k ∧ J (i + 1) T4 (pD acc k z) ∧ Cov T5 T4) ∧ (b = false → ∃ T4, J (i + 1) T4 acc ∧ Cov T2 T4)) ∧
      ∀ T acc, J ds.length T acc → Kd acc (outC G1 T))
    (hc : X.calm = true := by rfl) (eN : X.N = N := by rfl) (eS : X.env.scope = sc := by rfl) (hs : ∀ x, foldedSetIterable iter X.env x = pure x := by intro _; rfl) : ∀ S H σ, IV X.K F G S H σ → ∀ Q : VK, (∀ Dl acc vacc G' S2 H2, IV X.K F G' S2 H2 σ → Ex S S2 → S2 Dl = none → F.H0 Dl = none → Dl ∉ F.B → NoOwn G' σ Dl → H2 Dl = some (.dK vacc) → vacc.map (·.1) = acc.map (·.1) → Reps X.K S2 (vacc.map (·.2)) (acc.map (·.2)) → Kd acc G' → Q (.ref Dl) H2) →
      tDc (semI X tg iter) (fun v σ H Q => ∀ s0 H0 C cl fp, semG (X.blk s0 H0 scope (compEnvC scope cl C X.env) fp) tg v σ H Q) (fun σ H Q => ∀ s0 H0 C cl fp, semTs (X.blk s0 H0 scope (compEnvC scope cl C X.env) fp) ifs σ H Q) (fun σ H Q => ∀ s0 H0 C cl fp, semE (X.blk s0 H0 scope (compEnvC scope cl C X.env) fp) kx σ H Q) (fun σ H Q => ∀ s0 H0 C cl fp, semE (X.blk s0 H0 scope (compEnvC scope cl C X.env) fp) vx σ H Q) (own.map (·.2)) σ H Q := by
  intro S H σ Iv Q kq
  let Y : Shared → Hp → Addr → List (Str × Addr) → List Addr → Cx := fun s0 H0 C cl fp => X.blk s0 H0 scope (compEnvC scope cl C X.env) fp
  refine semI_mono (h S H σ Iv) fun It H1 ⟨ds, G1, S1, I1, e1, wk, J, j0, hlen, hok, turn, done⟩ => ?_
  intro Dl hD
  have vsE : own.map (·.2) = own.map (·.2) := rfl
  obtain ⟨ad, h1, h2⟩ := I1.sl
  have nof : ∀ {i : Nat} {T : List Sl} {acc : List (Key × D)}, J i T acc → ∀ (k : Nat) c, T[k]? ≠ some (.ow false c) := fun {i T acc} j k c z => (okC_at (hok i T acc j).1 z).2 c rfl
  have hDB : Dl ∉ bsOf ad G1 := fun z => by
    obtain ⟨i, q, c, g, e⟩ := mem_bsOf.mp z
    obtain ⟨_, _, _, o, ho, _⟩ := h1 i _ g
    rw [← e, hD] at ho; cases ho
  have hS1 : S1 Dl = none := (I1.fr.free hD).1
  have Iin : IV X.K ⟨H1, S1, bsOf ad G1⟩ (inC (own.map (·.2)) 0 G1) S1 H1 (wipe σ (own.map (·.2))) := I1.inC h1 h2
  refine ⟨fun i m H2 => m = ds.length - i ∧ i ≤ ds.length ∧ ∃ T S2 acc vacc, IV X.K ⟨H1, S1, bsOf ad G1⟩ T S2 H2 (wipe σ (own.map (·.2))) ∧ J i T acc ∧ S2 Dl = none ∧ H2 Dl = some (.dK vacc) ∧ vacc.map (·.1) = acc.map (·.1) ∧ Reps X.K S2 (vacc.map (·.2)) (acc.map (·.2)),
    ⟨ds.length, by simp, Nat.zero_le _, _, S1, [], [], Iin.wr hS1 hD hDB (nof j0), j0, hS1, upd_same, rfl, .nil⟩, ?_⟩
  rintro i m H2 ⟨rfl, hi, T, S2, acc, vacc, I2, j, n2, d2, q2, r2⟩
  have e2 : Ex S1 S2 := I2.fr.old
  by_cases hlt : i < ds.length
  · refine .inr ⟨wk.go _ _ S2 H2 _ i I2 e2 hlt, fun H3 => ∃ T S3 acc vacc, IV X.K ⟨H1, S1, bsOf ad G1⟩ T S3 H3 (wipe σ (own.map (·.2))) ∧ J (i + 1) T acc ∧ S3 Dl = none ∧ H3 Dl = some (.dK vacc) ∧ vacc.map (·.1) = acc.map (·.1) ∧ Reps X.K S3 (vacc.map (·.2)) (acc.map (·.2)),
      fun H3 hN => ⟨ds.length - (i + 1), by omega, rfl, hlt, hN⟩, fun x H3 y => ?_⟩
    have hd := List.getElem?_eq_getElem hlt
    have I2' : IV X.K ⟨H2, S2, bsOf ad G1⟩ T S2 H2 (wipe σ (own.map (·.2))) := I2.now (nof j)
    obtain ⟨S3, I3, e3, rx⟩ := wk.yld _ _ S2 H2 _ i _ x H3 I2' e2 hd y
    -- whatever happens within the turn, the new list stays
    have keepD : ∀ {T' : List Sl} {S' H' : Hp} {σ' : L2.St}, IV X.K ⟨H2, S2, bsOf ad G1⟩ T' S' H' σ' → H' Dl = some (.dK vacc) ∧ S' Dl = none := fun {T' S' H' σ'} I' => by
      refine ⟨I'.fr.fr _ _ d2 hDB, ?_⟩
      cases e : S' Dl with
      | none => rfl
      | some u =>
        rcases I'.fr.new Dl (by rw [e]; intro z; cases z) with z | z | ⟨us, z⟩
        · exact absurd n2 z
        · have z' : H2 Dl = none := z
          rw [d2] at z'; cases z'
        · have z' : H2 Dl = some (.tup us) := z
          rw [d2] at z'; cases z'
    have fin : ∀ {T' T4 : List Sl} {S' H' : Hp} {σ' : L2.St} {acc' : List (Key × D)} {vacc' : List (Key × L2.V)}, IV X.K ⟨H2, S2, bsOf ad G1⟩ T' S' H' σ' → Cov T' T4 → wipe σ' (own.map (·.2)) = wipe σ (own.map (·.2)) → J (i + 1) T4 acc' →
        IV X.K ⟨H1, S1, bsOf ad G1⟩ T4 S' (upd H' Dl (.dK vacc')) (wipe σ (own.map (·.2))) := fun {T' T4 S' H' σ' acc' vacc'} I' c hw j' => by
      have a1 := (I'.cov c).thenF (H0 := H1) (S0 := S1) I2.fr (nof j')
      have a2 : IV X.K ⟨H1, S1, bsOf ad G1⟩ T4 S' H' (wipe σ (own.map (·.2))) := by
        obtain ⟨ad', k1, k2⟩ := a1.sl
        refine ⟨a1.fr, by rw [← hw, wipe_length]; exact a1.len, ad', fun k s hs => ?_, k2⟩
        by_cases hk : k ∈ own.map (·.2)
        · have z := (okC_at (hok _ _ _ j').1 hs).1 (by rw [Nat.zero_add]; exact hk)
          subst z; trivial
        · have q := k1 k s hs
          rw [← hw, wipe_out hk]
          exact q
      exact a2.wr (keepD I').2 hD hDB (nof j')
    refine fun s0 H0 C cl fp => ?_
    refine semG_mono (turn i _ T acc hd j _ s0 H0 C cl fp S3 H3 _ x I3 rx) fun σ4 H4 ⟨G4, S4, I4, e4, kp, q4⟩ => ?_
    have hw4 : wipe σ4 (own.map (·.2)) = wipe σ (own.map (·.2)) := keeps_wipe kp (fun j h => List.contains_iff_mem.mp h)
    refine ⟨hw4, fun s0 H0 C cl fp => ?_⟩
    have tmono : ∀ {Q Q' : Bool → Hp → Prop}, semTs (Y s0 H0 C cl fp) ifs σ4 H4 Q → (∀ b H', Q b H' → Q' b H') → semTs (Y s0 H0 C cl fp) ifs σ4 H4 Q' := fun {Q Q'} h k => by
      cases ifs with
      | nil => exact k _ _ h
      | cons c r =>
        cases r with
        | nil => exact semT_mono h k
        | cons c2 r => exact (h : False).elim
    refine tmono (semTs_run (q4 s0 H0 C cl fp) S4 H4 σ4 I4) fun b H5 ⟨G5, S5, I5, e5, k1, k2⟩ => ?_
    cases b with
    | true =>
      refine iteT fun s0 H0 C cl fp => ?_
      refine semE_mono (k1 rfl s0 H0 C cl fp S5 H5 σ4 I5) fun v H6 ⟨dy, G6, S6, I6, e6, ry, k7⟩ => fun s0 H0 C cl fp => ?_
      refine semE_mono (k7 s0 H0 C cl fp S6 H6 σ4 I6) fun v2 H7 ⟨dv, G7, S7, I7, e7, rv, k, T4, ek, j4, c4⟩ => ?_
      subst ek
      have pp := Reps.pD (k := k) q2 (r2.mono ((((e3.tr e4).tr e5).tr e6).tr e7)) rv
      have hl : vacc.length = acc.length := by
        have := congrArg List.length q2
        rwa [List.length_map, List.length_map] at this
      refine ⟨vacc, k, ry.key, (keepD I7).1, by rw [hl]; exact Nat.lt_of_le_of_lt (Nat.le_trans (hok i T acc j).2 hi) (Nat.lt_trans hlen (by decide)), T4, S7, _, _, fin I7 c4 hw4 j4, j4, (keepD I7).2, upd_same, pp.1, pp.2⟩
    | false =>
      refine iteF ?_
      obtain ⟨T4, j4, c4⟩ := k2 rfl
      have r5 := r2.mono ((e3.tr e4).tr e5)
      have same : upd H5 Dl (.dK vacc) = H5 := by
        funext a
        by_cases ha : a = Dl
        · subst ha; rw [upd_same]; exact (keepD I5).1.symm
        · rw [upd_ne ha]
      have := fin (vacc' := vacc) I5 c4 hw4 j4
      rw [same] at this
      exact ⟨T4, S5, _, _, this, j4, (keepD I5).2, (keepD I5).1, q2, r5⟩
  · have e : i = ds.length := by omega
    subst e
    refine .inl ⟨wk.stop _ _ S2 H2 _ I2 e2, ?_⟩
    have I4 := I1.outC h1 h2 I2 (keeps_wipe (ws := fun _ => false) .refl (by intro j h; cases h)) (fun k hk q c z => by
      have := (okC_at (hok _ T acc j).1 z).1 (by rw [Nat.zero_add]; exact hk)
      cases this)
    have hF0 : F.H0 Dl = none := (I1.fr.free hD).2
    have hFB : Dl ∉ F.B := fun z => by obtain ⟨o', e', _⟩ := I1.fr.bor Dl z; rw [hD] at e'; cases e'
    have no : NoOwn (outC G1 T) σ Dl := fun k q c hk z => by
      rcases outC_at hk with e | ⟨d, e, _⟩ | ⟨q1, c0, q2, c2, _, g, _⟩
      · cases e
      · cases e
      · obtain ⟨ev, _, _, o, ho, _⟩ := h1 k _ g
        rw [z] at ev
        have ea : Dl = ad k := L2.V.ref.inj (Option.some.inj ev)
        rw [← ea, hD] at ho; cases ho
    exact kq Dl acc vacc _ S2 H2 I4 (e1.tr e2) n2 hF0 hFB no d2 q2 r2 (done T acc j)
/-- y = {.. for ..} on one line -/
theorem ps_setDc {i : Nat} {y : Str} {py : Pos} {kx vx tg iter : Expr} {ifs : List Expr} {scope : Scope} {own : List (Str × Nat)} {pos spos : Pos} {wi : TI} {g : TG} {tt : TT} {tk tv : TE} (hc : X.calm = true) (hN : X.N.Nodup) (hy : X.N[i]? = some y) (hyl : X.env.scope.names.lookup y = some .local)
    (hsw : swapsWith (.DictComp kx vx [⟨tg, iter, ifs, 0⟩] scope pos) (some (.Name y py)) spos.line X.env = pure true) (hi : PI X tg iter wi) (ok : BlkOk X.N X.env.scope scope own)
    (hg : ∀ (s : Shared) (H : Hp) (C : Addr) (cl : List (Str × Addr)) (fp : List Addr), PG (X.blk s H scope (compEnvC scope cl C X.env) fp) tg g) (ht : ∀ (s : Shared) (H : Hp) (C : Addr) (cl : List (Str × Addr)) (fp : List Addr), PTs (X.blk s H scope (compEnvC scope cl C X.env) fp) ifs tt)
    (hk : ∀ (s : Shared) (H : Hp) (C : Addr) (cl : List (Str × Addr)) (fp : List Addr), PE (X.blk s H scope (compEnvC scope cl C X.env) fp) kx tk)
    (he : ∀ (s : Shared) (H : Hp) (C : Addr) (cl : List (Str × Addr)) (fp : List Addr), PE (X.blk s H scope (compEnvC scope cl C X.env) fp) vx tv) (hs : ∀ x, foldedSetIterable iter X.env x = pure x := by intro _; rfl) :
    PS X (.Assign [.Name y py] (.DictComp kx vx [⟨tg, iter, ifs, 0⟩] scope pos) spos) (tAsg (tDc wi g tt tk tv (own.map (·.2))) (gName i)) := by
  refine ⟨fun pins s σ H D I h => ?_⟩
  rw [exec_Assign_Name_used _ _ _ _ hsw]
  refine wpAny_bind (wpAny_standAt (wpAny_bind ?_))
  show wpAny _ X.A (do let _ ← comprehension (.DictComp kx vx [⟨tg, iter, ifs, 0⟩] scope pos) scope X.env (firstIterPos [⟨tg, iter, ifs, 0⟩] pos) newDict false (eval iter X.env) (some (assign (.Name y py) X.env))) _ _ s
  have h : tDc wi g tt tk tv (own.map (·.2)) σ H (fun x H1 => gName i x σ H1 D.nx) := h
  refine wpAny_bind (thn (dc_core (Qf := fun _ s' => SP X pins D .next s') hc hN I hi ok hg ht hk he hs h fun L C s' m H' I' q hn f => ?_) fun _ s' hq => wpAny_pure (wpAny_pure hq))
  show wpAny _ _ (assign (.Name y py) X.env (.ref L)) _ _ _
  refine wpAny_assign_Name (store_ok2 (v := V.ref L) I' hN hy (.inl hyl) rfl (fun s2 I2 ⟨a, sb, ha⟩ => ?_) (.inr hyl))
  obtain ⟨f0, f1, f2, f3, f4, f5⟩ := f
  have haC : C ≠ a := by
    rcases ha with z | z
    · rw [z]; exact f1
    · exact fun e => f4 y a z e.symm
  refine ⟨m, hn.sameBut sb haC, fun h3 sb3 => ?_⟩
  exact ⟨_, H', I2.turned (t' := s2.toks) (fun b o hb e => (sb3.2 b hb).trans e) f0 f1 f3 f4 f5, q⟩
theorem sw_trueD {kx vx : Expr} {gs : List Comprehension} {scope : Scope} {pos py : Pos} {y : Str} {l : Nat} {env : Env} (hk : env.scope.kind = .function) (hy : env.scope.names.lookup y = some .local) (hl : (py.line == pos.line) = true)
    (ha : (scope.names.any fun (n, k) => n == y && (k == .local || k == .cell)) = false) : swapsWith (.DictComp kx vx gs scope pos) (some (.Name y py)) l env = pure true := by
  have ky : env.kindOf y = some .local := hy
  have hb : env.blockKind = .function := by unfold Env.blockKind; rw [hk]; rfl
  unfold swapsWith
  simp only [hb, ky, ha, Expr.pos, hl]
  rfl
/-- y = {.. for ..}, keys ints or texts, from then on frozen -/
theorem xs_dc {kx vx tg iter : Expr} {ifs : List Expr} {scope : Scope} {P : Pst} {y : Str} {py spos : Pos} (i : Nat) (own : List (Str × Nat)) (hif : ifs.length ≤ 1) (hn : X.N.Nodup) (N : List Str) (sc : Scope) (ok : blkC N sc scope own = true) (h : XW' X F tg iter G fun ds G1 => ∃ J : Nat → List Sl → List (Key × D) → Prop, J 0 (inC (own.map (·.2)) 0 G1) [] ∧ ds.length < 1000000 ∧
      (∀ i T acc, J i T acc → okC (own.map (·.2)) 0 T ∧ acc.length ≤ i) ∧
      (∀ i d T acc, ds[i]? = some d → J i T acc → ∀ F' s0 H0 C cl fp, XG (X.blk s0 H0 scope (compEnvC scope cl C X.env) fp) F' tg d T (fun j => (own.map (·.2)).contains j) fun T' => ∀ s0 H0 C cl fp, XTs (X.blk s0 H0 scope (compEnvC scope cl C X.env) fp) F' ifs T' fun b T2 =>
        (b = true → ∀ s0 H0 C cl fp, XE (X.blk s0 H0 scope (compEnvC scope cl C X.env) fp) F' kx T2 fun y T3 => ∀ s0 H0 C cl fp, XE (X.blk s0 H0 scope (compEnvC scope cl C X.env) fp) F' vx T3 fun z T5 => ∃ k T4, y = keyD k ∧ J (i + 1) T4 (pD acc k z) ∧ Cov T5 T4) ∧ (b = false → ∃ T4, J (i + 1) T4 acc ∧ Cov T2 T4)) ∧
      ∀ T acc, J ds.length T acc → P.nx ((outC G1 T).set i (.va (.dk acc))))
    (hc : X.calm = true := by rfl) (eN : X.N = N := by rfl) (eS : X.env.scope = sc := by rfl) (hs : ∀ x, foldedSetIterable iter X.env x = pure x := by intro _; rfl) (hy : X.N[i]? = some y := by rfl) (hyl : X.env.scope.names.lookup y = some .local := by rfl)
    (hsw : swapsWith (.DictComp kx vx [⟨tg, iter, ifs, 0⟩] scope pos) (some (.Name y py)) spos.line X.env = pure true := by exact sw_trueD rfl rfl rfl (by decide +kernel)) :
    XS X F (.Assign [.Name y py] (.DictComp kx vx [⟨tg, iter, ifs, 0⟩] scope pos) spos) G P := fun S H σ E Iv eok =>
  semS_of (ps_setDc hc hn hy hyl hsw pi_sem (by rw [eN, eS]; exact blkOk_by ok) (g := fun v σ H Q => ∀ s0 H0 C cl fp, semG (X.blk s0 H0 scope (compEnvC scope cl C X.env) fp) tg v σ H Q) (tt := fun σ H Q => ∀ s0 H0 C cl fp, semTs (X.blk s0 H0 scope (compEnvC scope cl C X.env) fp) ifs σ H Q) (tk := fun σ H Q => ∀ s0 H0 C cl fp, semE (X.blk s0 H0 scope (compEnvC scope cl C X.env) fp) kx σ H Q) (tv := fun σ H Q => ∀ s0 H0 C cl fp, semE (X.blk s0 H0 scope (compEnvC scope cl C X.env) fp) vx σ H Q)
    (fun s0 H0 C cl fp => ⟨fun pins s σ H v u Q I r h => h s0 H0 C cl fp pins s u I r⟩) (fun s0 H0 C cl fp => ⟨fun pins s σ H Q I h => (pts_sem hif).run pins s σ H Q I (h s0 H0 C cl fp)⟩) (fun s0 H0 C cl fp => ⟨fun pins s σ H Q I h => h s0 H0 C cl fp pins s I⟩) (fun s0 H0 C cl fp => ⟨fun pins s σ H Q I h => h s0 H0 C cl fp pins s I⟩) hs)
    (dc_sem (Kd := fun acc G' => P.nx (G'.set i (.va (.dk acc)))) own hif hn N sc ok h hc eN eS hs S H σ Iv _ fun Dl acc vacc G' S2 H2 I2 e2 n2 h0 hB no d2 q2 r2 k => by
      have e4 : Ex S2 (upd S2 Dl (.dK vacc)) := Ex.new n2
      exact eok.nx _ _ H2 _ ((I2.frz2 n2 h0 d2 no).set (.dk upd_same q2 (r2.mono e4))) (e2.tr e4) k)
end
end Pu

namespace Pu
open PySem PySem.Spec PyProof.Rows L2

/-! dict comprehensions whose keys are tuples -/
theorem d_dictSetT {X : Cx} {pins : List (Addr × Obj)} {σ : L2.St} {H : Hp} {s : Shared} {E : Value → Shared → Prop} {D b : Addr} {kvs : List (List Key × L2.V)} {k : List Key} {v : L2.V} {u r : Value} {Q : Unit → Shared → Prop} (hu : X.A.units + 1 < cLine) (I : Inv X pins σ H s) (hD : H D = some (.dT kvs)) (eb : H b = some (.tup (k.map kV))) (hz : kvs.length < sizeLine)
    (ry : RelV (.ref b) u) (rv : RelV v r) (h : ∀ s', Inv X pins σ (upd H D (.dT (putK kvs k v))) s' → Q () s') : wpAny (model X.prog X.w) X.A (dictSet D u r) Q E s := by
  cases (show u = Value.ref b from ry)
  obtain ⟨z, hd, xs, rel, dd⟩ := dt_of I.hok hD
  have hzx : xs.length ≤ sizeLine := by rw [← Paired.length rel]; exact z
  have hl : (putK kvs k v).length ≤ sizeLine := by have := length_putK kvs k v; omega
  refine wpAny_dictSet_heap (hsz := hzx) (show (tupleKind (mixKind X.prog X.w)).room X.A from Nat.lt_of_le_of_lt (Nat.le_succ _) hu) (key_of I.hok eb) dd fun h' dd' hs => h _ ?_
  obtain ⟨q, es, ep, hq, h2, h3, h4, _, h5⟩ := dd'
  refine d_write I (by rw [hD]; exact True.intro) hs ⟨q, hq⟩ ⟨hl, hd, _, (rel.put k eb rv).keeps fun c ys ec => ?_, q, es, ep, hq, h2, h3, h4, h5⟩
  rw [upd_ne (ne_of ec hD (fun z => nomatch z))]
  exact ec
section
variable {X : Cx}
def tDcT (wi : TI) (g : TG) (tt : TT) (tk tv : TE) (vs : List Nat) : TE := fun σ H Q => wi σ H fun J H1 => ∀ D, H1 D = none → ∃ W : Nat → Nat → Hp → Prop, (∃ m, W 0 m (upd H1 D (.dT []))) ∧ ∀ i m H, W i m H →
  (J.stop i H ∧ Q (.ref D) H) ∨ (J.go i H ∧ ∃ Nx : Hp → Prop, (∀ H', Nx H' → ∃ m', m' < m ∧ W (i + 1) m' H') ∧ ∀ x H', J.yld i H x H' → g x (wipe σ vs) H' fun σ2 H2 => wipe σ2 vs = wipe σ vs ∧ tt σ2 H2 fun b H3 =>
    if b = true then tk σ2 H3 fun y H4 => tv σ2 H4 fun z H5 => ∃ kvs k b, y = .ref b ∧ H5 b = some (.tup (k.map kV)) ∧ H5 D = some (.dT kvs) ∧ kvs.length < sizeLine ∧ Nx (upd H5 D (.dT (putK kvs k z))) else Nx H3)
theorem dcT_core {pins : List (Addr × Obj)} {s : Shared} {σ : L2.St} {H : Hp} {Q : VK} {kx vx tg iter : Expr} {ifs : List Expr} {scope : Scope} {own : List (Str × Nat)} {pos pos' : Pos} {wi : TI} {g : TG} {tt : TT} {tk tv : TE} {use : Option (Value → Sem Unit)} {Qf : Value → Shared → Prop}
    (hu : X.A.units + 1 < cLine) (hc : X.calm = true) (hN : X.N.Nodup) (I : Inv X pins σ H s) (hi : PI X tg iter wi) (ok : BlkOk X.N X.env.scope scope own)
    (hg : ∀ (s : Shared) (H : Hp) (C : Addr) (cl : List (Str × Addr)) (fp : List Addr), PG (X.blk s H scope (compEnvC scope cl C X.env) fp) tg g) (ht : ∀ (s : Shared) (H : Hp) (C : Addr) (cl : List (Str × Addr)) (fp : List Addr), PTs (X.blk s H scope (compEnvC scope cl C X.env) fp) ifs tt)
    (hk : ∀ (s : Shared) (H : Hp) (C : Addr) (cl : List (Str × Addr)) (fp : List Addr), PE (X.blk s H scope (compEnvC scope cl C X.env) fp) kx tk)
    (he : ∀ (s : Shared) (H : Hp) (C : Addr) (cl : List (Str × Addr)) (fp : List Addr), PE (X.blk s H scope (compEnvC scope cl C X.env) fp) vx tv) (hs : ∀ x, foldedSetIterable iter X.env x = pure x)
    (h : tDcT wi g tt tk tv (own.map (·.2)) σ H Q)
    (hRR : ∀ D C s' m H', Inv X pins σ H' s' → Q (.ref D) H' → s'.heap.Ns C m → FpOk X pins H' C → compPost (model X.prog X.w) X.A X.xe use Qf (.ref D) C (.ok .next) s') :
    wpAny (model X.prog X.w) X.A (comprehension (.DictComp kx vx [⟨tg, iter, ifs, 0⟩] scope pos) scope X.env pos' newDict false (eval iter X.env) use) Qf X.xe s := by
  have hfree : ∀ y ∈ scope.names, y.2 = .free → ∃ c, X.env.cells.lookup y.1 = some c := fun y hy e => by
    rcases ok.free y hy e with k | k
    · exact I.ok.has _ (.inl k)
    · exact I.ok.has _ (.inr k)
  refine wpAny_comprehension_free (use := use) rfl hs (closure_ok hfree) ok.kind (fun y hy e => by rw [ok.uniq y hy, e])
    (thn (hi.run pins s σ H _ I h) fun xv s1 hx => thn hx fun itv s2 h2 => ?_)
  obtain ⟨it, fp, tn, J, H2, e, I2, T, st2, f2, q⟩ := h2
  subst e
  refine wpAny_newObj_type (newEnv_comp ?_)
  generalize hD : s2.heap.objs.size = D
  have hDn : H2 D = none := I2.hok.fresh (Nat.le_of_eq hD)
  obtain ⟨W, ⟨m0, w0⟩, turn⟩ := q D hDn
  -- the new list
  generalize hs3 : ({ s2 with heap := s2.heap.push { cls := .type "dict", data := .dict #[] } } : Shared) = s3
  have I3 : Inv X pins σ (upd H2 D (.dT [])) s3 := by
    rw [← hs3]
    refine I2.laid (t' := s2.toks) (fun b o e => Heap.get?_push_of_some _ e) (Nat.le_of_eq hD) ?_
    rw [← hD]
    exact dt_empty s2.heap I2.big
  have h3 : s3.heap = s2.heap.push { cls := .type "dict", data := .dict #[] } := by rw [← hs3]
  have sz : ∀ b ∈ fp, b < s2.heap.objs.size := fun b hb => by
    obtain ⟨o, e, _⟩ := T.obj _ _ st2 b hb
    exact Heap.lt_size e
  have f3 : ∀ b ∈ fp, FpOk X pins (upd H2 D (.dT [])) b ∧ b < s3.heap.objs.size := fun b hb => by
    have hlt := sz b hb
    refine ⟨⟨?_, (f2 b hb).2⟩, by rw [h3, Heap.size_push]; exact Nat.lt_succ_of_lt hlt⟩
    rw [upd_ne (by rw [← hD]; exact Nat.ne_of_lt hlt)]
    exact (f2 b hb).1
  have st3 : tn 0 s3.heap := T.keep _ _ _ st2 fun b _ o e => by rw [h3]; exact Heap.get?_push_of_some _ e
  have I4 := block_start I3 ok hN f3
  have pg := hg s3 (upd H2 D (.dT [])) s3.heap.objs.size (cellsFrom (s3.heap.objs.size + 1) scope.names (cloFrom X.env.cells scope.names [])) fp
  have pt := ht s3 (upd H2 D (.dT [])) s3.heap.objs.size (cellsFrom (s3.heap.objs.size + 1) scope.names (cloFrom X.env.cells scope.names [])) fp
  have pk := hk s3 (upd H2 D (.dT [])) s3.heap.objs.size (cellsFrom (s3.heap.objs.size + 1) scope.names (cloFrom X.env.cells scope.names [])) fp
  have pe := he s3 (upd H2 D (.dT [])) s3.heap.objs.size (cellsFrom (s3.heap.objs.size + 1) scope.names (cloFrom X.env.cells scope.names [])) fp
  show codeAny _ _ (.compStart (.DictComp kx vx [⟨tg, iter, ifs, 0⟩] scope pos) 0 (.ref it) (.ref D) (compEnvC scope (cellsFrom (s3.heap.objs.size + 1) scope.names (cloFrom X.env.cells scope.names [])) s3.heap.objs.size X.env)) (compPost (model X.prog X.w) X.A X.xe use Qf (.ref D) s3.heap.objs.size) { s3 with heap := pushCells (s3.heap.push { cls := .type "dict", data := .dict #[] }) scope.names }
  have nfp : ∀ b ∈ fp, (upd H2 D (.dT [])) b = none := fun b hb => (f3 b hb).1.1
  generalize hce : compEnvC scope (cellsFrom (s3.heap.objs.size + 1) scope.names (cloFrom X.env.cells scope.names [])) s3.heap.objs.size X.env = ce at I4 pg pt pk pe ⊢
  have cL : ce.locals = s3.heap.objs.size := by subst hce; rfl
  generalize hH3 : upd H2 D (.dT []) = H3 at I3 I4 pg pt pk pe w0 nfp f3
  generalize hs4 : ({ s3 with heap := pushCells (s3.heap.push { cls := .type "dict", data := .dict #[] }) scope.names } : Shared) = s4 at I4 ⊢
  have st4 : tn 0 s4.heap := T.keep _ _ _ st3 fun b _ o e => by rw [← hs4]; exact pushCells_keeps _ _ _ _ (Heap.get?_push_of_some _ e)
  have stat : ∀ {σ' : L2.St} {H' : Hp} {s' : Shared}, Inv (X.blk s3 H3 scope ce fp) [] σ' H' s' → (∀ b ∈ fp, H' b = none) → ∀ b ∈ fp, FpOk (X.blk s3 H3 scope ce fp) [] H' b := fun {σ' H' s'} I' hn b hb =>
    ⟨hn b hb, (I'.ok.exf b hb).1, I'.ok.exfs b hb, .inl hb, fun x c e => (I'.ok.exf b hb).2 x c e, fun p hp => absurd (show p ∈ ([] : List (Addr × Obj)) ++ [] from hp) (by simp)⟩
  have loop : codeAny (model X.prog X.w) X.A (.compLoop (.DictComp kx vx [⟨tg, iter, ifs, 0⟩] scope pos) 0 (.ref it) (.ref D) ce) (compPost (model X.prog X.w) X.A X.xe use Qf (.ref D) s3.heap.objs.size) s4 := by
    refine compLoop_anyD (fun n s' => ∃ i H', Inv (X.blk s3 H3 scope ce fp) [] (wipe σ (own.map (·.2))) H' s' ∧ tn i s'.heap ∧ (∀ b ∈ fp, H' b = none) ∧ W i n H') ?_ m0 ⟨0, H3, I4, st4, nfp, w0⟩
    rintro n s5 ⟨i, H5, I5, st5, n5, w5⟩
    rcases turn i n H5 w5 with ⟨stop, qq⟩ | ⟨go, Nx, hNx, step⟩
    · have td := T.done (X.blk s3 H3 scope ce fp) rfl rfl rfl hc i [] s5 _ H5 (fun _ _ => False) I5 (stat I5 n5) st5 stop
      refine thnF td fun r s6 ⟨hr, I6⟩ => ?_
      subst hr
      -- back in the def's context
      have I7 : Inv X pins σ H5 s6 := I3.call' (ch := fp) I6.os I6.base I6.hok I6.bare fun b hb => ⟨(f3 b hb).1.2.2.2.1, (f3 b hb).1.2.1, (f3 b hb).1.2.2.2.2.1, (f3 b hb).1.2.2.2.2.2⟩
      have nC : H5 s3.heap.objs.size = none := by
        have z : H5 ce.locals = none := I6.free
        rw [cL] at z
        exact z
      obtain ⟨m, hn, _⟩ := I6.loc
      have hn : s6.heap.Ns ce.locals m := hn
      rw [cL] at hn
      exact hRR D s3.heap.objs.size s6 m H5 I7 qq hn (I3.fpOk (Nat.le_refl _) nC)
    · have ti := T.item (X.blk s3 H3 scope ce fp) rfl rfl rfl hc i [] s5 _ H5 (fun _ _ => False) I5 (stat I5 n5) st5 go
      refine thnF ti fun r s6 ⟨u, hr, h6⟩ => ?_
      subst hr
      refine thnF h6 fun _ s7 ⟨x, H7, I7, r7, y7, st7, n7⟩ => ?_
      have I7' := I7.pinned (stat I7 n7) (T.obj _ _ st7)
      refine thnF (pg.run _ s7 _ H7 x u _ I7' r7 (step x H7 y7)) fun _ s8 ⟨σ8, H8, I8, hw8, q8⟩ => ?_
      refine thnF (pt.run _ s8 σ8 H8 _ I8 q8) fun b s9 ⟨H9, I9, q9⟩ => ?_
      -- the turn's end
      have fin : ∀ {s' : Shared} {H' : Hp}, Inv (X.blk s3 H3 scope ce fp) ([] ++ pinsAt fp s7.heap) σ8 H' s' → Nx H' → ∃ m, m < n ∧ ∃ i H', Inv (X.blk s3 H3 scope ce fp) [] (wipe σ (own.map (·.2))) H' s' ∧ tn i s'.heap ∧ (∀ b ∈ fp, H' b = none) ∧ W i m H' := fun {s' H'} I' nx => by
        obtain ⟨m', hm, w'⟩ := hNx H' nx
        have pin' : ∀ b ∈ fp, ∀ o, s7.heap.get? b = some o → s'.heap.get? b = some o ∧ H' b = none := fun b hb o e =>
          let z := I'.pin (b, o) (List.mem_append_right _ (List.mem_append_right _ (mem_pinsAt hb e)))
          ⟨z.1, z.2.1⟩
        have hl : (wipe σ (own.map (·.2))).length = σ8.length := by rw [← hw8, wipe_length]
        refine ⟨m', hm, i + 1, H', (I'.unpinned (pins := [])).weak hl (fun j v e => ?_), T.keep _ _ _ st7 fun b hb o e => (pin' b hb o e).1, fun b hb => ?_, w'⟩
        · rw [← hw8] at e
          exact (wipe_some e).1
        · obtain ⟨o, e, _⟩ := T.obj _ _ st7 b hb
          exact (pin' b hb o e).2
      cases b with
      | false =>
        simp only [Bool.false_eq_true, if_false] at q9 ⊢
        exact fin I9 q9
      | true =>
        simp only [if_true] at q9 ⊢
        refine thnF (pk.run _ s9 σ8 H9 _ I9 q9) fun z s10 ⟨yk, H10, I10, r10, q10⟩ => ?_
        refine thnF (pe.run _ s10 σ8 H10 _ I10 q10) fun z2 s11 ⟨yv, H11, I11, r11, kvs, k, b, ek, eb, hD11, hz11, nx⟩ => ?_
        subst ek
        exact d_dictSetT (X := X.blk s3 H3 scope ce fp) hu I11 hD11 eb hz11 r10 r11 fun s12 I12 => fin I12 nx
  exact codeAny_compStart_dict loop (T.self X.A 0 _ _ _ st4 loop)
end
section
variable {X : Cx} {F : Fm} {G : List Sl} {pos : Pos}
theorem dcT_sem {Kd : List (List Key × D) → List Sl → Prop} {kx vx tg iter : Expr} {ifs : List Expr} {scope : Scope} (own : List (Str × Nat)) (hif : ifs.length ≤ 1) (hn : X.N.Nodup) (N : List Str) (sc : Scope) (ok : blkC N sc scope own = true) (h : XW' X F tg iter G fun ds G1 => ∃ J : Nat → List Sl → List (List Key × D) → Prop, J 0 (inC (own.map (·.2)) 0 G1) [] ∧ ds.length < 1000000 ∧
      (∀ i T acc, J i T acc → okC (own.map (·.2)) 0 T ∧ acc.length ≤ i) ∧
      (∀ i d T acc, ds[i]? = some d → J i T acc → ∀ F' s0 H0 C cl fp, XG (X.blk s0 H0 scope (compEnvC scope cl C X.env) fp) F' tg d T (fun j => (own.map (·.2)).contains j) fun T' => ∀ s0 H0 C cl fp, XTs (X.blk s0 H0 scope (compEnvC scope cl C X.env) fp) F' ifs T' fun b T2 =>
        (b = true → ∀ s0 H0 C cl fp, XE (X.blk s0 H0 scope (compEnvC scope cl C X.env) fp) F' kx T2 fun y T3 => ∀ s0 H0 C cl fp, XE (X.blk s0 H0 scope (compEnvC scope cl C X.env) fp) F' vx T3 fun z T5 => ∃ k T4, y = D.tup (k.map keyD) ∧ J (i + 1) T4 (pD acc k z) ∧ Cov T5 T4) ∧ (b = false → ∃ T4, J (i + 1) T4 acc ∧ Cov T2 T4)) ∧
      ∀ T acc, J ds.length T acc → Kd acc (outC G1 T))
    (hc : X.calm = true := by rfl) (eN : X.N = N := by rfl) (eS : X.env.scope = sc := by rfl) (hs : ∀ x, foldedSetIterable iter X.env x = pure x := by intro _; rfl) : ∀ S H σ, IV X.K F G S H σ → ∀ Q : VK, (∀ Dl acc vacc G' S2 H2, IV X.K F G' S2 H2 σ → Ex S S2 → S2 Dl = none → F.H0 Dl = none → Dl ∉ F.B → NoOwn G' σ Dl → H2 Dl = some (.dT vacc) → vacc.map (·.1) = acc.map (·.1) → Reps X.K S2 (vacc.map (·.2)) (acc.map (·.2)) → Kd acc G' → Q (.ref Dl) H2) →
      tDcT (semI X tg iter) (fun v σ H Q => ∀ s0 H0 C cl fp, semG (X.blk s0 H0 scope (compEnvC scope cl C X.env) fp) tg v σ H Q) (fun σ H Q => ∀ s0 H0 C cl fp, semTs (X.blk s0 H0 scope (compEnvC scope cl C X.env) fp) ifs σ H Q) (fun σ H Q => ∀ s0 H0 C cl fp, semE (X.blk s0 H0 scope (compEnvC scope cl C X.env) fp) kx σ H Q) (fun σ H Q => ∀ s0 H0 C cl fp, semE (X.blk s0 H0 scope (compEnvC scope cl C X.env) fp) vx σ H Q) (own.map (·.2)) σ H Q := by
  intro S H σ Iv Q kq
  let Y : Shared → Hp → Addr → List (Str × Addr) → List Addr → Cx := fun s0 H0 C cl fp => X.blk s0 H0 scope (compEnvC scope cl C X.env) fp
  refine semI_mono (h S H σ Iv) fun It H1 ⟨ds, G1, S1, I1, e1, wk, J, j0, hlen, hok, turn, done⟩ => ?_
  intro Dl hD
  have vsE : own.map (·.2) = own.map (·.2) := rfl
  obtain ⟨ad, h1, h2⟩ := I1.sl
  have nof : ∀ {i : Nat} {T : List Sl} {acc : List (List Key × D)}, J i T acc → ∀ (k : Nat) c, T[k]? ≠ some (.ow false c) := fun {i T acc} j k c z => (okC_at (hok i T acc j).1 z).2 c rfl
  have hDB : Dl ∉ bsOf ad G1 := fun z => by
    obtain ⟨i, q, c, g, e⟩ := mem_bsOf.mp z
    obtain ⟨_, _, _, o, ho, _⟩ := h1 i _ g
    rw [← e, hD] at ho; cases ho
  have hS1 : S1 Dl = none := (I1.fr.free hD).1
  have Iin : IV X.K ⟨H1, S1, bsOf ad G1⟩ (inC (own.map (·.2)) 0 G1) S1 H1 (wipe σ (own.map (·.2))) := I1.inC h1 h2
  refine ⟨fun i m H2 => m = ds.length - i ∧ i ≤ ds.length ∧ ∃ T S2 acc vacc, IV X.K ⟨H1, S1, bsOf ad G1⟩ T S2 H2 (wipe σ (own.map (·.2))) ∧ J i T acc ∧ S2 Dl = none ∧ H2 Dl = some (.dT vacc) ∧ vacc.map (·.1) = acc.map (·.1) ∧ Reps X.K S2 (vacc.map (·.2)) (acc.map (·.2)),
    ⟨ds.length, by simp, Nat.zero_le _, _, S1, [], [], Iin.wr hS1 hD hDB (nof j0), j0, hS1, upd_same, rfl, .nil⟩, ?_⟩
  rintro i m H2 ⟨rfl, hi, T, S2, acc, vacc, I2, j, n2, d2, q2, r2⟩
  have e2 : Ex S1 S2 := I2.fr.old
  by_cases hlt : i < ds.length
  · refine .inr ⟨wk.go _ _ S2 H2 _ i I2 e2 hlt, fun H3 => ∃ T S3 acc vacc, IV X.K ⟨H1, S1, bsOf ad G1⟩ T S3 H3 (wipe σ (own.map (·.2))) ∧ J (i + 1) T acc ∧ S3 Dl = none ∧ H3 Dl = some (.dT vacc) ∧ vacc.map (·.1) = acc.map (·.1) ∧ Reps X.K S3 (vacc.map (·.2)) (acc.map (·.2)),
      fun H3 hN => ⟨ds.length - (i + 1), by omega, rfl, hlt, hN⟩, fun x H3 y => ?_⟩
    have hd := List.getElem?_eq_getElem hlt
    have I2' : IV X.K ⟨H2, S2, bsOf ad G1⟩ T S2 H2 (wipe σ (own.map (·.2))) := I2.now (nof j)
    obtain ⟨S3, I3, e3, rx⟩ := wk.yld _ _ S2 H2 _ i _ x H3 I2' e2 hd y
    -- whatever happens within the turn, the new list stays
    have keepD : ∀ {T' : List Sl} {S' H' : Hp} {σ' : L2.St}, IV X.K ⟨H2, S2, bsOf ad G1⟩ T' S' H' σ' → H' Dl = some (.dT vacc) ∧ S' Dl = none := fun {T' S' H' σ'} I' => by
      refine ⟨I'.fr.fr _ _ d2 hDB, ?_⟩
      cases e : S' Dl with
      | none => rfl
      | some u =>
        rcases I'.fr.new Dl (by rw [e]; intro z; cases z) with z | z | ⟨us, z⟩
        · exact absurd n2 z
        · have z' : H2 Dl = none := z
          rw [d2] at z'; cases z'
        · have z' : H2 Dl = some (.tup us) := z
          rw [d2] at z'; cases z'
    have fin : ∀ {T' T4 : List Sl} {S' H' : Hp} {σ' : L2.St} {acc' : List (List Key × D)} {vacc' : List (List Key × L2.V)}, IV X.K ⟨H2, S2, bsOf ad G1⟩ T' S' H' σ' → Cov T' T4 → wipe σ' (own.map (·.2)) = wipe σ (own.map (·.2)) → J (i + 1) T4 acc' →
        IV X.K ⟨H1, S1, bsOf ad G1⟩ T4 S' (upd H' Dl (.dT vacc')) (wipe σ (own.map (·.2))) := fun {T' T4 S' H' σ' acc' vacc'} I' c hw j' => by
      have a1 := (I'.cov c).thenF (H0 := H1) (S0 := S1) I2.fr (nof j')
      have a2 : IV X.K ⟨H1, S1, bsOf ad G1⟩ T4 S' H' (wipe σ (own.map (·.2))) := by
        obtain ⟨ad', k1, k2⟩ := a1.sl
        refine ⟨a1.fr, by rw [← hw, wipe_length]; exact a1.len, ad', fun k s hs => ?_, k2⟩
        by_cases hk : k ∈ own.map (·.2)
        · have z := (okC_at (hok _ _ _ j').1 hs).1 (by rw [Nat.zero_add]; exact hk)
          subst z; trivial
        · have q := k1 k s hs
          rw [← hw, wipe_out hk]
          exact q
      exact a2.wr (keepD I').2 hD hDB (nof j')
    refine fun s0 H0 C cl fp => ?_
    refine semG_mono (turn i _ T acc hd j _ s0 H0 C cl fp S3 H3 _ x I3 rx) fun σ4 H4 ⟨G4, S4, I4, e4, kp, q4⟩ => ?_
    have hw4 : wipe σ4 (own.map (·.2)) = wipe σ (own.map (·.2)) := keeps_wipe kp (fun j h => List.contains_iff_mem.mp h)
    refine ⟨hw4, fun s0 H0 C cl fp => ?_⟩
    have tmono : ∀ {Q Q' : Bool → Hp → Prop}, semTs (Y s0 H0 C cl fp) ifs σ4 H4 Q → (∀ b H', Q b H' → Q' b H') → semTs (Y s0 H0 C cl fp) ifs σ4 H4 Q' := fun {Q Q'} h k => by
      cases ifs with
      | nil => exact k _ _ h
      | cons c r =>
        cases r with
        | nil => exact semT_mono h k
        | cons c2 r => exact (h : False).elim
    refine tmono (semTs_run (q4 s0 H0 C cl fp) S4 H4 σ4 I4) fun b H5 ⟨G5, S5, I5, e5, k1, k2⟩ => ?_
    cases b with
    | true =>
      refine iteT fun s0 H0 C cl fp => ?_
      refine semE_mono (k1 rfl s0 H0 C cl fp S5 H5 σ4 I5) fun v H6 ⟨dy, G6, S6, I6, e6, ry, k7⟩ => fun s0 H0 C cl fp => ?_
      refine semE_mono (k7 s0 H0 C cl fp S6 H6 σ4 I6) fun v2 H7 ⟨dv, G7, S7, I7, e7, rv, k, T4, ek, j4, c4⟩ => ?_
      subst ek
      cases ry with
      | tup ht rt =>
      have ekk := rt.keys
      subst ekk
      have pp := Reps.pD (k := k) q2 (r2.mono ((((e3.tr e4).tr e5).tr e6).tr e7)) rv
      have hl : vacc.length = acc.length := by
        have := congrArg List.length q2
        rwa [List.length_map, List.length_map] at this
      refine ⟨vacc, k, _, rfl, I7.fr.ex _ _ (e7 _ _ ht), (keepD I7).1, by rw [hl]; exact Nat.lt_of_le_of_lt (Nat.le_trans (hok i T acc j).2 hi) (Nat.lt_trans hlen (by decide)), T4, S7, _, _, fin I7 c4 hw4 j4, j4, (keepD I7).2, upd_same, pp.1, pp.2⟩
    | false =>
      refine iteF ?_
      obtain ⟨T4, j4, c4⟩ := k2 rfl
      have r5 := r2.mono ((e3.tr e4).tr e5)
      have same : upd H5 Dl (.dT vacc) = H5 := by
        funext a
        by_cases ha : a = Dl
        · subst ha; rw [upd_same]; exact (keepD I5).1.symm
        · rw [upd_ne ha]
      have := fin (vacc' := vacc) I5 c4 hw4 j4
      rw [same] at this
      exact ⟨T4, S5, _, _, this, j4, (keepD I5).2, (keepD I5).1, q2, r5⟩
  · have e : i = ds.length := by omega
    subst e
    refine .inl ⟨wk.stop _ _ S2 H2 _ I2 e2, ?_⟩
    have I4 := I1.outC h1 h2 I2 (keeps_wipe (ws := fun _ => false) .refl (by intro j h; cases h)) (fun k hk q c z => by
      have := (okC_at (hok _ T acc j).1 z).1 (by rw [Nat.zero_add]; exact hk)
      cases this)
    have hF0 : F.H0 Dl = none := (I1.fr.free hD).2
    have hFB : Dl ∉ F.B := fun z => by obtain ⟨o', e', _⟩ := I1.fr.bor Dl z; rw [hD] at e'; cases e'
    have no : NoOwn (outC G1 T) σ Dl := fun k q c hk z => by
      rcases outC_at hk with e | ⟨d, e, _⟩ | ⟨q1, c0, q2, c2, _, g, _⟩
      · cases e
      · cases e
      · obtain ⟨ev, _, _, o, ho, _⟩ := h1 k _ g
        rw [z] at ev
        have ea : Dl = ad k := L2.V.ref.inj (Option.some.inj ev)
        rw [← ea, hD] at ho; cases ho
    exact kq Dl acc vacc _ S2 H2 I4 (e1.tr e2) n2 hF0 hFB no d2 q2 r2 (done T acc j)
theorem ps_setDcT {i : Nat} {y : Str} {py : Pos} {kx vx tg iter : Expr} {ifs : List Expr} {scope : Scope} {own : List (Str × Nat)} {pos spos : Pos} {wi : TI} {g : TG} {tt : TT} {tk tv : TE} (hu : X.A.units + 1 < cLine) (hc : X.calm = true) (hN : X.N.Nodup) (hy : X.N[i]? = some y) (hyl : X.env.scope.names.lookup y = some .local)
    (hsw : swapsWith (.DictComp kx vx [⟨tg, iter, ifs, 0⟩] scope pos) (some (.Name y py)) spos.line X.env = pure true) (hi : PI X tg iter wi) (ok : BlkOk X.N X.env.scope scope own)
    (hg : ∀ (s : Shared) (H : Hp) (C : Addr) (cl : List (Str × Addr)) (fp : List Addr), PG (X.blk s H scope (compEnvC scope cl C X.env) fp) tg g) (ht : ∀ (s : Shared) (H : Hp) (C : Addr) (cl : List (Str × Addr)) (fp : List Addr), PTs (X.blk s H scope (compEnvC scope cl C X.env) fp) ifs tt)
    (hk : ∀ (s : Shared) (H : Hp) (C : Addr) (cl : List (Str × Addr)) (fp : List Addr), PE (X.blk s H scope (compEnvC scope cl C X.env) fp) kx tk)
    (he : ∀ (s : Shared) (H : Hp) (C : Addr) (cl : List (Str × Addr)) (fp : List Addr), PE (X.blk s H scope (compEnvC scope cl C X.env) fp) vx tv) (hs : ∀ x, foldedSetIterable iter X.env x = pure x := by intro _; rfl) :
    PS X (.Assign [.Name y py] (.DictComp kx vx [⟨tg, iter, ifs, 0⟩] scope pos) spos) (tAsg (tDcT wi g tt tk tv (own.map (·.2))) (gName i)) := by
  refine ⟨fun pins s σ H D I h => ?_⟩
  rw [exec_Assign_Name_used _ _ _ _ hsw]
  refine wpAny_bind (wpAny_standAt (wpAny_bind ?_))
  show wpAny _ X.A (do let _ ← comprehension (.DictComp kx vx [⟨tg, iter, ifs, 0⟩] scope pos) scope X.env (firstIterPos [⟨tg, iter, ifs, 0⟩] pos) newDict false (eval iter X.env) (some (assign (.Name y py) X.env))) _ _ s
  have h : tDcT wi g tt tk tv (own.map (·.2)) σ H (fun x H1 => gName i x σ H1 D.nx) := h
  refine wpAny_bind (thn (dcT_core (Qf := fun _ s' => SP X pins D .next s') hu hc hN I hi ok hg ht hk he hs h fun L C s' m H' I' q hn f => ?_) fun _ s' hq => wpAny_pure (wpAny_pure hq))
  show wpAny _ _ (assign (.Name y py) X.env (.ref L)) _ _ _
  refine wpAny_assign_Name (store_ok2 (v := V.ref L) I' hN hy (.inl hyl) rfl (fun s2 I2 ⟨a, sb, ha⟩ => ?_) (.inr hyl))
  obtain ⟨f0, f1, f2, f3, f4, f5⟩ := f
  have haC : C ≠ a := by
    rcases ha with z | z
    · rw [z]; exact f1
    · exact fun e => f4 y a z e.symm
  refine ⟨m, hn.sameBut sb haC, fun h3 sb3 => ?_⟩
  exact ⟨_, H', I2.turned (t' := s2.toks) (fun b o hb e => (sb3.2 b hb).trans e) f0 f1 f3 f4 f5, q⟩
/-- y = {.. for ..}, keys tuples, from then on frozen -/
theorem xs_dcT {kx vx tg iter : Expr} {ifs : List Expr} {scope : Scope} {P : Pst} {y : Str} {py spos : Pos} (i : Nat) (hu : X.A.units + 1 < cLine) (own : List (Str × Nat)) (hif : ifs.length ≤ 1) (hn : X.N.Nodup) (N : List Str) (sc : Scope) (ok : blkC N sc scope own = true) (h : XW' X F tg iter G fun ds G1 => ∃ J : Nat → List Sl → List (List Key × D) → Prop, J 0 (inC (own.map (·.2)) 0 G1) [] ∧ ds.length < 1000000 ∧
      (∀ i T acc, J i T acc → okC (own.map (·.2)) 0 T ∧ acc.length ≤ i) ∧
      (∀ i d T acc, ds[i]? = some d → J i T acc → ∀ F' s0 H0 C cl fp, XG (X.blk s0 H0 scope (compEnvC scope cl C X.env) fp) F' tg d T (fun j => (own.map (·.2)).contains j) fun T' => ∀ s0 H0 C cl fp, XTs (X.blk s0 H0 scope (compEnvC scope cl C X.env) fp) F' ifs T' fun b T2 =>
        (b = true → ∀ s0 H0 C cl fp, XE (X.blk s0 H0 scope (compEnvC scope cl C X.env) fp) F' kx T2 fun y T3 => ∀ s0 H0 C cl fp, XE (X.blk s0 H0 scope (compEnvC scope cl C X.env) fp) F' vx T3 fun z T5 => ∃ k T4, y = D.tup (k.map keyD) ∧ J (i + 1) T4 (pD acc k z) ∧ Cov T5 T4) ∧ (b = false → ∃ T4, J (i + 1) T4 acc ∧ Cov T2 T4)) ∧
      ∀ T acc, J ds.length T acc → P.nx ((outC G1 T).set i (.va (.dt acc))))
    (hc : X.calm = true := by rfl) (eN : X.N = N := by rfl) (eS : X.env.scope = sc := by rfl) (hs : ∀ x, foldedSetIterable iter X.env x = pure x := by intro _; rfl) (hy : X.N[i]? = some y := by rfl) (hyl : X.env.scope.names.lookup y = some .local := by rfl)
    (hsw : swapsWith (.DictComp kx vx [⟨tg, iter, ifs, 0⟩] scope pos) (some (.Name y py)) spos.line X.env = pure true := by exact sw_trueD rfl rfl rfl (by decide +kernel)) :
    XS X F (.Assign [.Name y py] (.DictComp kx vx [⟨tg, iter, ifs, 0⟩] scope pos) spos) G P := fun S H σ E Iv eok =>
  semS_of (ps_setDcT hu hc hn hy hyl hsw pi_sem (by rw [eN, eS]; exact blkOk_by ok) (g := fun v σ H Q => ∀ s0 H0 C cl fp, semG (X.blk s0 H0 scope (compEnvC scope cl C X.env) fp) tg v σ H Q) (tt := fun σ H Q => ∀ s0 H0 C cl fp, semTs (X.blk s0 H0 scope (compEnvC scope cl C X.env) fp) ifs σ H Q) (tk := fun σ H Q => ∀ s0 H0 C cl fp, semE (X.blk s0 H0 scope (compEnvC scope cl C X.env) fp) kx σ H Q) (tv := fun σ H Q => ∀ s0 H0 C cl fp, semE (X.blk s0 H0 scope (compEnvC scope cl C X.env) fp) vx σ H Q)
    (fun s0 H0 C cl fp => ⟨fun pins s σ H v u Q I r h => h s0 H0 C cl fp pins s u I r⟩) (fun s0 H0 C cl fp => ⟨fun pins s σ H Q I h => (pts_sem hif).run pins s σ H Q I (h s0 H0 C cl fp)⟩) (fun s0 H0 C cl fp => ⟨fun pins s σ H Q I h => h s0 H0 C cl fp pins s I⟩) (fun s0 H0 C cl fp => ⟨fun pins s σ H Q I h => h s0 H0 C cl fp pins s I⟩) hs)
    (dcT_sem (Kd := fun acc G' => P.nx (G'.set i (.va (.dt acc)))) own hif hn N sc ok h hc eN eS hs S H σ Iv _ fun Dl acc vacc G' S2 H2 I2 e2 n2 h0 hB no d2 q2 r2 k => by
      have e4 : Ex S2 (upd S2 Dl (.dT vacc)) := Ex.new n2
      exact eok.nx _ _ H2 _ ((I2.frz2 n2 h0 d2 no).set (.dt upd_same q2 (r2.mono e4))) (e2.tr e4) k)
end
end Pu

namespace Pu
open PySem PySem.Spec PyProof.Rows L2

/-! walking a dict that the slot owns -/
section
variable {K : PySem.W.Frag} {F : Fm} {G T : List Sl} {S H : Hp} {σ : L2.St}
/-- what no slot owns is written -/
theorem IV.wr3 (I : IV K F T S H σ) {p : Addr} {o : HO} (n : S p = none) (h0 : F.H0 p = none) (no : NoOwn T σ p) (nt : ∀ vs, o ≠ .tup vs) : IV K F T S (upd H p o) σ := by
  obtain ⟨ad, h1, h2⟩ := I.sl
  refine ⟨⟨fun a u q => ?_, I.fr.old, fun a u q hb => ?_, I.fr.new, fun b hb => ?_⟩, I.len, ad, fun i s hs => ?_, h2⟩
  · rw [upd_ne (fun z => by subst z; rw [n] at q; cases q)]; exact I.fr.ex a u q
  · rw [upd_ne (fun z => by subst z; rw [h0] at q; cases q)]; exact I.fr.fr a u q hb
  · by_cases hp : b = p
    · subst hp; exact ⟨o, upd_same, nt⟩
    · rw [upd_ne hp]; exact I.fr.bor b hb
  have q := h1 i s hs
  cases s with
  | no => trivial
  | va d => exact q
  | ow qq c =>
    obtain ⟨ev, nn, hb, o', ho, r⟩ := q
    exact ⟨ev, nn, hb, o', by rw [upd_ne (fun z => no i qq c hs (by rw [← z]; exact ev))]; exact ho, r⟩
/-- a tuple that is there becomes known -/
theorem IV.frzT (I : IV K F T S H σ) {p : Addr} {vs : List L2.V} (n : S p = none) (ho : H p = some (.tup vs)) : IV K F T (upd S p (.tup vs)) H σ := by
  obtain ⟨ad, h1, h2⟩ := I.sl
  have e1 : Ex S (upd S p (.tup vs)) := Ex.new n
  refine ⟨⟨fun a u q => ?_, I.fr.old.tr e1, I.fr.fr, fun a q => ?_, I.fr.bor⟩, I.len, ad, fun i s hs => ?_, h2⟩
  · by_cases ha : a = p
    · subst ha; rw [upd_same] at q; cases q; exact ho
    · rw [upd_ne ha] at q; exact I.fr.ex a u q
  · by_cases ha : a = p
    · subst ha; exact I.fr.oldT ho
    · rw [upd_ne ha] at q; exact I.fr.new a q
  have q := h1 i s hs
  cases s with
  | no => trivial
  | va d =>
    obtain ⟨v, ev, r⟩ := q
    exact ⟨v, ev, r.mono e1⟩
  | ow qq c =>
    obtain ⟨ev, nn, hb, o', ho', r⟩ := q
    refine ⟨ev, ?_, hb, o', ho', r.mono e1⟩
    rw [upd_ne (fun z => by rw [z, ho] at ho'; exact r.nt vs (Option.some.inj ho').symm)]; exact nn
end
def unb : Sl → Sl
  | .ow _ c => .ow false c
  | s => s
theorem keys_rep {K : PySem.W.Frag} {S : Hp} : ∀ ks : List Key, Reps K S (ks.map kV) (ks.map keyD)
  | [] => .nil
  | .inl i :: ks => .cons (.int i) (keys_rep ks)
  | .inr x :: ks => .cons (.str x) (keys_rep ks)
/-- the dict's tuple of a turn, known -/
theorem IV.keyT {K : PySem.W.Frag} {F : Fm} {T : List Sl} {S H : Hp} {σ : L2.St} (I : IV K F T S H σ) {q : Addr} {ks : List Key} (h : H q = some (.tup (ks.map kV))) : ∃ S', IV K F T S' H σ ∧ Ex S S' ∧ Rep K S' (.ref q) (.tup (ks.map keyD)) := by
  cases e : S q with
  | some o =>
    have := I.fr.ex q o e
    rw [h] at this; cases this
    exact ⟨S, I, Ex.rfl', .tup e (keys_rep ks)⟩
  | none => exact ⟨_, I.frzT e h, Ex.new e, .tup upd_same (keys_rep ks)⟩
section
variable {X : Cx} {F : Fm} {G : List Sl} {pos : Pos}
/-- for tg in d: d the slot's own, with tuples as keys; what is owned is borrowed within -/
theorem xs_keysT (i : Nat) {kds : List (List Key × D)} {tg : Expr} {x : Str} {p1 : Pos} {body : List Stmt} {P : Pst} (hG : G[i]? = some (.ow false (.dt kds))) (hf : ∀ (j : Nat) q c, G[j]? = some (.ow q c) → q = false)
    (h : ∃ J : Nat → List Sl → Prop, (∃ T, J 0 T ∧ Cov (inC [] 0 (G.set i .no)) T) ∧ (∀ n T, J n T → okC [] 0 T) ∧
      (∀ n ks T, (kds.map (·.1))[n]? = some ks → J n T → ∀ F', XG X F' tg (.tup (ks.map keyD)) T allW fun T' => XSs X F' body T' { nx := fun G' => ∃ T2, J (n + 1) T2 ∧ Cov G' T2, ct := fun G' => ∃ T2, J (n + 1) T2 ∧ Cov G' T2, bk := fun _ => False, rt := fun _ _ => False }) ∧ ∀ T, J kds.length T → P.nx (T.map unb))
    (hN : X.N[i]? = some x := by rfl) (hv : Vis X.env.scope x := by first | exact Or.inl rfl | exact Or.inr (Or.inl rfl) | exact Or.inr (Or.inr rfl)) (hd : (x == ("__debug__" : Str)) = false := by decide) (hcd : (x == ("__classdict__" : Str)) = false := by decide)
    (hpo : PassesOwn (model X.prog X.w) X.A X.env X.xe := by exact PassesOwn.never) (hc : X.calm = true := by rfl) (hs : ∀ y, foldedSetIterable (.Name x p1) X.env y = pure y := by intro _; rfl) : XS X F (.For tg (.Name x p1) body [] pos) G P := fun S H σ E I ok => by
  obtain ⟨J, ⟨T0, j0, c0⟩, hok, turn, done⟩ := h
  obtain ⟨p, o, ep, n, hb, ho, rc⟩ := I.ow hG
  have h0 : F.H0 p = none := by
    rcases hb with ⟨_, z⟩ | ⟨z, _⟩
    · exact z
    · cases z
  cases rc with
  | @dt kvs _ ek rs =>
  refine semS_of (ps_lock (ps_for hpo hc (pi_keys (pe_var hN hv hd hcd)) pg_sem pss_sem hs)) ⟨p, .dT kvs, ho, True.intro, fun od => ?_⟩
  have hil : i < G.length := (List.getElem?_eq_some_iff.mp hG).1
  -- forget the slot, lock the dict
  have Iw : IV X.K F (G.set i .no) S H σ := I.weak (by rw [List.length_set]) fun j s hs' => by
    by_cases hij : i = j
    · subst hij; rw [List.getElem?_set_self hil] at hs'; exact .inl (Option.some.inj hs').symm
    · rw [List.getElem?_set_ne hij] at hs'; exact .inr hs'
  have no : NoOwn (G.set i .no) σ p := fun j q c hj z => by
    obtain ⟨ad, h1, h2⟩ := I.sl
    by_cases hij : i = j
    · subst hij; rw [List.getElem?_set_self hil] at hj; cases hj
    · rw [List.getElem?_set_ne hij] at hj
      obtain ⟨evj, _⟩ := h1 j _ hj
      obtain ⟨evi, _⟩ := h1 i _ hG
      rw [z] at evj
      have eq1 : p = ad j := L2.V.ref.inj (Option.some.inj evj)
      rw [ep] at evi
      have eq2 : p = ad i := L2.V.ref.inj (Option.some.inj evi)
      exact hij (h2 i j _ _ _ _ hG hj (eq2.symm.trans eq1))
  have I1 : IV X.K F (G.set i .no) S (upd H p (.frz od (.dT kvs))) σ := Iw.wr3 n h0 no (fun vs z => by cases z)
  obtain ⟨ad, h1, h2⟩ := I1.sl
  have Iin : IV X.K ⟨upd H p (.frz od (.dT kvs)), S, bsOf ad (G.set i .no)⟩ (inC [] 0 (G.set i .no)) S (upd H p (.frz od (.dT kvs))) σ := I1.inC (vs := []) h1 h2
  have hpB : p ∉ bsOf ad (G.set i .no) := fun z => by
    obtain ⟨j, q, c, g, e⟩ := mem_bsOf.mp z
    obtain ⟨_, _, _, o', ho', r'⟩ := h1 j _ g
    rw [← e, upd_same] at ho'; cases ho'
    cases r'
  have hB0 : ∀ b ∈ bsOf ad (G.set i .no), F.H0 b = none := fun b z => by
    obtain ⟨j, q, c, g, rfl⟩ := mem_bsOf.mp z
    obtain ⟨_, _, hb', _⟩ := h1 j _ g
    have hj : G[j]? = some (.ow q c) := by
      by_cases hij : i = j
      · subst hij; rw [List.getElem?_set_self hil] at g; cases g
      · rw [List.getElem?_set_ne hij] at g; exact g
    have := hf j q c hj
    subst this
    rcases hb' with ⟨_, z⟩ | ⟨z, _⟩
    · exact z
    · cases z
  have lk : kvs.length = kds.length := by
    have := congrArg List.length ek
    rwa [List.length_map, List.length_map] at this
  have locked : ∀ {T' S' H' σ'}, IV X.K ⟨upd H p (.frz od (.dT kvs)), S, bsOf ad (G.set i .no)⟩ T' S' H' σ' → H' p = some (.frz od (.dT kvs)) ∧ S' p = none := fun {T' S' H' σ'} I' => by
    refine ⟨I'.fr.fr p _ upd_same hpB, ?_⟩
    cases e : S' p with
    | none => rfl
    | some u =>
      rcases I'.fr.new p (by rw [e]; intro z; cases z) with z | z | ⟨us, z⟩
      · exact absurd n z
      · have z' : upd H p (.frz od (.dT kvs)) p = none := z
        rw [upd_same] at z'; cases z'
      · have z' : upd H p (.frz od (.dT kvs)) p = some (.tup us) := z
        rw [upd_same] at z'; cases z'
  refine ⟨_, ep, p, od, rfl, .inr ⟨kvs, upd_same, ?_⟩⟩
  refine ⟨fun i m σ H => m = kds.length - i ∧ i ≤ kds.length ∧ ∃ T S2, IV X.K _ T S2 H σ ∧ Ex S S2 ∧ J i T, ⟨kds.length, by simp, Nat.zero_le _, T0, S, Iin.cov c0, Ex.rfl', j0⟩, ?_⟩
  rintro k m σ2 H2 ⟨rfl, hk, T, S2, I2, e2, jv⟩
  by_cases hlt : k < kds.length
  · refine .inr ⟨⟨(locked I2).1, by rw [lk]; exact hlt⟩, fun σ' H' => ∃ T S3, IV X.K ⟨upd H p (.frz od (.dT kvs)), S, bsOf ad (G.set i .no)⟩ T S3 H' σ' ∧ Ex S S3 ∧ J (k + 1) T, fun σ' H' ⟨T', S3, I3, e3, j3⟩ => ⟨kds.length - (k + 1), by omega, rfl, hlt, T', S3, I3, e3, j3⟩, fun y H' yy => ?_⟩
    obtain ⟨rfl, ks, v, q, hkv, rfl, hq⟩ := yy
    obtain ⟨S3, I3, e3, rk⟩ := I2.keyT hq
    have hks : (kds.map (·.1))[k]? = some ks := by rw [← ek, List.getElem?_map, hkv]; rfl
    refine semG_mono (turn k ks T hks jv _ S3 _ σ2 _ I3 rk) fun σ4 H4 ⟨G4, S4, I4, e4, _, k4⟩ => ?_
    have ee : Ex S S4 := (e2.tr e3).tr e4
    exact k4 S4 H4 σ4 _ I4 ⟨fun G5 S5 H5 σ5 I5 e5 ⟨T5, j5, c5⟩ => ⟨T5, S5, I5.cov c5, ee.tr e5, j5⟩, fun d v G5 S5 H5 σ5 I5 e5 r5 k5 => k5.elim, fun G5 S5 H5 σ5 I5 e5 k5 => k5.elim, fun G5 S5 H5 σ5 I5 e5 ⟨T5, j5, c5⟩ => ⟨T5, S5, I5.cov c5, ee.tr e5, j5⟩, fun _ _ _ _ _ _ _ _ _ _ _ _ _ z => z.elim⟩
  · have e : k = kds.length := by omega
    subst e
    obtain ⟨lo, ls⟩ := locked I2
    refine .inl ⟨⟨lo, by rw [lk]; exact Nat.le_refl _⟩, lo, ?_⟩
    have fr' : Frame F S2 (upd H2 p (.dT kvs)) := by
      refine ⟨fun a u q => ?_, I.fr.old.tr I2.fr.old, fun a u q hb => ?_, fun a q => ?_, fun b hb => ?_⟩
      · rw [upd_ne (fun z => by subst z; rw [ls] at q; cases q)]; exact I2.fr.ex a u q
      · have ha : a ≠ p := fun z => by subst z; rw [h0] at q; cases q
        rw [upd_ne ha]
        exact I2.fr.fr a u (by show upd H p _ a = some u; rw [upd_ne ha]; exact I.fr.fr a u q hb) (fun z => by rw [hB0 a z] at q; cases q)
      · rcases I2.fr.new a q with z | z | ⟨us, z⟩
        · exact I.fr.new a z
        · have z' : upd H p (.frz od (.dT kvs)) a = none := z
          have ha : a ≠ p := fun z2 => by subst z2; rw [upd_same] at z'; cases z'
          rw [upd_ne ha] at z'
          exact .inr (.inl (I.fr.free z').2)
        · have z' : upd H p (.frz od (.dT kvs)) a = some (.tup us) := z
          have ha : a ≠ p := fun z2 => by subst z2; rw [upd_same] at z'; cases z'
          rw [upd_ne ha] at z'
          exact I.fr.oldT z'
      · by_cases hp : b = p
        · subst hp; exact ⟨_, upd_same, fun vs z => by cases z⟩
        · rw [upd_ne hp]
          by_cases hb2 : b ∈ bsOf ad (G.set i .no)
          · exact I2.fr.bor b hb2
          · obtain ⟨o', e', nt⟩ := I.fr.bor b hb
            exact ⟨o', I2.fr.fr b o' (by show upd H p _ b = some o'; rw [upd_ne hp]; exact e') hb2, nt⟩
    obtain ⟨ad2, k1, k2⟩ := I2.sl
    have back : ∀ {j : Nat} {q : Bool} {c : D}, (T.map unb)[j]? = some (.ow q c) → ∃ q', T[j]? = some (.ow q' c) ∧ q = false := fun {j q c} hj => by
      rw [List.getElem?_map] at hj
      obtain ⟨s, hs', e⟩ := Option.map_eq_some_iff.mp hj
      cases s with
      | no => cases e
      | va d => cases e
      | ow q' c' =>
        have e' : Sl.ow false c' = Sl.ow q c := e
        cases e'
        exact ⟨q', hs', rfl⟩
    have IF : IV X.K F (T.map unb) S2 (upd H2 p (.dT kvs)) σ2 := by
      refine ⟨fr', by rw [List.length_map]; exact I2.len, ad2, fun j s hs' => ?_, fun a b q c q2 e ha hb' eq => ?_⟩
      · cases s with
        | no => trivial
        | va d =>
          rw [List.getElem?_map] at hs'
          obtain ⟨s', hs2, e⟩ := Option.map_eq_some_iff.mp hs'
          cases s' with
          | no => cases e
          | ow q' c' =>
            have e' : Sl.ow false c' = Sl.va d := e
            cases e'
          | va d' =>
            have e' : Sl.va d' = Sl.va d := e
            cases e'
            exact k1 j _ hs2
        | ow q c =>
          obtain ⟨q', hs2, rfl⟩ := back hs'
          obtain ⟨ev, nn, hb', o', ho', r'⟩ := k1 j _ hs2
          have hm : ad2 j ∈ bsOf ad (G.set i .no) := by
            rcases hb' with ⟨z, _⟩ | ⟨_, z⟩
            · subst z; exact absurd rfl ((okC_at (hok _ T jv) hs2).2 c)
            · exact z
          exact ⟨ev, nn, .inl ⟨rfl, hB0 _ hm⟩, o', by rw [upd_ne (fun z => hpB (by rw [← z]; exact hm))]; exact ho', r'⟩
      · obtain ⟨_, g1, _⟩ := back ha
        obtain ⟨_, g2, _⟩ := back hb'
        exact k2 a b _ _ _ _ g1 g2 eq
    exact ok.nx _ S2 _ σ2 IF e2 (done T jv)
end
end Pu

namespace Pu
open PySem PySem.Spec PyProof.Rows L2
section
variable {X : Cx} {F : Fm} {G : List Sl} {pos : Pos}
/-- y = {.. for ..}, keys tuples, the slot's own -/
theorem xs_dcTo {kx vx tg iter : Expr} {ifs : List Expr} {scope : Scope} {P : Pst} {y : Str} {py spos : Pos} (i : Nat) (hu : X.A.units + 1 < cLine) (own : List (Str × Nat)) (hif : ifs.length ≤ 1) (hn : X.N.Nodup) (N : List Str) (sc : Scope) (ok : blkC N sc scope own = true) (h : XW' X F tg iter G fun ds G1 => ∃ J : Nat → List Sl → List (List Key × D) → Prop, J 0 (inC (own.map (·.2)) 0 G1) [] ∧ ds.length < 1000000 ∧
      (∀ i T acc, J i T acc → okC (own.map (·.2)) 0 T ∧ acc.length ≤ i) ∧
      (∀ i d T acc, ds[i]? = some d → J i T acc → ∀ F' s0 H0 C cl fp, XG (X.blk s0 H0 scope (compEnvC scope cl C X.env) fp) F' tg d T (fun j => (own.map (·.2)).contains j) fun T' => ∀ s0 H0 C cl fp, XTs (X.blk s0 H0 scope (compEnvC scope cl C X.env) fp) F' ifs T' fun b T2 =>
        (b = true → ∀ s0 H0 C cl fp, XE (X.blk s0 H0 scope (compEnvC scope cl C X.env) fp) F' kx T2 fun y T3 => ∀ s0 H0 C cl fp, XE (X.blk s0 H0 scope (compEnvC scope cl C X.env) fp) F' vx T3 fun z T5 => ∃ k T4, y = D.tup (k.map keyD) ∧ J (i + 1) T4 (pD acc k z) ∧ Cov T5 T4) ∧ (b = false → ∃ T4, J (i + 1) T4 acc ∧ Cov T2 T4)) ∧
      ∀ T acc, J ds.length T acc → P.nx ((outC G1 T).set i (.ow false (.dt acc))))
    (hc : X.calm = true := by rfl) (eN : X.N = N := by rfl) (eS : X.env.scope = sc := by rfl) (hs : ∀ x, foldedSetIterable iter X.env x = pure x := by intro _; rfl) (hy : X.N[i]? = some y := by rfl) (hyl : X.env.scope.names.lookup y = some .local := by rfl)
    (hsw : swapsWith (.DictComp kx vx [⟨tg, iter, ifs, 0⟩] scope pos) (some (.Name y py)) spos.line X.env = pure true := by exact sw_trueD rfl rfl rfl (by decide +kernel)) :
    XS X F (.Assign [.Name y py] (.DictComp kx vx [⟨tg, iter, ifs, 0⟩] scope pos) spos) G P := fun S H σ E Iv eok =>
  semS_of (ps_setDcT hu hc hn hy hyl hsw pi_sem (by rw [eN, eS]; exact blkOk_by ok) (g := fun v σ H Q => ∀ s0 H0 C cl fp, semG (X.blk s0 H0 scope (compEnvC scope cl C X.env) fp) tg v σ H Q) (tt := fun σ H Q => ∀ s0 H0 C cl fp, semTs (X.blk s0 H0 scope (compEnvC scope cl C X.env) fp) ifs σ H Q) (tk := fun σ H Q => ∀ s0 H0 C cl fp, semE (X.blk s0 H0 scope (compEnvC scope cl C X.env) fp) kx σ H Q) (tv := fun σ H Q => ∀ s0 H0 C cl fp, semE (X.blk s0 H0 scope (compEnvC scope cl C X.env) fp) vx σ H Q)
    (fun s0 H0 C cl fp => ⟨fun pins s σ H v u Q I r h => h s0 H0 C cl fp pins s u I r⟩) (fun s0 H0 C cl fp => ⟨fun pins s σ H Q I h => (pts_sem hif).run pins s σ H Q I (h s0 H0 C cl fp)⟩) (fun s0 H0 C cl fp => ⟨fun pins s σ H Q I h => h s0 H0 C cl fp pins s I⟩) (fun s0 H0 C cl fp => ⟨fun pins s σ H Q I h => h s0 H0 C cl fp pins s I⟩) hs)
    (dcT_sem (Kd := fun acc G' => P.nx (G'.set i (.ow false (.dt acc)))) own hif hn N sc ok h hc eN eS hs S H σ Iv _ fun Dl acc vacc G' S2 H2 I2 e2 n2 h0 hB no d2 q2 r2 k => by
      exact eok.nx _ _ H2 _ (I2.own2 n2 h0 hB d2 no (.dt q2 r2)) e2 k)

/-- e in / not in a list of data of any depth -/
theorem xo_inDp {Kk : D → List Sl → Prop} {x : D} {ds : List D} (hu : X.A.units + 65 < cLine) (px : plainD x = true) (py : plainD (.lst ds) = true) (sx : SeqAt.shaped (toPy x) = true) (sy : SeqAt.shaped (toPy (.lst ds)) = true) (k : Kk (.bl ((toPys ds).any fun z => PyData.eqv z (toPy x))) G) : XO X F (compareOp .In) x (.lst ds) G Kk :=
  ⟨_, op_inD hu, fun S H σ vx vy I rx ry => ⟨_, _, rx.dp I.fr.ex px, by have := ry.dp I.fr.ex py; unfold toPy at this; exact this, sx, by unfold toPy at sy; exact sy, .at I Ex.rfl' (.bl _) k⟩⟩
/-- e not in x, x the slot's own list -/
theorem xt_nioDp (i : Nat) {Kb : Bool → List Sl → Prop} {a : Expr} {x : Str} {p1 : Pos} (hu : X.A.units + 65 < cLine) (hG : ∃ q c, G[i]? = some (.ow q c)) (h : XE X F a G fun d G1 => ∃ q ds, G1[i]? = some (.ow q (.lst ds)) ∧ plainD d = true ∧ plainDs ds = true ∧ SeqAt.shaped (toPy d) = true ∧ SeqAt.shaped (toPy (.lst ds)) = true ∧ Kb (!(toPys ds).any fun z => PyData.eqv z (toPy d)) G1)
    (hN : X.N[i]? = some x := by rfl) (hv : Vis X.env.scope x := by first | exact Or.inl rfl | exact Or.inr (Or.inl rfl) | exact Or.inr (Or.inr rfl)) (hd : (x == ("__debug__" : Str)) = false := by decide) (hcd : (x == ("__classdict__" : Str)) = false := by decide) :
    XT X F (.Compare a [.NotIn] [.Name x p1] pos) G Kb := by
  intro S H σ I
  obtain ⟨_, c, hc⟩ := hG
  obtain ⟨p0, _, ep0, _⟩ := I.ow hc
  refine semT_of (pt_cmpR (op_notInD hu) pe_sem (pe_var hN hv hd hcd) rfl) ?_
  refine semE_mono (h S H σ I) fun v1 H1 ⟨d, G1, S1, I1, e1, r1, _, ds, g1, px, pds, sx, sy, k⟩ => ?_
  refine ⟨_, ep0, ?_⟩
  obtain ⟨p, o, ep, n, hb, ho, r⟩ := I1.ow g1
  rw [ep0] at ep; cases ep
  cases r with
  | lst r => exact ⟨_, _, r1.dp I1.fr.ex px, .lst (SqL.of ho) (Reps.dp I1.fr.ex r pds), sx, by unfold toPy at sy; exact sy, _, rfl, G1, S1, I1, e1, k⟩
theorem xc_lenT {Kk : D → List Sl → Prop} {kds : List (List Key × D)} (k : Kk (.int kds.length) G) : XC X F (.builtin "len") [.dt kds] G Kk :=
  ⟨_, call_len_dT, fun S H σ vs I r => by
    cases r with
    | cons h r =>
      cases r
      cases h with
      | @dt p kvs _ hp q rs =>
        refine ⟨_, kvs, rfl, I.fr.ex _ _ hp, ?_⟩
        have hl : kvs.length = kds.length := by
          have := congrArg List.length q
          rwa [List.length_map, List.length_map] at this
        rw [hl]
        exact .at I Ex.rfl' (.int _) k⟩
end
/-! lines: lists of words -/
abbrev lnW (ws : List Str) : D := .lst (ws.map D.str)
abbrev tpW (ws : List Str) : D := .tup (ws.map D.str)
def wk (ws : List Str) : List Key := ws.map Sum.inr
theorem wk_D (ws : List Str) : (wk ws).map keyD = ws.map D.str := by unfold wk; rw [List.map_map]; rfl
theorem wk_inj {a b : List Str} : wk a = wk b ↔ a = b := by
  constructor
  · intro h
    induction a generalizing b with
    | nil => cases b with
      | nil => rfl
      | cons y b => cases h
    | cons x a ih => cases b with
      | nil => cases h
      | cons y b =>
        unfold wk at h
        rw [List.map_cons, List.map_cons] at h
        injection h with h1 h2
        rw [Sum.inr.inj h1, ih h2]
  · intro h; rw [h]
theorem GetD.w {kds : List (List Key × D)} (ws : List Str) : GetD (.dt kds) (tpW ws) (gD kds (wk ws)) := by
  have := GetD.t (kds := kds) (wk ws)
  rw [wk_D] at this; exact this
theorem PutD.w {kds : List (List Key × D)} (ws : List Str) (d : D) : PutD (.dt kds) (tpW ws) d (.dt (pD kds (wk ws) d)) := by
  have := PutD.t (kds := kds) (wk ws) d
  rw [wk_D] at this; exact this
theorem eqvAll_w : ∀ a b : List Str, PyData.eqvAll (toPys (a.map D.str)) (toPys (b.map D.str)) = decide (a = b)
  | [], [] => by simp [toPys, PyData.eqvAll]
  | [], y :: b => by simp [toPys, PyData.eqvAll]
  | x :: a, [] => by simp [toPys, PyData.eqvAll]
  | x :: a, y :: b => by
    have ih := eqvAll_w a b
    simp only [List.map_cons, toPys, toPy, PyData.eqvAll, PyData.eqv, ih]
    by_cases h1 : x = y
    · by_cases h2 : a = b
      · simp [h1, h2]
      · simp [h1, h2]
    · simp [h1]
theorem eqv_ln (a b : List Str) : PyData.eqv (toPy (lnW a)) (toPy (lnW b)) = decide (a = b) := by
  unfold lnW
  simp only [toPy, PyData.eqv]
  exact eqvAll_w a b
theorem eqv_tp (a b : List Str) : PyData.eqv (toPy (tpW a)) (toPy (tpW b)) = decide (a = b) := by
  unfold tpW
  simp only [toPy, PyData.eqv]
  exact eqvAll_w a b
theorem any_ln (w : List Str) : ∀ ls : List (List Str), ((toPys (ls.map lnW)).any fun z => PyData.eqv z (toPy (lnW w))) = decide (w ∈ ls)
  | [] => by simp [toPys]
  | l :: ls => by
    have ih := any_ln w ls
    simp only [List.map_cons, toPys, List.any_cons, eqv_ln, ih]
    by_cases h : l = w
    · subst h; simp
    · by_cases h2 : w ∈ ls
      · simp [h, h2]
      · have h3 : ¬ w = l := fun z => h z.symm
        simp [h, h2, h3]
theorem any_tp (w : List Str) : ∀ ls : List (List Str), ((toPys (ls.map tpW)).any fun z => PyData.eqv z (toPy (tpW w))) = decide (w ∈ ls)
  | [] => by simp [toPys]
  | l :: ls => by
    have ih := any_tp w ls
    simp only [List.map_cons, toPys, List.any_cons, eqv_tp, ih]
    by_cases h : l = w
    · subst h; simp
    · by_cases h2 : w ∈ ls
      · simp [h, h2]
      · have h3 : ¬ w = l := fun z => h z.symm
        simp [h, h2, h3]
section
variable {κ : Type} [DecidableEq κ]
theorem pD_keys {kds : List (κ × D)} {k x : κ} {d : D} : x ∈ (pD kds k d).map (·.1) ↔ x ∈ kds.map (·.1) ∨ x = k := by
  unfold pD
  split
  · rename_i hn
    rw [List.map_map]
    have : (kds.map ((fun x : κ × D => x.1) ∘ fun kv => if kv.1 = k then (kv.1, d) else kv)) = kds.map (·.1) := by
      apply List.map_congr_left; intro p _; show (if p.1 = k then (p.1, d) else p).1 = p.1; split <;> rfl
    rw [this]
    constructor
    · exact .inl
    · rintro (h | h)
      · exact h
      · obtain ⟨p, hp, e⟩ := List.any_eq_true.mp hn
        subst h
        exact List.mem_map.mpr ⟨p, hp, of_decide_eq_true e⟩
  · rw [List.map_append, List.mem_append]
    simp
theorem gD_none_iff {kds : List (κ × D)} {k : κ} : gD kds k = none ↔ k ∉ kds.map (·.1) := by
  induction kds with
  | nil => simp [gD_nil]
  | cons p r ih =>
    rw [gD_cons, List.map_cons, List.mem_cons]
    by_cases h : p.1 = k
    · simp [h]
    · rw [if_neg h, ih]
      constructor
      · intro h1 h2
        rcases h2 with h2 | h2
        · exact h h2.symm
        · exact h1 h2
      · intro h1 h2; exact h1 (.inr h2)
end
end Pu

namespace Pu
open PySem PySem.Spec PyProof.Rows L2

/-! slices of lists, sep.join -/
/-- an end of a slice: a number, or none -/
def XP (X : Cx) (F : Fm) (e : Option Expr) (G : List Sl) (Kk : Option Int → List Sl → Prop) : Prop := match e with
  | none => Kk none G
  | some e => XE X F e G fun d G1 => ∃ n, d = .int n ∧ Kk (some n) G1
def semP (X : Cx) (e : Option Expr) : TO := match e with
  | none => tNoPart
  | some e => tPart (semE X e)
theorem po_sem {X : Cx} : ∀ {e : Option Expr}, PO X e (semP X e)
  | none => po_none
  | some _ => po_some pe_sem
theorem semP_run {X : Cx} {F : Fm} {G : List Sl} {Kk : Option Int → List Sl → Prop} : ∀ {e : Option Expr}, XP X F e G Kk → ∀ S H σ, IV X.K F G S H σ → ∀ Q : Option Int → Hp → Prop, (∀ o G1 S1 H1, IV X.K F G1 S1 H1 σ → Ex S S1 → Kk o G1 → Q o H1) → semP X e σ H Q
  | none, h, S, H, σ, I, Q, k => k none G S H I Ex.rfl' h
  | some e, h, S, H, σ, I, Q, k => semE_mono (h S H σ I) fun v H1 ⟨d, G1, S1, I1, e1, r1, n, ed, kk⟩ => by
    subst ed
    cases r1
    exact ⟨n, rfl, k _ G1 S1 H1 I1 e1 kk⟩
def cutD (ds : List D) (lo hi : Option Int) : List D := (ds.drop (HT.sIx ds.length 0 lo)).take (HT.sIx ds.length ds.length hi - HT.sIx ds.length 0 lo)
theorem Reps.cut {K : PySem.W.Frag} {S : Hp} {vs : List L2.V} {ds : List D} (r : Reps K S vs ds) (lo hi : Option Int) : Reps K S (cutV vs lo hi) (cutD ds lo hi) := by
  unfold cutV cutD
  rw [r.length]
  exact (r.drop _).take _
section
variable {X : Cx} {F : Fm} {G : List Sl} {pos p2 : Pos} {Kk : D → List Sl → Prop}
/-- e[lo:hi] of a list: a new list -/
theorem xe_slL {e : Expr} {lo hi : Option Expr} (h : XE X F e G fun d G1 => XP X F lo G1 fun a G2 => XP X F hi G2 fun b G3 => ∃ ds, d = .lst ds ∧ Kk (.lst (cutD ds a b)) G3) : XE X F (.Subscript e (.Slice lo hi none p2) pos) G Kk := fun S H σ I => by
  refine semE_of (pe_slice sl_list pe_sem po_sem po_sem) ?_
  refine semE_mono (h S H σ I) fun v H1 ⟨d, G1, S1, I1, e1, r1, q1⟩ => ?_
  refine semP_run q1 S1 H1 σ I1 _ fun a G2 S2 H2 I2 e2 q2 => ?_
  refine semP_run q2 S2 H2 σ I2 _ fun b G3 S3 H3 I3 e3 ⟨ds, ed, k⟩ => ?_
  subst ed
  cases r1.mono (e2.tr e3) with
  | @lst p vs _ hp rs =>
    refine ⟨p, vs, rfl, SqL.of (I3.fr.ex _ _ hp), fun q hq => ?_⟩
    obtain ⟨I4, e4⟩ := I3.alloc (o := .lst (cutV vs a b)) hq
    exact .at I4 (((e1.tr e2).tr e3).tr e4) (.lst upd_same ((rs.mono e4).cut a b)) k
theorem Reps.strs {K : PySem.W.Frag} {S : Hp} : ∀ {vs : List L2.V} {ys : List Str}, Reps K S vs (ys.map D.str) → vs = ys.map L2.V.str
  | _, [], .nil => rfl
  | _, n :: ns, .cons h r => by
    cases h
    rw [List.map_cons, Reps.strs r]
/-- "..".join(e), e a list of texts -/
theorem xe_joinL {a : Expr} {e : Expr} {apos : Pos} (h : XE X F a G fun d G1 => ∃ z, d = .str z ∧ XE X F e G1 fun y G2 => ∃ ys, y = .lst (ys.map D.str) ∧ (ys.map (·.length)).sum + ys.length * z.length ≤ 16777216 ∧ Kk (.str (Txt.join z ys)) G2)
    (hs : starEach [e] X.env = [(false, eval e X.env)] := by rfl) (hbase : attributeBase a "join" X.env (eval a X.env) = eval a X.env := by rfl) (hline : (apos.endLine == pos.line) = true := by rfl) :
    XE X F (.Call (.Attribute a "join" apos) [e] [] pos) G Kk := fun S H σ I => by
  refine semE_of (pe_join pe_sem pe_sem hs hbase hline) ?_
  refine semE_mono (h S H σ I) fun v H1 ⟨d, G1, S1, I1, e1, r1, z, ed, q1⟩ => ?_
  subst ed
  cases r1
  refine ⟨⟨z, rfl⟩, semE_mono (q1 S1 H1 σ I1) fun v2 H2 ⟨y, G2, S2, I2, e2, r2, ys, ey, hz, k⟩ => ?_⟩
  subst ey
  cases r2 with
  | @lst p vs _ hp rs =>
    have e := rs.strs
    subst e
    exact ⟨z, p, ys, rfl, rfl, .inl (SqL.of (I2.fr.ex _ _ hp)), hz, .at I2 (e1.tr e2) (.str _) k⟩
end
end Pu

namespace Pu
open PySem PySem.Spec PyProof.Rows L2
section
variable {X : Cx} {F : Fm} {G : List Sl} {P : Pst} {pos : Pos} {Kk : D → List Sl → Prop}
theorem xs_while {c : Expr} {body : List Stmt} (J : Nat → List Sl → Prop) (h0 : ∃ m T, J m T ∧ Cov G T)
    (turn : ∀ m T, J m T → XT X F c T fun b T1 => (b = true → XSs X F body T1 { nx := fun G' => ∃ m' T2, m' < m ∧ J m' T2 ∧ Cov G' T2, ct := fun G' => ∃ m' T2, m' < m ∧ J m' T2 ∧ Cov G' T2, bk := P.nx, rt := P.rt }) ∧ (b = false → P.nx T1))
    (hpo : PassesOwn (model X.prog X.w) X.A X.env X.xe := by exact PassesOwn.never) : XS X F (.While c body [] pos) G P := fun S H σ E Iv ok => by
  refine semS_of (ps_while hpo pt_sem pss_sem) ?_
  obtain ⟨m0, T0, j0, c0⟩ := h0
  refine ⟨fun m σ H => ∃ T S2, IV X.K F T S2 H σ ∧ Ex S S2 ∧ J m T, ⟨m0, T0, S, Iv.cov c0, Ex.rfl', j0⟩, ?_⟩
  rintro m σ2 H2 ⟨T, S2, I2, e2, jv⟩
  refine semT_mono (turn m T jv S2 H2 σ2 I2) fun b H3 ⟨G3, S3, I3, e3, k1, k2⟩ => ?_
  have ee : Ex S S3 := e2.tr e3
  cases b with
  | true =>
    rw [if_pos rfl]
    refine ⟨fun σ' H' => ∃ m', m' < m ∧ ∃ T S3, IV X.K F T S3 H' σ' ∧ Ex S S3 ∧ J m' T, fun σ' H' ⟨m', hm, T', S4, I4, e4, j4⟩ => ⟨m', hm, T', S4, I4, e4, j4⟩, ?_⟩
    exact k1 rfl S3 H3 σ2 _ I3 ⟨fun G5 S5 H5 σ5 I5 e5 ⟨m', T5, hm, j5, c5⟩ => ⟨m', hm, T5, S5, I5.cov c5, ee.tr e5, j5⟩, fun d v G5 S5 H5 σ5 I5 e5 r5 k5 => ok.rt d v G5 S5 H5 σ5 I5 (ee.tr e5) r5 k5, fun G5 S5 H5 σ5 I5 e5 k5 => ok.nx G5 S5 H5 σ5 I5 (ee.tr e5) k5, fun G5 S5 H5 σ5 I5 e5 ⟨m', T5, hm, j5, c5⟩ => ⟨m', hm, T5, S5, I5.cov c5, ee.tr e5, j5⟩, fun _ _ _ _ _ _ _ _ _ _ _ _ _ z => z.elim⟩
  | false =>
    rw [if_neg (by decide)]
    exact ok.nx _ S3 H3 _ I3 ee (k2 rfl)
theorem xs_aug (i : Nat) {x : Str} {e : Expr} {pos' : Pos} {a : Int} (hn : X.N.Nodup) (hG : G[i]? = some (.va (.int a))) (h : XE X F e G fun d G1 => ∃ b, d = .int b ∧ P.nx (G1.set i (.va (.int (a + b))))) (hi : X.N[i]? = some x := by rfl) (hx : Loc X.env.scope x := by first | exact Or.inl rfl | exact Or.inr rfl)
    (hf : X.fn x = true ∨ X.env.scope.names.lookup x = some .local := by first | exact .inl rfl | exact .inr rfl | assumption) : XS X F (.AugAssign (.Name x pos') .Add e pos) G P := fun S H σ E I ok => by
  refine semS_of (ps_aug hn hi hx pe_sem ip_add hf) ?_
  obtain ⟨v, ev, rv⟩ := I.va hG
  cases rv
  refine ⟨_, ev, ?_⟩
  exact semE_mono (h S H σ I) fun v1 H1 ⟨d, G1, S1, I1, e1, r, b, eb, k⟩ => by
    subst eb
    cases r
    exact ⟨a, b, rfl, rfl, ok.nx _ S1 H1 _ (I1.set (.int _)) e1 k⟩
/-- "" += in a text -/
theorem xs_augS (i : Nat) {x : Str} {e : Expr} {pos' : Pos} {a : Str} (hn : X.N.Nodup) (hG : G[i]? = some (.va (.str a))) (h : XE X F e G fun d G1 => ∃ b, d = .str b ∧ a.length + b.length ≤ 1000000 ∧ P.nx (G1.set i (.va (.str (a ++ b))))) (hi : X.N[i]? = some x := by rfl) (hx : Loc X.env.scope x := by first | exact Or.inl rfl | exact Or.inr rfl)
    (hf : X.fn x = true ∨ X.env.scope.names.lookup x = some .local := by first | exact .inl rfl | exact .inr rfl | assumption) : XS X F (.AugAssign (.Name x pos') .Add e pos) G P := fun S H σ E I ok => by
  refine semS_of (ps_aug hn hi hx pe_sem (ti := rAddS) (fun pins s σ H x y u v Q I rx ry h => in_addS pins s σ H x y u v Q I rx ry h) hf) ?_
  obtain ⟨v, ev, rv⟩ := I.va hG
  cases rv
  refine ⟨_, ev, ?_⟩
  exact semE_mono (h S H σ I) fun v1 H1 ⟨d, G1, S1, I1, e1, r, b, eb, hz, k⟩ => by
    subst eb
    cases r
    exact ⟨a, b, rfl, rfl, Nat.le_trans hz (by decide), ok.nx _ S1 H1 _ (I1.set (.str _)) e1 k⟩
end
end Pu

namespace Pu
open PySem PySem.Spec PyProof.Rows L2
section
variable {X : Cx} {F : Fm} {G : List Sl} {P : Pst} {pos : Pos} {Kk : D → List Sl → Prop}
theorem XA.mono {es : List Expr} {Ka K2 : List D → List Sl → Prop} (h : XA X F es G Ka) (k : ∀ ds G', Ka ds G' → K2 ds G') : XA X F es G K2 := fun S H σ I => semA_mono (h S H σ I) fun v H' ⟨d, G', S', I', e', r, q⟩ => ⟨d, G', S', I', e', r, k _ _ q⟩
theorem xe_callx {R : List D → (D → Prop) → Prop} {k : Nat} {f : Addr} {fd : FuncData} {ps : List Str} {x : Str} {e0 : Expr} {es : List Expr} {p : Pos} (Fk : FnOk X.prog X.w X.K X.mg X.base CX0 k f fd ps (SpD X.K R)) (hr : Room k X.A) (hm : X.mg x = some (.ref f)) (hk : PySem.W.keepIn X.K (.ref f) = true) (hb : Binds X.K fd ps [])
    (h : XA X F (e0 :: es) G fun ds G1 => R ds fun d => Kk d G1) (hg : Gl X x := by rfl) (hdb : (x == ("__debug__" : Str)) = false := by decide)
    (he : starEach (e0 :: es) X.env = (false, eval e0 X.env) :: starEach es X.env := by rfl) (hpl : (backTo pos (starEach es X.env)).any (·.1) = false := by rfl) : XE X F (.Call (.Name x p) (e0 :: es) [] pos) G Kk :=
  xe_call Fk hr hm hk hb (h.mono fun ds G1 q => ⟨_, q, fun _ h => h⟩) hg hdb he hpl
theorem xe_callx0 {R : List D → (D → Prop) → Prop} {k : Nat} {f : Addr} {fd : FuncData} {ps : List Str} {x : Str} {p : Pos} (Fk : FnOk X.prog X.w X.K X.mg X.base CX0 k f fd ps (SpD X.K R)) (hr : Room k X.A) (hm : X.mg x = some (.ref f)) (hk : PySem.W.keepIn X.K (.ref f) = true) (hb : Binds X.K fd ps [])
    (h : R [] fun d => Kk d G) (hg : Gl X x := by rfl) (hdb : (x == ("__debug__" : Str)) = false := by decide) : XE X F (.Call (.Name x p) [] [] pos) G Kk :=
  xe_call0 Fk hr hm hk hb ⟨_, h, fun _ h => h⟩ hg hdb
theorem xe_callBx (i : Nat) {R : D → List D → (D → D → Prop) → Prop} {k : Nat} {f : Addr} {fd : FuncData} {ps : List Str} {x y : Str} {es : List Expr} {p p2 : Pos} (Fk : FnOk X.prog X.w X.K X.mg X.base CX0 k f fd ps (SpB X.K R)) (hr : Room k X.A) (hm : X.mg x = some (.ref f)) (hk : PySem.W.keepIn X.K (.ref f) = true) (hb : Binds X.K fd ps [])
    (hG : ∃ q c, G[i]? = some (.ow q c)) (h : XA X F es G fun ds G1 => ∃ q c, G1[i]? = some (.ow q c) ∧ R c ds fun d c' => Kk d (G1.set i (.ow q c'))) (hN : X.N[i]? = some y := by rfl) (hg : Gl X x := by rfl) (hdb : (x == ("__debug__" : Str)) = false := by decide)
    (hv : Vis X.env.scope y := by first | exact Or.inl rfl | exact Or.inr (Or.inl rfl) | exact Or.inr (Or.inr rfl)) (hd : (y == ("__debug__" : Str)) = false := by decide) (hcd : (y == ("__classdict__" : Str)) = false := by decide)
    (he : starEach (.Name y p2 :: es) X.env = (false, eval (.Name y p2) X.env) :: starEach es X.env := by rfl) (hpl : (backTo pos (starEach es X.env)).any (·.1) = false := by rfl) : XE X F (.Call (.Name x p) (.Name y p2 :: es) [] pos) G Kk :=
  xe_callB1 i Fk hr hm hk hb hG (h.mono fun ds G1 ⟨q, c, g, r⟩ => ⟨q, c, _, g, r, fun _ _ h => h⟩) hg hdb hN hv hd hcd he hpl
theorem xe_bl1 {b : Bool} {Kb : Bool → List Sl → Prop} (h : Kb b G) : ∃ c, D.bl b = .bl c ∧ Kb c G := ⟨b, rfl, h⟩
theorem xp_none {Kp : Option Int → List Sl → Prop} (h : Kp none G) : XP X F none G Kp := h
theorem xp_some {Kp : Option Int → List Sl → Prop} {e : Expr} (h : XE X F e G fun d G1 => ∃ n, d = .int n ∧ Kp (some n) G1) : XP X F (some e) G Kp := h
theorem xss_ifd {c : Expr} {t u : List Stmt} {st : Stmt} {rest : List Stmt} (h : False) : XSs X F (.If c t u pos :: st :: rest) G P := h.elim
theorem ib_dec {p : Prop} [Decidable p] {A B : Prop} (h1 : p → A) (h2 : ¬p → B) : ∃ c, D.bl (decide p) = .bl c ∧ (c = true → A) ∧ (c = false → B) := ⟨_, rfl, fun h => h1 (of_decide_eq_true h), fun h => h2 (of_decide_eq_false h)⟩
theorem ib_decn {p : Prop} [Decidable p] {A B : Prop} (h1 : p → A) (h2 : ¬p → B) : ∃ c, D.bl (!decide p) = .bl c ∧ (c = true → B) ∧ (c = false → A) := ⟨_, rfl, fun h => h2 (by simpa using h), fun h => h1 (by simpa using h)⟩
theorem ib_ndec {p : Prop} [Decidable p] {A B : Prop} (h1 : p → B) (h2 : ¬p → A) : ∃ c, D.bl (decide p) = .bl c ∧ ((!c) = true → A) ∧ ((!c) = false → B) := ⟨_, rfl, fun h => h2 (by simpa using h), fun h => h1 (by simpa using h)⟩
theorem ib_ndecn {p : Prop} [Decidable p] {A B : Prop} (h1 : p → A) (h2 : ¬p → B) : ∃ c, D.bl (!decide p) = .bl c ∧ ((!c) = true → A) ∧ ((!c) = false → B) := ⟨_, rfl, fun h => h1 (by simpa using h), fun h => h2 (by simpa using h)⟩
theorem ib_t {A B : Prop} (h : A) : ∃ c, D.bl true = .bl c ∧ (c = true → A) ∧ (c = false → B) := ⟨_, rfl, fun _ => h, fun z => by cases z⟩
theorem ib_f {A B : Prop} (h : B) : ∃ c, D.bl false = .bl c ∧ (c = true → A) ∧ (c = false → B) := ⟨_, rfl, fun z => (by cases z), fun _ => h⟩
theorem ib_tn {A B : Prop} (h : B) : ∃ c, D.bl true = .bl c ∧ ((!c) = true → A) ∧ ((!c) = false → B) := ⟨_, rfl, fun z => (by cases z), fun _ => h⟩
theorem ib_fn {A B : Prop} (h : A) : ∃ c, D.bl false = .bl c ∧ ((!c) = true → A) ∧ ((!c) = false → B) := ⟨_, rfl, fun _ => h, fun z => by cases z⟩
theorem kb_f {A B : Prop} (h : B) : (false = true → A) ∧ (false = false → B) := ⟨fun z => (by cases z), fun _ => h⟩
theorem kb_t {A B : Prop} (h : A) : (true = true → A) ∧ (true = false → B) := ⟨fun _ => h, fun z => by cases z⟩
theorem xt_wb {op} {es : List Expr} {Kb : Bool → List Sl → Prop} (h : XW X F (.BoolOp op es pos) G Kb) : XT X F (.BoolOp op es pos) G Kb := xt_w h
theorem RCell.mk {ns : List Int} {k : Int} {Φ : D → Prop} (h : 0 ≤ k) (q : ∀ n : Int, Φ (.int n)) : RCell [.scr ns, .int k] Φ := ⟨ns, k, rfl, h, q⟩
theorem RDraw.mk {c : D} {m : Int} {Φ : D → D → Prop} (hc : BoxOk c) (hm : 0 < m) (q : ∀ (n : Int) c', 0 ≤ n → n < m → BoxOk c' → Φ (.int n) c') : RDraw c [.int m] Φ := ⟨hc, m, rfl, hm, q⟩
theorem RSolid.mk {c : D} {Φ : D → D → Prop} (hc : BoxOk c) (q : ∀ (ch : Nat) c', Solid ch → BoxOk c' → Φ (.str ⟨#[ch]⟩) c') : RSolid c [] Φ := ⟨hc, rfl, q⟩
theorem RAny.mk {c : D} {Φ : D → D → Prop} (hc : BoxOk c) (q : ∀ (ch : Nat) c', AnyC ch → BoxOk c' → Φ (.str ⟨#[ch]⟩) c') : RAny c [] Φ := ⟨hc, rfl, q⟩
theorem RSame.mk {d : D} {n : Nat} {Φ : D → Prop} (h : Cmp n d) (q : Φ (.bl true)) : RSame n [d, d] Φ := ⟨d, rfl, h.1, h.2.1, h.2.2, q⟩
theorem RDigits.mk {ns : List Int} {a b : Nat} {Φ : D → Prop} (hab : a ≤ b) (hb : b ≤ 100) (q : ∀ l : List Int, Dg l → Φ (.lst (l.map D.int))) : RDigits [.scr ns, .int a, .int b] Φ := ⟨ns, a, b, rfl, hab, hb, q⟩
theorem xo_isNn {x : D} (k : Kk (.bl (!isN x)) G) : XO X F (compareOp .IsNot) x .non G Kk :=
  ⟨_, op_notN, fun S H σ vx vy I rx ry => by
    cases ry
    refine ⟨rfl, ?_⟩
    have e : decide (vx = L2.V.non) = isN x := by cases rx <;> rfl
    rw [e]
    exact .at I Ex.rfl' (.bl _) k⟩
end
end Pu

namespace Pu
open PySem PySem.Spec PyProof.Rows L2
abbrev vI (n : Int) : Sl := .va (.int n)
abbrev vS (z : Str) : Sl := .va (.str z)
abbrev vB (b : Bool) : Sl := .va (.bl b)
abbrev vIs (l : List Int) : Sl := .va (.lst (l.map D.int))
abbrev oIs (q : Bool) (l : List Int) : Sl := .ow q (.lst (l.map D.int))
abbrev bx (c : D) : Sl := .ow true c
abbrev bf (c : D) : Sl := .ow false c
inductive Nrm : List Sl → List Sl → Prop where
  | nil : Nrm [] []
  | va {d : D} {G T : List Sl} (h : Nrm G T) : Nrm (.va d :: G) (.va d :: T)
  | ow {q : Bool} {d : D} {G T : List Sl} (h : Nrm G T) : Nrm (.ow q d :: G) (.ow q d :: T)
  | no {G T : List Sl} (h : Nrm G T) : Nrm (.no :: G) (.no :: T)
theorem Nrm.eq {G T : List Sl} (h : Nrm G T) : G = T := by
  induction h with
  | nil => rfl
  | va _ ih => rw [ih]
  | ow _ ih => rw [ih]
  | no _ ih => rw [ih]
theorem xssn {X : Cx} {F : Fm} {G T : List Sl} {P : Pst} {st : Stmt} {rest : List Stmt} (n : Nrm G T) (h : XS X F st T { P with nx := fun G1 => XSs X F rest G1 P }) : XSs X F (st :: rest) G P := by rw [n.eq]; exact xss h
theorem xsn {X : Cx} {F : Fm} {G T : List Sl} {P : Pst} {sts : List Stmt} (n : Nrm G T) (h : XSs X F sts T P) : XSs X F sts G P := by rw [n.eq]; exact h
theorem xen {X : Cx} {F : Fm} {G T : List Sl} {Kk : D → List Sl → Prop} {e : Expr} (n : Nrm G T) (h : XE X F e T Kk) : XE X F e G Kk := by rw [n.eq]; exact h
theorem xgn {X : Cx} {F : Fm} {G T : List Sl} {Kk : List Sl → Prop} {e : Expr} {d : D} {ws : Nat → Bool} (n : Nrm G T) (h : XG X F e d T ws Kk) : XG X F e d G ws Kk := by rw [n.eq]; exact h
section
variable {X : Cx} {F : Fm} {G1 : List Sl} {tg elt : Expr} {ifs : List Expr} {scope : Scope} {own : List (Str × Nat)} {ds : List D} {Kd : List D → List Sl → Prop}
theorem lc_fil {α : Type} (xs : List α) (g : α → D) (f : α → Option D) (hds : ds = xs.map g) (hl : xs.length < 1000000) (hok : okC (own.map (·.2)) 0 (inC (own.map (·.2)) 0 G1))
    (turn : ∀ x, x ∈ xs → ∀ F' s0 H0 C cl fp, XG (X.blk s0 H0 scope (compEnvC scope cl C X.env) fp) F' tg (g x) (inC (own.map (·.2)) 0 G1) (fun j => (own.map (·.2)).contains j) fun T' => ∀ s0 H0 C cl fp, XTs (X.blk s0 H0 scope (compEnvC scope cl C X.env) fp) F' ifs T' fun b T2 =>
        (b = true → ∀ s0 H0 C cl fp, XE (X.blk s0 H0 scope (compEnvC scope cl C X.env) fp) F' elt T2 fun y T3 => f x = some y ∧ Cov T3 (inC (own.map (·.2)) 0 G1)) ∧ (b = false → f x = none ∧ Cov T2 (inC (own.map (·.2)) 0 G1)))
    (fin : Kd (xs.filterMap f) (inC (own.map (·.2)) 0 G1)) :
    ∃ J : Nat → List Sl → List D → Prop, J 0 (inC (own.map (·.2)) 0 G1) [] ∧ ds.length < 1000000 ∧
      (∀ i T acc, J i T acc → okC (own.map (·.2)) 0 T ∧ acc.length ≤ i) ∧
      (∀ i d T acc, ds[i]? = some d → J i T acc → ∀ F' s0 H0 C cl fp, XG (X.blk s0 H0 scope (compEnvC scope cl C X.env) fp) F' tg d T (fun j => (own.map (·.2)).contains j) fun T' => ∀ s0 H0 C cl fp, XTs (X.blk s0 H0 scope (compEnvC scope cl C X.env) fp) F' ifs T' fun b T2 =>
        (b = true → ∀ s0 H0 C cl fp, XE (X.blk s0 H0 scope (compEnvC scope cl C X.env) fp) F' elt T2 fun y T3 => ∃ T4, J (i + 1) T4 (acc ++ [y]) ∧ Cov T3 T4) ∧ (b = false → ∃ T4, J (i + 1) T4 acc ∧ Cov T2 T4)) ∧
      ∀ T acc, J ds.length T acc → Kd acc T := by
  subst hds
  refine ⟨fun i T acc => T = inC (own.map (·.2)) 0 G1 ∧ acc = (xs.take i).filterMap f, ⟨rfl, rfl⟩, by rw [List.length_map]; exact hl, fun i T acc ⟨e, ea⟩ => ⟨e ▸ hok, by rw [ea]; exact Nat.le_trans (List.length_filterMap_le _ _) (by rw [List.length_take]; omega)⟩, fun i d T acc hd ⟨e, ea⟩ F' s0 H0 C cl fp => ?_, fun T acc ⟨e, ea⟩ => ?_⟩
  · subst e
    rw [List.getElem?_map] at hd
    obtain ⟨x, hx, rfl⟩ := Option.map_eq_some_iff.mp hd
    have key : ∀ o, f x = o → (xs.take (i + 1)).filterMap f = acc ++ o.toList := fun o ho => by
      rw [List.take_add_one, hx, List.filterMap_append, ← ea]
      show acc ++ List.filterMap f [x] = _
      cases o with
      | none => rw [List.filterMap_cons_none ho]; rfl
      | some y => rw [List.filterMap_cons_some ho]; rfl
    intro S H σ v I r
    refine semG_mono (turn x (List.mem_of_getElem? hx) F' s0 H0 C cl fp S H σ v I r) fun σ2 H2 ⟨G2, S2, I2, e2, k2, q⟩ => ⟨G2, S2, I2, e2, k2, fun s0 H0 C cl fp => ?_⟩
    have q1 := q s0 H0 C cl fp
    have up : ∀ b T2, ((b = true → ∀ s0 H0 C cl fp, XE (X.blk s0 H0 scope (compEnvC scope cl C X.env) fp) F' elt T2 fun y T3 => f x = some y ∧ Cov T3 (inC (own.map (·.2)) 0 G1)) ∧ (b = false → f x = none ∧ Cov T2 (inC (own.map (·.2)) 0 G1))) →
        ((b = true → ∀ s0 H0 C cl fp, XE (X.blk s0 H0 scope (compEnvC scope cl C X.env) fp) F' elt T2 fun y T3 => ∃ T4, (T4 = inC (own.map (·.2)) 0 G1 ∧ acc ++ [y] = (xs.take (i + 1)).filterMap f) ∧ Cov T3 T4) ∧ (b = false → ∃ T4, (T4 = inC (own.map (·.2)) 0 G1 ∧ acc = (xs.take (i + 1)).filterMap f) ∧ Cov T2 T4)) := fun b T2 ⟨h1, h2⟩ =>
      ⟨fun hb s0 H0 C cl fp => (h1 hb s0 H0 C cl fp).mono fun y T3 ⟨hy, cv⟩ => ⟨_, ⟨rfl, (key _ hy).symm⟩, cv⟩, fun hb => ⟨_, ⟨rfl, by have := key _ (h2 hb).1; rw [this]; simp⟩, (h2 hb).2⟩⟩
    cases ifs with
    | nil => exact up _ _ q1
    | cons c r =>
      cases r with
      | nil => exact fun S H σ I => semT_mono (q1 S H σ I) fun b H' ⟨G', S', i1, i2, i3⟩ => ⟨G', S', i1, i2, up _ _ i3⟩
      | cons _ _ => exact q1.elim
  · subst e
    rw [List.length_map, List.take_length] at ea
    subst ea
    exact fin
theorem lc_map {α : Type} (xs : List α) (g : α → D) (f : α → D) (hds : ds = xs.map g) (hl : xs.length < 1000000) (hok : okC (own.map (·.2)) 0 (inC (own.map (·.2)) 0 G1))
    (turn : ∀ x, x ∈ xs → ∀ F' s0 H0 C cl fp, XG (X.blk s0 H0 scope (compEnvC scope cl C X.env) fp) F' tg (g x) (inC (own.map (·.2)) 0 G1) (fun j => (own.map (·.2)).contains j) fun T' =>
        ∀ s0 H0 C cl fp, XE (X.blk s0 H0 scope (compEnvC scope cl C X.env) fp) F' elt T' fun y T3 => y = f x ∧ Cov T3 (inC (own.map (·.2)) 0 G1))
    (fin : Kd (xs.map f) (inC (own.map (·.2)) 0 G1)) :
    ∃ J : Nat → List Sl → List D → Prop, J 0 (inC (own.map (·.2)) 0 G1) [] ∧ ds.length < 1000000 ∧
      (∀ i T acc, J i T acc → okC (own.map (·.2)) 0 T ∧ acc.length ≤ i) ∧
      (∀ i d T acc, ds[i]? = some d → J i T acc → ∀ F' s0 H0 C cl fp, XG (X.blk s0 H0 scope (compEnvC scope cl C X.env) fp) F' tg d T (fun j => (own.map (·.2)).contains j) fun T' => ∀ s0 H0 C cl fp, XTs (X.blk s0 H0 scope (compEnvC scope cl C X.env) fp) F' [] T' fun b T2 =>
        (b = true → ∀ s0 H0 C cl fp, XE (X.blk s0 H0 scope (compEnvC scope cl C X.env) fp) F' elt T2 fun y T3 => ∃ T4, J (i + 1) T4 (acc ++ [y]) ∧ Cov T3 T4) ∧ (b = false → ∃ T4, J (i + 1) T4 acc ∧ Cov T2 T4)) ∧
      ∀ T acc, J ds.length T acc → Kd acc T := by
  refine lc_fil xs g (fun x => some (f x)) hds hl hok (fun x hx F' s0 H0 C cl fp => ?_) (by rw [show (fun x => some (f x)) = some ∘ f from rfl, List.filterMap_eq_map]; exact fin)
  intro S H σ v I r
  refine semG_mono (turn x hx F' s0 H0 C cl fp S H σ v I r) fun σ2 H2 ⟨G2, S2, I2, e2, k2, q⟩ => ⟨G2, S2, I2, e2, k2, fun s0 H0 C cl fp => ?_⟩
  exact xts_nil ⟨fun _ s0 H0 C cl fp => (q s0 H0 C cl fp).mono fun y T3 ⟨e, cv⟩ => ⟨congrArg some e.symm, cv⟩, fun z => by cases z⟩
/-- items that are drawn: the box in slot k -/
theorem lc_gen (k : Nat) {c0 : D} (hk : (inC (own.map (·.2)) 0 G1).set k (.ow true c0) = inC (own.map (·.2)) 0 G1) (hc : BoxOk c0) (hl : ds.length < 1000000) (hok : ∀ c, okC (own.map (·.2)) 0 ((inC (own.map (·.2)) 0 G1).set k (.ow true c))) (Q : D → Prop)
    (turn : ∀ d c, d ∈ ds → BoxOk c → ∀ F' s0 H0 C cl fp, XG (X.blk s0 H0 scope (compEnvC scope cl C X.env) fp) F' tg d ((inC (own.map (·.2)) 0 G1).set k (.ow true c)) (fun j => (own.map (·.2)).contains j) fun T' =>
        ∀ s0 H0 C cl fp, XE (X.blk s0 H0 scope (compEnvC scope cl C X.env) fp) F' elt T' fun y T3 => ∃ c', BoxOk c' ∧ Q y ∧ Cov T3 ((inC (own.map (·.2)) 0 G1).set k (.ow true c')))
    (fin : ∀ acc c, acc.length = ds.length → (∀ y ∈ acc, Q y) → BoxOk c → Kd acc ((inC (own.map (·.2)) 0 G1).set k (.ow true c))) :
    ∃ J : Nat → List Sl → List D → Prop, J 0 (inC (own.map (·.2)) 0 G1) [] ∧ ds.length < 1000000 ∧
      (∀ i T acc, J i T acc → okC (own.map (·.2)) 0 T ∧ acc.length ≤ i) ∧
      (∀ i d T acc, ds[i]? = some d → J i T acc → ∀ F' s0 H0 C cl fp, XG (X.blk s0 H0 scope (compEnvC scope cl C X.env) fp) F' tg d T (fun j => (own.map (·.2)).contains j) fun T' => ∀ s0 H0 C cl fp, XTs (X.blk s0 H0 scope (compEnvC scope cl C X.env) fp) F' [] T' fun b T2 =>
        (b = true → ∀ s0 H0 C cl fp, XE (X.blk s0 H0 scope (compEnvC scope cl C X.env) fp) F' elt T2 fun y T3 => ∃ T4, J (i + 1) T4 (acc ++ [y]) ∧ Cov T3 T4) ∧ (b = false → ∃ T4, J (i + 1) T4 acc ∧ Cov T2 T4)) ∧
      ∀ T acc, J ds.length T acc → Kd acc T := by
  refine ⟨fun i T acc => ∃ c, T = (inC (own.map (·.2)) 0 G1).set k (.ow true c) ∧ BoxOk c ∧ acc.length = i ∧ ∀ y ∈ acc, Q y, ⟨c0, hk.symm, hc, rfl, fun _ h => (by cases h)⟩, hl, fun i T acc ⟨c, e, _, en, _⟩ => ⟨e ▸ hok c, by omega⟩, fun i d T acc hd ⟨c, e, hb, en, hq⟩ F' s0 H0 C cl fp => ?_, fun T acc ⟨c, e, hb, en, hq⟩ => ?_⟩
  · subst e
    intro S H σ v I r
    refine semG_mono (turn d c (List.mem_of_getElem? hd) hb F' s0 H0 C cl fp S H σ v I r) fun σ2 H2 ⟨G2, S2, I2, e2, k2, q⟩ => ⟨G2, S2, I2, e2, k2, fun s0 H0 C cl fp => ?_⟩
    refine xts_nil ⟨fun _ s0 H0 C cl fp => (q s0 H0 C cl fp).mono fun y T3 ⟨c', hb', hy, cv⟩ => ⟨_, ⟨c', rfl, hb', by rw [List.length_append, en]; rfl, fun z hz => ?_⟩, cv⟩, fun z => by cases z⟩
    rcases List.mem_append.mp hz with h | h
    · exact hq z h
    · rw [List.mem_singleton.mp h]; exact hy
  · subst e
    exact fin acc c en hq hb
theorem xc_ord1 {Kk : D → List Sl → Prop} {ch : Nat} (k : Kk (.int (ch : Nat)) G1) : XC X F (.builtin "ord") [.str ⟨#[ch]⟩] G1 Kk := xc_ord rfl k
/-- what members of a list are, as a list of the same -/
theorem all_of {α : Type} (g : α → D) : ∀ {acc : List D} {Q : α → Prop}, (∀ y ∈ acc, ∃ x, y = g x ∧ Q x) → ∃ xs : List α, acc = xs.map g ∧ ∀ x ∈ xs, Q x
  | [], Q, _ => ⟨[], rfl, fun _ h => by cases h⟩
  | d :: acc, Q, h => by
    obtain ⟨x, e, hx⟩ := h d (List.Mem.head _)
    obtain ⟨xs, e2, h2⟩ := all_of g (acc := acc) (Q := Q) fun y hy => h y (List.Mem.tail _ hy)
    subst e; subst e2
    exact ⟨x :: xs, rfl, fun y hy => by
      cases hy with
      | head => exact hx
      | tail _ h => exact h2 y h⟩
theorem Cmp.ints {l : List Int} (h : l.length < 1000000) : Cmp 10 (.lst (l.map D.int)) := Cmp.lst (n := 9) (by rw [List.length_map]; exact h) fun d hd => by
  obtain ⟨x, _, rfl⟩ := List.mem_map.mp hd
  exact Cmp.int x
theorem fold_one (ch : Nat) : ∀ (k : Nat) (a : Array Nat), ((List.replicate k #[ch]).foldl (· ++ ·) a).toList = a.toList ++ List.replicate k ch
  | 0, a => by simp
  | k + 1, a => by
    rw [List.replicate_succ, List.foldl_cons, fold_one ch k, Array.toList_append, List.replicate_succ, List.append_assoc]; rfl
theorem mul_one {ch : Nat} {n : Int} (h : 1 ≤ n) : (Txt.mul ⟨#[ch]⟩ n).cps.toList = List.replicate n.toNat ch := by
  unfold Txt.mul
  rw [if_neg (by omega)]
  split
  · rename_i hz
    rcases Bool.or_eq_true_iff.mp hz with hz | hz
    · have : n = 1 := by simpa using hz
      subst this; rfl
    · cases hz
  · exact fold_one ch n.toNat #[]
theorem get_enum {ds : List D} {i : Nat} {d : D} (h : (((List.range ds.length).zip ds).map fun q => D.tup [.int (q.1 : Nat), q.2])[i]? = some d) : ∃ x, ds[i]? = some x ∧ d = .tup [.int (i : Nat), x] := by
  rw [List.getElem?_map] at h
  obtain ⟨q, hq, rfl⟩ := Option.map_eq_some_iff.mp h
  obtain ⟨h1, h2⟩ := List.getElem?_zip_eq_some.mp hq
  obtain ⟨hl, e⟩ := List.getElem?_eq_some_iff.mp h1
  rw [List.getElem_range] at e
  exact ⟨q.2, h2, by rw [← e]⟩
theorem len_enum {ds : List D} : (((List.range ds.length).zip ds).map fun q => D.tup [.int (q.1 : Nat), q.2]).length = ds.length := by simp
theorem get_map {α : Type} {xs : List α} {g : α → D} {i : Nat} {d : D} (h : (xs.map g)[i]? = some d) : ∃ x, xs[i]? = some x ∧ d = g x := by
  rw [List.getElem?_map] at h
  obtain ⟨x, hx, rfl⟩ := Option.map_eq_some_iff.mp h
  exact ⟨x, hx, rfl⟩
theorem ixD {n : Nat} {k : Int} (h0 : 0 ≤ k) (h1 : k < n) : ixN n k = some k.toNat := by
  unfold ixN
  rw [if_pos h0, if_pos h1]
theorem atI_D {α : Type} {xs : List α} {g : α → D} {n : Nat} {x : α} (h : xs[n]? = some x) : atI (xs.map g) (n : Int) = some (g x) := atI_nat (by rw [List.getElem?_map, h]; rfl)
end
end Pu

namespace Pu
open PySem PySem.Spec PyProof.Rows L2
theorem IV.keysT {K : PySem.W.Frag} {F : Fm} {T : List Sl} {H : Hp} {σ : L2.St} : ∀ {kvs : List (List Key × L2.V)} {bs : List Addr} {S : Hp}, IV K F T S H σ → IsKeys H kvs bs → ∃ S', IV K F T S' H σ ∧ Ex S S' ∧ Reps K S' (bs.map L2.V.ref) (kvs.map fun kv => D.tup (kv.1.map keyD))
  | [], bs, S, I, h => by
    cases h
    exact ⟨S, I, Ex.rfl', .nil⟩
  | kv :: kvs, bs, S, I, h => by
    cases h with
    | @cons _ b _ bs h1 h2 =>
      obtain ⟨S1, I1, e1, r1⟩ := I.keyT h1
      obtain ⟨S2, I2, e2, r2⟩ := IV.keysT (kvs := kvs) (bs := bs) I1 h2
      exact ⟨S2, I2, e1.tr e2, .cons (r1.mono e2) r2⟩
section
variable {X : Cx} {F : Fm} {G : List Sl} {pos : Pos} {Kk : D → List Sl → Prop}
variable {e b : Expr} {P : Pst}
theorem xe_ixoL (i : Nat) {x : Str} {p1 : Pos} (hG : ∃ q ds, G[i]? = some (.ow q (.lst ds))) (h : XE X F b G fun y G2 => ∃ q ds k d, G2[i]? = some (.ow q (.lst ds)) ∧ y = .int k ∧ atI ds k = some d ∧ Kk d G2) (hs : PlainIx b := by exact fun _ _ => rfl)
    (hN : X.N[i]? = some x := by rfl) (hv : Vis X.env.scope x := by first | exact Or.inl rfl | exact Or.inr (Or.inl rfl) | exact Or.inr (Or.inr rfl))
    (hd : (x == ("__debug__" : Str)) = false := by decide) (hcd : (x == ("__classdict__" : Str)) = false := by decide) : XE X F (.Subscript (.Name x p1) b pos) G Kk := xe_ixo i (let ⟨q, ds, e⟩ := hG; ⟨q, _, e⟩) h hs hN hv hd hcd
theorem xs_subL (i : Nat) {x : Str} {ix : Expr} {p1 p2 : Pos} (hG : ∃ q ds, G[i]? = some (.ow q (.lst ds))) (h : XE X F e G fun d G1 => XE X F ix G1 fun y G2 => ∃ q ds k j, G2[i]? = some (.ow q (.lst ds)) ∧ y = .int k ∧ ixN ds.length k = some j ∧ P.nx (G2.set i (.ow q (.lst (ds.set j d)))))
    
    (hN : X.N[i]? = some x := by rfl) (hv : Vis X.env.scope x := by first | exact Or.inl rfl | exact Or.inr (Or.inl rfl) | exact Or.inr (Or.inr rfl)) (hd : (x == ("__debug__" : Str)) = false := by decide) (hcd : (x == ("__classdict__" : Str)) = false := by decide)
    (ha : ∀ v, assign (.Subscript (.Name x p1) ix p2) X.env v = (do
      let ov ← holding [v] (eval (.Name x p1) X.env)
      let iv ← holding [v, ov] (eval ix X.env)
      standAt p2
      holding [v, ov, iv] (setItem ov iv v)
      release [v, ov, iv] []) := by intro _; rfl)
    (hs : swapsWithSole [.Subscript (.Name x p1) ix p2] e pos.line X.env = pure false := by rfl) (hw : swappedStores [.Subscript (.Name x p1) ix p2] e X.env = pure none := by rfl)
    (h1 : (assignEach [.Subscript (.Name x p1) ix p2] X.env).map (·.2) = [assign (.Subscript (.Name x p1) ix p2) X.env] := by rfl) : XS X F (.Assign [.Subscript (.Name x p1) ix p2] e pos) G P := xs_sub i (let ⟨q, ds, e⟩ := hG; ⟨q, _, e⟩) h hN hv hd hcd ha hs hw h1
theorem xt_inoL (i : Nat) {Kb : Bool → List Sl → Prop} {a : Expr} {x : Str} {p1 : Pos} (hG : ∃ q ds, G[i]? = some (.ow q (.lst ds))) (h : XE X F a G fun d G1 => ∃ q ds, G1[i]? = some (.ow q (.lst ds)) ∧ flatD d = true ∧ ds.all flatD = true ∧ Kb (inD d ds) G1)
    (hN : X.N[i]? = some x := by rfl) (hv : Vis X.env.scope x := by first | exact Or.inl rfl | exact Or.inr (Or.inl rfl) | exact Or.inr (Or.inr rfl)) (hd : (x == ("__debug__" : Str)) = false := by decide) (hcd : (x == ("__classdict__" : Str)) = false := by decide) :
    XT X F (.Compare a [.In] [.Name x p1] pos) G Kb := xt_ino i (let ⟨q, ds, e⟩ := hG; ⟨q, _, e⟩) h hN hv hd hcd
theorem xt_nioL (i : Nat) {Kb : Bool → List Sl → Prop} {a : Expr} {x : Str} {p1 : Pos} (hG : ∃ q ds, G[i]? = some (.ow q (.lst ds))) (h : XE X F a G fun d G1 => ∃ q ds, G1[i]? = some (.ow q (.lst ds)) ∧ flatD d = true ∧ ds.all flatD = true ∧ Kb (!inD d ds) G1)
    (hN : X.N[i]? = some x := by rfl) (hv : Vis X.env.scope x := by first | exact Or.inl rfl | exact Or.inr (Or.inl rfl) | exact Or.inr (Or.inr rfl)) (hd : (x == ("__debug__" : Str)) = false := by decide) (hcd : (x == ("__classdict__" : Str)) = false := by decide) :
    XT X F (.Compare a [.NotIn] [.Name x p1] pos) G Kb := xt_nio i (let ⟨q, ds, e⟩ := hG; ⟨q, _, e⟩) h hN hv hd hcd
theorem xe_nioL (i : Nat) {a : Expr} {x : Str} {p1 : Pos} (hG : ∃ q ds, G[i]? = some (.ow q (.lst ds))) (h : XE X F a G fun d G1 => ∃ q ds, G1[i]? = some (.ow q (.lst ds)) ∧ flatD d = true ∧ ds.all flatD = true ∧ Kk (.bl (!inD d ds)) G1)
    (hN : X.N[i]? = some x := by rfl) (hv : Vis X.env.scope x := by first | exact Or.inl rfl | exact Or.inr (Or.inl rfl) | exact Or.inr (Or.inr rfl)) (hd : (x == ("__debug__" : Str)) = false := by decide) (hcd : (x == ("__classdict__" : Str)) = false := by decide) :
    XE X F (.Compare a [.NotIn] [.Name x p1] pos) G Kk := xe_nio i (let ⟨q, ds, e⟩ := hG; ⟨q, _, e⟩) h hN hv hd hcd
theorem xe_inoL (i : Nat) {a : Expr} {x : Str} {p1 : Pos} (hG : ∃ q ds, G[i]? = some (.ow q (.lst ds))) (h : XE X F a G fun d G1 => ∃ q ds, G1[i]? = some (.ow q (.lst ds)) ∧ flatD d = true ∧ ds.all flatD = true ∧ Kk (.bl (inD d ds)) G1)
    (hN : X.N[i]? = some x := by rfl) (hv : Vis X.env.scope x := by first | exact Or.inl rfl | exact Or.inr (Or.inl rfl) | exact Or.inr (Or.inr rfl)) (hd : (x == ("__debug__" : Str)) = false := by decide) (hcd : (x == ("__classdict__" : Str)) = false := by decide) :
    XE X F (.Compare a [.In] [.Name x p1] pos) G Kk := xe_ino i (let ⟨q, ds, e⟩ := hG; ⟨q, _, e⟩) h hN hv hd hcd
theorem xt_nioDpL (i : Nat) {Kb : Bool → List Sl → Prop} {a : Expr} {x : Str} {p1 : Pos} (hu : X.A.units + 65 < cLine) (hG : ∃ q ds, G[i]? = some (.ow q (.lst ds))) (h : XE X F a G fun d G1 => ∃ q ds, G1[i]? = some (.ow q (.lst ds)) ∧ plainD d = true ∧ plainDs ds = true ∧ SeqAt.shaped (toPy d) = true ∧ SeqAt.shaped (toPy (.lst ds)) = true ∧ Kb (!(toPys ds).any fun z => PyData.eqv z (toPy d)) G1)
    (hN : X.N[i]? = some x := by rfl) (hv : Vis X.env.scope x := by first | exact Or.inl rfl | exact Or.inr (Or.inl rfl) | exact Or.inr (Or.inr rfl)) (hd : (x == ("__debug__" : Str)) = false := by decide) (hcd : (x == ("__classdict__" : Str)) = false := by decide) :
    XT X F (.Compare a [.NotIn] [.Name x p1] pos) G Kb := xt_nioDp i hu (let ⟨q, ds, e⟩ := hG; ⟨q, _, e⟩) h hN hv hd hcd
/-- list(d), d the slot's own, with tuples as keys -/
theorem xe_listDT (i : Nat) {x : Str} {p1 p2 : Pos} {q : Bool} {kds : List (List Key × D)} (hG : G[i]? = some (.ow q (.dt kds))) (hm : X.mg "list" = none) (k : Kk (.lst (kds.map fun kv => D.tup (kv.1.map keyD))) G) (hcm : X.calm = true := by rfl) (hg : Gl X "list" := by rfl)
    (hN : X.N[i]? = some x := by rfl) (hv : Vis X.env.scope x := by first | exact Or.inl rfl | exact Or.inr (Or.inl rfl) | exact Or.inr (Or.inr rfl)) (hd : (x == ("__debug__" : Str)) = false := by decide) (hcd : (x == ("__classdict__" : Str)) = false := by decide)
    (he : starEach [.Name x p1] X.env = (false, eval (.Name x p1) X.env) :: starEach [] X.env := by rfl) (hpl : (backTo pos (starEach [] X.env)).any (·.1) = false := by rfl) : XE X F (.Call (.Name "list" p2) [.Name x p1] [] pos) G Kk := by
  intro S H σ I
  obtain ⟨p, o, ep, n, hb, ho, rc⟩ := I.ow hG
  cases rc with
  | @dt kvs _ e r =>
    refine semE_of (pe_callTy (call_list_dT hcm) hg hm boot_list (pa_cons (pe_var hN hv hd hcd) pa_nil he) (by decide) (by decide) he hpl) ?_
    refine ⟨_, ep, p, kvs, rfl, .inl ho, fun l bs hl hk => ?_⟩
    obtain ⟨S1, I1, e1, r1⟩ := I.keysT hk
    obtain ⟨I2, e2⟩ := I1.alloc (o := .lst (bs.map L2.V.ref)) hl
    have e3 : (kvs.map fun kv => D.tup (kv.1.map keyD)) = kds.map fun kv => D.tup (kv.1.map keyD) := by
      have := congrArg (List.map fun ks : List Key => D.tup (ks.map keyD)) e
      rw [List.map_map, List.map_map] at this
      exact this
    exact .at I2 (e1.tr e2) (.lst upd_same (by rw [← e3]; exact r1.mono e2)) k
end
theorem _root_.L2.Room.u1 {k : Nat} {A : Around} (r : Room k A) : A.units + 1 < cLine := by have := r.un; omega
theorem _root_.L2.Room.u65 {k : Nat} {A : Around} (r : Room k A) : A.units + 65 < cLine := by have := r.un; omega
theorem ka_dec {p : Prop} [Decidable p] {A B : Prop} (h1 : p → A) (h2 : ¬p → B) : (decide p = true → A) ∧ (decide p = false → B) := ⟨fun h => h1 (of_decide_eq_true h), fun h => h2 (of_decide_eq_false h)⟩
theorem ka_decn {p : Prop} [Decidable p] {A B : Prop} (h1 : p → B) (h2 : ¬p → A) : ((!decide p) = true → A) ∧ ((!decide p) = false → B) := ⟨fun h => h2 (by simpa using h), fun h => h1 (by simpa using h)⟩
theorem ka_decR {p : Prop} [Decidable p] {A B : Prop} (h1 : p → B) (h2 : ¬p → A) : (decide p = false → A) ∧ (decide p = true → B) := ⟨fun h => h2 (of_decide_eq_false h), fun h => h1 (of_decide_eq_true h)⟩
theorem ka_decnR {p : Prop} [Decidable p] {A B : Prop} (h1 : p → A) (h2 : ¬p → B) : ((!decide p) = false → A) ∧ ((!decide p) = true → B) := ⟨fun h => h1 (by simpa using h), fun h => h2 (by simpa using h)⟩
theorem cut_win {α : Type} (g : α → D) (ws : List α) (t : Nat) (k : Int) (hk : 0 ≤ k) : Pu.cutD (ws.map g) (some (0 + (t : Int))) (some (0 + (t : Int) + k)) = ((ws.drop t).take k.toNat).map g := by
  have e1 : (0 + (t : Int)) = ((t : Nat) : Int) := by omega
  have e2 : (((t : Nat) : Int) + k) = ((t + k.toNat : Nat) : Int) := by omega
  unfold Pu.cutD
  rw [e1, e2, HT.sIx_nat, HT.sIx_nat, List.length_map, ← List.map_drop, ← List.map_take]
  congr 1
  by_cases h : t ≤ ws.length
  · rw [Nat.min_eq_left h]
    by_cases h2 : t + k.toNat ≤ ws.length
    · rw [Nat.min_eq_left h2]; congr 1; omega
    · rw [Nat.min_eq_right (by omega), List.take_of_length_le (by rw [List.length_drop]; exact Nat.le_refl _), List.take_of_length_le (by rw [List.length_drop]; omega)]
  · rw [List.drop_eq_nil_of_le (by omega), List.drop_eq_nil_of_le (by omega), List.take_nil, List.take_nil]
end Pu

namespace Pu
open PySem PySem.Spec PyProof.Rows L2
section
variable {X : Cx} {F : Fm} {G : List Sl} {pos : Pos} {Kk : D → List Sl → Prop}
theorem pe_dcT {kx vx tg iter : Expr} {ifs : List Expr} {scope : Scope} {own : List (Str × Nat)} {wi : TI} {g : TG} {tt : TT} {tk tv : TE} (hu : X.A.units + 1 < cLine) (hc : X.calm = true) (hN : X.N.Nodup) (hi : PI X tg iter wi) (ok : BlkOk X.N X.env.scope scope own)
    (hg : ∀ (s : Shared) (H : Hp) (C : Addr) (cl : List (Str × Addr)) (fp : List Addr), PG (X.blk s H scope (compEnvC scope cl C X.env) fp) tg g) (ht : ∀ (s : Shared) (H : Hp) (C : Addr) (cl : List (Str × Addr)) (fp : List Addr), PTs (X.blk s H scope (compEnvC scope cl C X.env) fp) ifs tt)
    (hk : ∀ (s : Shared) (H : Hp) (C : Addr) (cl : List (Str × Addr)) (fp : List Addr), PE (X.blk s H scope (compEnvC scope cl C X.env) fp) kx tk)
    (he : ∀ (s : Shared) (H : Hp) (C : Addr) (cl : List (Str × Addr)) (fp : List Addr), PE (X.blk s H scope (compEnvC scope cl C X.env) fp) vx tv) (hs : ∀ x, foldedSetIterable iter X.env x = pure x := by intro _; rfl) :
    PE X (.DictComp kx vx [⟨tg, iter, ifs, 0⟩] scope pos) (tDcT wi g tt tk tv (own.map (·.2))) := by
  refine ⟨fun pins s σ H Q I h => ?_⟩
  rw [arm_eval_DictComp]
  refine dcT_core hu hc hN I hi ok hg ht hk he hs h fun D C s' m H' I' q hn f => ⟨m, hn, fun h'' sb => ?_⟩
  obtain ⟨f0, f1, f2, f3, f4, f5⟩ := f
  exact ⟨.ref D, H', I'.turned (t' := s'.toks) (fun b o hb e => (sb.2 b hb).trans e) f0 f1 f3 f4 f5, rfl, q⟩
theorem xe_dcT {kx vx tg iter : Expr} {ifs : List Expr} {scope : Scope} (hu : X.A.units + 1 < cLine) (own : List (Str × Nat)) (hif : ifs.length ≤ 1) (hn : X.N.Nodup) (N : List Str) (sc : Scope) (ok : blkC N sc scope own = true) (h : XW' X F tg iter G fun ds G1 => ∃ J : Nat → List Sl → List (List Key × D) → Prop, J 0 (inC (own.map (·.2)) 0 G1) [] ∧ ds.length < 1000000 ∧
      (∀ i T acc, J i T acc → okC (own.map (·.2)) 0 T ∧ acc.length ≤ i) ∧
      (∀ i d T acc, ds[i]? = some d → J i T acc → ∀ F' s0 H0 C cl fp, XG (X.blk s0 H0 scope (compEnvC scope cl C X.env) fp) F' tg d T (fun j => (own.map (·.2)).contains j) fun T' => ∀ s0 H0 C cl fp, XTs (X.blk s0 H0 scope (compEnvC scope cl C X.env) fp) F' ifs T' fun b T2 =>
        (b = true → ∀ s0 H0 C cl fp, XE (X.blk s0 H0 scope (compEnvC scope cl C X.env) fp) F' kx T2 fun y T3 => ∀ s0 H0 C cl fp, XE (X.blk s0 H0 scope (compEnvC scope cl C X.env) fp) F' vx T3 fun z T5 => ∃ k T4, y = D.tup (k.map keyD) ∧ J (i + 1) T4 (pD acc k z) ∧ Cov T5 T4) ∧ (b = false → ∃ T4, J (i + 1) T4 acc ∧ Cov T2 T4)) ∧
      ∀ T acc, J ds.length T acc → Kk (.dt acc) (outC G1 T))
    (hc : X.calm = true := by rfl) (eN : X.N = N := by rfl) (eS : X.env.scope = sc := by rfl) (hs : ∀ x, foldedSetIterable iter X.env x = pure x := by intro _; rfl) : XE X F (.DictComp kx vx [⟨tg, iter, ifs, 0⟩] scope pos) G Kk := fun S H σ Iv =>
  semE_of (pe_dcT hu hc hn pi_sem (by rw [eN, eS]; exact blkOk_by ok) (g := fun v σ H Q => ∀ s0 H0 C cl fp, semG (X.blk s0 H0 scope (compEnvC scope cl C X.env) fp) tg v σ H Q) (tt := fun σ H Q => ∀ s0 H0 C cl fp, semTs (X.blk s0 H0 scope (compEnvC scope cl C X.env) fp) ifs σ H Q) (tk := fun σ H Q => ∀ s0 H0 C cl fp, semE (X.blk s0 H0 scope (compEnvC scope cl C X.env) fp) kx σ H Q) (tv := fun σ H Q => ∀ s0 H0 C cl fp, semE (X.blk s0 H0 scope (compEnvC scope cl C X.env) fp) vx σ H Q) (fun s0 H0 C cl fp => ⟨fun pins s σ H v u Q I r h => h s0 H0 C cl fp pins s u I r⟩) (fun s0 H0 C cl fp => ⟨fun pins s σ H Q I h => (pts_sem hif).run pins s σ H Q I (h s0 H0 C cl fp)⟩) (fun s0 H0 C cl fp => ⟨fun pins s σ H Q I h => h s0 H0 C cl fp pins s I⟩) (fun s0 H0 C cl fp => ⟨fun pins s σ H Q I h => h s0 H0 C cl fp pins s I⟩) hs)
    (dcT_sem (Kd := fun acc G' => Kk (.dt acc) G') own hif hn N sc ok h hc eN eS hs S H σ Iv _ fun Dl acc vacc G' S2 H2 I2 e2 n2 h0 hB no d2 q2 r2 k => by
      have e4 : Ex S2 (upd S2 Dl (.dT vacc)) := Ex.new n2
      exact .at (I2.frz2 n2 h0 d2 no) (e2.tr e4) (.dt upd_same q2 (r2.mono e4)) k)
theorem xe_dc {kx vx tg iter : Expr} {ifs : List Expr} {scope : Scope} (own : List (Str × Nat)) (hif : ifs.length ≤ 1) (hn : X.N.Nodup) (N : List Str) (sc : Scope) (ok : blkC N sc scope own = true) (h : XW' X F tg iter G fun ds G1 => ∃ J : Nat → List Sl → List (Key × D) → Prop, J 0 (inC (own.map (·.2)) 0 G1) [] ∧ ds.length < 1000000 ∧
      (∀ i T acc, J i T acc → okC (own.map (·.2)) 0 T ∧ acc.length ≤ i) ∧
      (∀ i d T acc, ds[i]? = some d → J i T acc → ∀ F' s0 H0 C cl fp, XG (X.blk s0 H0 scope (compEnvC scope cl C X.env) fp) F' tg d T (fun j => (own.map (·.2)).contains j) fun T' => ∀ s0 H0 C cl fp, XTs (X.blk s0 H0 scope (compEnvC scope cl C X.env) fp) F' ifs T' fun b T2 =>
        (b = true → ∀ s0 H0 C cl fp, XE (X.blk s0 H0 scope (compEnvC scope cl C X.env) fp) F' kx T2 fun y T3 => ∀ s0 H0 C cl fp, XE (X.blk s0 H0 scope (compEnvC scope cl C X.env) fp) F' vx T3 fun z T5 => ∃ k T4, y = keyD k ∧ J (i + 1) T4 (pD acc k z) ∧ Cov T5 T4) ∧ (b = false → ∃ T4, J (i + 1) T4 acc ∧ Cov T2 T4)) ∧
      ∀ T acc, J ds.length T acc → Kk (.dk acc) (outC G1 T))
    (hc : X.calm = true := by rfl) (eN : X.N = N := by rfl) (eS : X.env.scope = sc := by rfl) (hs : ∀ x, foldedSetIterable iter X.env x = pure x := by intro _; rfl) : XE X F (.DictComp kx vx [⟨tg, iter, ifs, 0⟩] scope pos) G Kk := fun S H σ Iv =>
  semE_of (pe_dc hc hn pi_sem (by rw [eN, eS]; exact blkOk_by ok) (g := fun v σ H Q => ∀ s0 H0 C cl fp, semG (X.blk s0 H0 scope (compEnvC scope cl C X.env) fp) tg v σ H Q) (tt := fun σ H Q => ∀ s0 H0 C cl fp, semTs (X.blk s0 H0 scope (compEnvC scope cl C X.env) fp) ifs σ H Q) (tk := fun σ H Q => ∀ s0 H0 C cl fp, semE (X.blk s0 H0 scope (compEnvC scope cl C X.env) fp) kx σ H Q) (tv := fun σ H Q => ∀ s0 H0 C cl fp, semE (X.blk s0 H0 scope (compEnvC scope cl C X.env) fp) vx σ H Q) (fun s0 H0 C cl fp => ⟨fun pins s σ H v u Q I r h => h s0 H0 C cl fp pins s u I r⟩) (fun s0 H0 C cl fp => ⟨fun pins s σ H Q I h => (pts_sem hif).run pins s σ H Q I (h s0 H0 C cl fp)⟩) (fun s0 H0 C cl fp => ⟨fun pins s σ H Q I h => h s0 H0 C cl fp pins s I⟩) (fun s0 H0 C cl fp => ⟨fun pins s σ H Q I h => h s0 H0 C cl fp pins s I⟩) hs)
    (dc_sem (Kd := fun acc G' => Kk (.dk acc) G') own hif hn N sc ok h hc eN eS hs S H σ Iv _ fun Dl acc vacc G' S2 H2 I2 e2 n2 h0 hB no d2 q2 r2 k => by
      have e4 : Ex S2 (upd S2 Dl (.dK vacc)) := Ex.new n2
      exact .at (I2.frz2 n2 h0 d2 no) (e2.tr e4) (.dk upd_same q2 (r2.mono e4)) k)
theorem xs_dco {kx vx tg iter : Expr} {ifs : List Expr} {scope : Scope} {P : Pst} {y : Str} {py spos : Pos} (i : Nat) (own : List (Str × Nat)) (hif : ifs.length ≤ 1) (hn : X.N.Nodup) (N : List Str) (sc : Scope) (ok : blkC N sc scope own = true) (h : XW' X F tg iter G fun ds G1 => ∃ J : Nat → List Sl → List (Key × D) → Prop, J 0 (inC (own.map (·.2)) 0 G1) [] ∧ ds.length < 1000000 ∧
      (∀ i T acc, J i T acc → okC (own.map (·.2)) 0 T ∧ acc.length ≤ i) ∧
      (∀ i d T acc, ds[i]? = some d → J i T acc → ∀ F' s0 H0 C cl fp, XG (X.blk s0 H0 scope (compEnvC scope cl C X.env) fp) F' tg d T (fun j => (own.map (·.2)).contains j) fun T' => ∀ s0 H0 C cl fp, XTs (X.blk s0 H0 scope (compEnvC scope cl C X.env) fp) F' ifs T' fun b T2 =>
        (b = true → ∀ s0 H0 C cl fp, XE (X.blk s0 H0 scope (compEnvC scope cl C X.env) fp) F' kx T2 fun y T3 => ∀ s0 H0 C cl fp, XE (X.blk s0 H0 scope (compEnvC scope cl C X.env) fp) F' vx T3 fun z T5 => ∃ k T4, y = keyD k ∧ J (i + 1) T4 (pD acc k z) ∧ Cov T5 T4) ∧ (b = false → ∃ T4, J (i + 1) T4 acc ∧ Cov T2 T4)) ∧
      ∀ T acc, J ds.length T acc → P.nx ((outC G1 T).set i (.ow false (.dk acc))))
    (hc : X.calm = true := by rfl) (eN : X.N = N := by rfl) (eS : X.env.scope = sc := by rfl) (hs : ∀ x, foldedSetIterable iter X.env x = pure x := by intro _; rfl) (hy : X.N[i]? = some y := by rfl) (hyl : X.env.scope.names.lookup y = some .local := by rfl)
    (hsw : swapsWith (.DictComp kx vx [⟨tg, iter, ifs, 0⟩] scope pos) (some (.Name y py)) spos.line X.env = pure true := by exact sw_trueD rfl rfl rfl (by decide +kernel)) :
    XS X F (.Assign [.Name y py] (.DictComp kx vx [⟨tg, iter, ifs, 0⟩] scope pos) spos) G P := fun S H σ E Iv eok =>
  semS_of (ps_setDc hc hn hy hyl hsw pi_sem (by rw [eN, eS]; exact blkOk_by ok) (g := fun v σ H Q => ∀ s0 H0 C cl fp, semG (X.blk s0 H0 scope (compEnvC scope cl C X.env) fp) tg v σ H Q) (tt := fun σ H Q => ∀ s0 H0 C cl fp, semTs (X.blk s0 H0 scope (compEnvC scope cl C X.env) fp) ifs σ H Q) (tk := fun σ H Q => ∀ s0 H0 C cl fp, semE (X.blk s0 H0 scope (compEnvC scope cl C X.env) fp) kx σ H Q) (tv := fun σ H Q => ∀ s0 H0 C cl fp, semE (X.blk s0 H0 scope (compEnvC scope cl C X.env) fp) vx σ H Q)
    (fun s0 H0 C cl fp => ⟨fun pins s σ H v u Q I r h => h s0 H0 C cl fp pins s u I r⟩) (fun s0 H0 C cl fp => ⟨fun pins s σ H Q I h => (pts_sem hif).run pins s σ H Q I (h s0 H0 C cl fp)⟩) (fun s0 H0 C cl fp => ⟨fun pins s σ H Q I h => h s0 H0 C cl fp pins s I⟩) (fun s0 H0 C cl fp => ⟨fun pins s σ H Q I h => h s0 H0 C cl fp pins s I⟩) hs)
    (dc_sem (Kd := fun acc G' => P.nx (G'.set i (.ow false (.dk acc)))) own hif hn N sc ok h hc eN eS hs S H σ Iv _ fun Dl acc vacc G' S2 H2 I2 e2 n2 h0 hB no d2 q2 r2 k => by
      exact eok.nx _ _ H2 _ (I2.own2 n2 h0 hB d2 no (.dk q2 r2)) e2 k)


variable {G1 : List Sl} {kx vx tg : Expr} {scope : Scope} {own : List (Str × Nat)} {ds : List D}
theorem dcT_map {Kd : List (List Key × D) → List Sl → Prop} {α : Type} (xs : List α) (g : α → D) (kf : α → List Key) (vf : α → D) (hds : ds = xs.map g) (hl : xs.length < 1000000) (hok : okC (own.map (·.2)) 0 (inC (own.map (·.2)) 0 G1))
    (turn : ∀ x, x ∈ xs → ∀ F' s0 H0 C cl fp, XG (X.blk s0 H0 scope (compEnvC scope cl C X.env) fp) F' tg (g x) (inC (own.map (·.2)) 0 G1) (fun j => (own.map (·.2)).contains j) fun T' =>
        ∀ s0 H0 C cl fp, XE (X.blk s0 H0 scope (compEnvC scope cl C X.env) fp) F' kx T' fun y T3 => ∀ s0 H0 C cl fp, XE (X.blk s0 H0 scope (compEnvC scope cl C X.env) fp) F' vx T3 fun z T5 => y = D.tup ((kf x).map keyD) ∧ z = vf x ∧ Cov T5 (inC (own.map (·.2)) 0 G1))
    (fin : Kd (xs.foldl (fun a x => pD a (kf x) (vf x)) []) (inC (own.map (·.2)) 0 G1)) :
    ∃ J : Nat → List Sl → List (List Key × D) → Prop, J 0 (inC (own.map (·.2)) 0 G1) [] ∧ ds.length < 1000000 ∧
      (∀ i T acc, J i T acc → okC (own.map (·.2)) 0 T ∧ acc.length ≤ i) ∧
      (∀ i d T acc, ds[i]? = some d → J i T acc → ∀ F' s0 H0 C cl fp, XG (X.blk s0 H0 scope (compEnvC scope cl C X.env) fp) F' tg d T (fun j => (own.map (·.2)).contains j) fun T' => ∀ s0 H0 C cl fp, XTs (X.blk s0 H0 scope (compEnvC scope cl C X.env) fp) F' [] T' fun b T2 =>
        (b = true → ∀ s0 H0 C cl fp, XE (X.blk s0 H0 scope (compEnvC scope cl C X.env) fp) F' kx T2 fun y T3 => ∀ s0 H0 C cl fp, XE (X.blk s0 H0 scope (compEnvC scope cl C X.env) fp) F' vx T3 fun z T5 => ∃ k T4, y = D.tup (k.map keyD) ∧ J (i + 1) T4 (pD acc k z) ∧ Cov T5 T4) ∧ (b = false → ∃ T4, J (i + 1) T4 acc ∧ Cov T2 T4)) ∧
      ∀ T acc, J ds.length T acc → Kd acc T := by
  subst hds
  have hlen : ∀ (ys : List α) (a : List (List Key × D)), (ys.foldl (fun a x => pD a (kf x) (vf x)) a).length ≤ a.length + ys.length := fun ys => by
    induction ys with
    | nil => intro a; exact Nat.le_refl _
    | cons y ys ih => intro a; rw [List.foldl_cons, List.length_cons]; have h1 := ih (pD a (kf y) (vf y)); have h2 := pD_len a (kf y) (vf y); omega
  refine ⟨fun i T acc => T = inC (own.map (·.2)) 0 G1 ∧ acc = (xs.take i).foldl (fun a x => pD a (kf x) (vf x)) [], ⟨rfl, rfl⟩, by rw [List.length_map]; exact hl, fun i T acc ⟨e, ea⟩ => ⟨e ▸ hok, by rw [ea]; have := hlen (xs.take i) []; rw [List.length_take, List.length_nil] at this; omega⟩, fun i d T acc hd ⟨e, ea⟩ F' s0 H0 C cl fp => ?_, fun T acc ⟨e, ea⟩ => ?_⟩
  · subst e
    rw [List.getElem?_map] at hd
    obtain ⟨x, hx, rfl⟩ := Option.map_eq_some_iff.mp hd
    intro S H σ v I r
    refine semG_mono (turn x (List.mem_of_getElem? hx) F' s0 H0 C cl fp S H σ v I r) fun σ2 H2 ⟨G2, S2, I2, e2, k2, q⟩ => ⟨G2, S2, I2, e2, k2, fun s0 H0 C cl fp => ?_⟩
    refine xts_nil ⟨fun _ s0 H0 C cl fp => (q s0 H0 C cl fp).mono fun y T3 q2 s0 H0 C cl fp => (q2 s0 H0 C cl fp).mono fun z T5 ⟨ey, ez, cv⟩ => ⟨kf x, _, ey, ⟨rfl, ?_⟩, cv⟩, fun z => by cases z⟩
    rw [List.take_add_one, hx, Option.toList_some, List.foldl_append, ← ea, ez]; rfl
  · subst e
    rw [List.length_map, List.take_length] at ea
    subst ea
    exact fin
theorem dc_map {Kd : List (Key × D) → List Sl → Prop} {α : Type} (xs : List α) (g : α → D) (kf : α → Key) (vf : α → D) (hds : ds = xs.map g) (hl : xs.length < 1000000) (hok : okC (own.map (·.2)) 0 (inC (own.map (·.2)) 0 G1))
    (turn : ∀ x, x ∈ xs → ∀ F' s0 H0 C cl fp, XG (X.blk s0 H0 scope (compEnvC scope cl C X.env) fp) F' tg (g x) (inC (own.map (·.2)) 0 G1) (fun j => (own.map (·.2)).contains j) fun T' =>
        ∀ s0 H0 C cl fp, XE (X.blk s0 H0 scope (compEnvC scope cl C X.env) fp) F' kx T' fun y T3 => ∀ s0 H0 C cl fp, XE (X.blk s0 H0 scope (compEnvC scope cl C X.env) fp) F' vx T3 fun z T5 => y = keyD (kf x) ∧ z = vf x ∧ Cov T5 (inC (own.map (·.2)) 0 G1))
    (fin : Kd (xs.foldl (fun a x => pD a (kf x) (vf x)) []) (inC (own.map (·.2)) 0 G1)) :
    ∃ J : Nat → List Sl → List (Key × D) → Prop, J 0 (inC (own.map (·.2)) 0 G1) [] ∧ ds.length < 1000000 ∧
      (∀ i T acc, J i T acc → okC (own.map (·.2)) 0 T ∧ acc.length ≤ i) ∧
      (∀ i d T acc, ds[i]? = some d → J i T acc → ∀ F' s0 H0 C cl fp, XG (X.blk s0 H0 scope (compEnvC scope cl C X.env) fp) F' tg d T (fun j => (own.map (·.2)).contains j) fun T' => ∀ s0 H0 C cl fp, XTs (X.blk s0 H0 scope (compEnvC scope cl C X.env) fp) F' [] T' fun b T2 =>
        (b = true → ∀ s0 H0 C cl fp, XE (X.blk s0 H0 scope (compEnvC scope cl C X.env) fp) F' kx T2 fun y T3 => ∀ s0 H0 C cl fp, XE (X.blk s0 H0 scope (compEnvC scope cl C X.env) fp) F' vx T3 fun z T5 => ∃ k T4, y = keyD k ∧ J (i + 1) T4 (pD acc k z) ∧ Cov T5 T4) ∧ (b = false → ∃ T4, J (i + 1) T4 acc ∧ Cov T2 T4)) ∧
      ∀ T acc, J ds.length T acc → Kd acc T := by
  subst hds
  have hlen : ∀ (ys : List α) (a : List (Key × D)), (ys.foldl (fun a x => pD a (kf x) (vf x)) a).length ≤ a.length + ys.length := fun ys => by
    induction ys with
    | nil => intro a; exact Nat.le_refl _
    | cons y ys ih => intro a; rw [List.foldl_cons, List.length_cons]; have h1 := ih (pD a (kf y) (vf y)); have h2 := pD_len a (kf y) (vf y); omega
  refine ⟨fun i T acc => T = inC (own.map (·.2)) 0 G1 ∧ acc = (xs.take i).foldl (fun a x => pD a (kf x) (vf x)) [], ⟨rfl, rfl⟩, by rw [List.length_map]; exact hl, fun i T acc ⟨e, ea⟩ => ⟨e ▸ hok, by rw [ea]; have := hlen (xs.take i) []; rw [List.length_take, List.length_nil] at this; omega⟩, fun i d T acc hd ⟨e, ea⟩ F' s0 H0 C cl fp => ?_, fun T acc ⟨e, ea⟩ => ?_⟩
  · subst e
    rw [List.getElem?_map] at hd
    obtain ⟨x, hx, rfl⟩ := Option.map_eq_some_iff.mp hd
    intro S H σ v I r
    refine semG_mono (turn x (List.mem_of_getElem? hx) F' s0 H0 C cl fp S H σ v I r) fun σ2 H2 ⟨G2, S2, I2, e2, k2, q⟩ => ⟨G2, S2, I2, e2, k2, fun s0 H0 C cl fp => ?_⟩
    refine xts_nil ⟨fun _ s0 H0 C cl fp => (q s0 H0 C cl fp).mono fun y T3 q2 s0 H0 C cl fp => (q2 s0 H0 C cl fp).mono fun z T5 ⟨ey, ez, cv⟩ => ⟨kf x, _, ey, ⟨rfl, ?_⟩, cv⟩, fun z => by cases z⟩
    rw [List.take_add_one, hx, Option.toList_some, List.foldl_append, ← ea, ez]; rfl
  · subst e
    rw [List.length_map, List.take_length] at ea
    subst ea
    exact fin
end
end Pu

namespace Pu
open PySem PySem.Spec PyProof.Rows L2
abbrev Il (l : List Int) : D := .lst (l.map D.int)
/-- how many steps of c from 0 up to below n -/
def stepsOf (n c : Nat) : Nat := (n + c - 1) / c
theorem RgC.pos0 {n c : Nat} (hn : n < 1000000) (hc : 0 < c) (hc2 : c < 1000000) : RgC 0 (n : Int) (c : Int) (stepsOf n c) := by
  have e : Builtin.Range.rangeSize 0 (n : Int) (c : Int) = (stepsOf n c : Int) := by
    unfold Builtin.Range.rangeSize stepsOf
    rw [if_pos (by omega)]
    by_cases h : (0 : Int) < (n : Int)
    · rw [if_pos h]
      have e1 : (n : Int) - 0 - 1 = ((n - 1 : Nat) : Int) := by omega
      rw [e1, ← Int.natCast_ediv]
      have e2 : n + c - 1 = n - 1 + c := by omega
      rw [e2, Nat.add_div_right _ hc]
      rfl
    · rw [if_neg h]
      have e0 : n = 0 := by omega
      subst e0
      rw [show 0 + c - 1 = c - 1 by omega, Nat.div_eq_of_lt (by omega)]; rfl
  refine ⟨by omega, by omega, ?_, e⟩
  unfold Builtin.Range.small
  rw [e]
  have hs : stepsOf n c ≤ n + c := Nat.le_trans (Nat.div_le_self _ _) (by omega)
  simp only [Builtin.Range.rangeFitsLong, Bool.and_eq_true, Bool.or_eq_true, decide_eq_true_eq, beq_iff_eq, if_pos (show (c : Int) > 0 by omega)]
  refine ⟨⟨⟨⟨⟨by decide, by decide⟩, by omega, by omega⟩, by omega, by omega⟩, by omega, by omega⟩, .inr ⟨by omega, by omega⟩⟩
section
variable {X : Cx} {F : Fm} {G : List Sl} {pos : Pos} {Kk : D → List Sl → Prop} {tg : Expr}
theorem wk_rangeC {K : PySem.W.Frag} {S1 : Hp} {lo c : Int} {n : Nat} : Wk K (Itc lo c n) ((List.range n).map fun (i : Nat) => D.int (lo + (i : Nat) * c)) S1 where
  go := fun F G S H σ i I e hi => by rw [List.length_map, List.length_range] at hi; exact hi
  yld := fun F G S H σ i d x H' I e hd y => by
    obtain ⟨rfl, rfl⟩ := y
    rw [List.getElem?_map] at hd
    obtain ⟨j, hj, rfl⟩ := Option.map_eq_some_iff.mp hd
    obtain ⟨hl, e2⟩ := List.getElem?_eq_some_iff.mp hj
    rw [List.getElem_range] at e2
    subst e2
    exact ⟨S, I, Ex.rfl', .int _⟩
  stop := fun F G S H σ I e => by rw [List.length_map, List.length_range]; exact Nat.le_refl _
theorem xw_r3 {Kw : List D → List Sl → Prop} {a b c : Expr} {p1 p2 : Pos} (hm : X.mg "range" = none) (h : XA X F [a, b, c] G fun ds G1 => ∃ (n c : Nat), ds = [.int 0, .int (n : Int), .int (c : Int)] ∧ (n < 1000000 ∧ 0 < c ∧ c < 1000000) ∧ Kw ((List.range (stepsOf n c)).map fun (i : Nat) => D.int (0 + (i : Nat) * (c : Int))) G1) (hg : Gl X "range" := by rfl)
    (hs : starEach [a, b, c] X.env = (false, eval a X.env) :: starEach [b, c] X.env := by rfl) (hpl : (backTo p2 (starEach [b, c] X.env)).any (·.1) = false := by rfl) : XW' X F tg (.Call (.Name "range" p1) [a, b, c] [] p2) G Kw :=
  fun S H σ I => semI_of (pi_range3 hg hm pa_sem hs hpl) <| semA_mono (h S H σ I) fun vs H1 ⟨ds, G1, S1, I1, e1, r1, n, c, ed, ⟨h1, h2, h3⟩, k⟩ => by
    subst ed
    cases r1 with
    | cons r r1 =>
      cases r1 with
      | cons r' r1 =>
        cases r1 with
        | cons r'' r1 =>
          cases r1
          cases r; cases r'; cases r''
          exact ⟨0, n, c, stepsOf n c, rfl, RgC.pos0 h1 h2 h3, _, G1, S1, I1, e1, wk_rangeC, k⟩
/-- if xs, xs the slot's own list -/
theorem xt_truO (i : Nat) {Kb : Bool → List Sl → Prop} {x : Str} {p1 : Pos} {q : Bool} {ds : List D} (hG : G[i]? = some (.ow q (.lst ds))) (k : Kb (!ds.isEmpty) G)
    (hN : X.N[i]? = some x := by rfl) (hv : Vis X.env.scope x := by first | exact Or.inl rfl | exact Or.inr (Or.inl rfl) | exact Or.inr (Or.inr rfl)) (hd : (x == ("__debug__" : Str)) = false := by decide) (hcd : (x == ("__classdict__" : Str)) = false := by decide)
    (he : ∀ whole, isTrue (.Name x p1) X.env whole = (do let v ← whole; standAt p1; holding [v] (truthy v)) := by intro _; rfl) : XT X F (.Name x p1) G Kb := by
  intro S H σ I
  obtain ⟨p, o, ep, n, hb, ho, r⟩ := I.ow hG
  cases r with
  | @lst vs _ r =>
    refine semT_of (pt_truth (pe_var hN hv hd hcd) he) ?_
    refine ⟨_, ep, !vs.isEmpty, .inl ⟨vs, SqL.of ho, rfl⟩, ?_⟩
    have e : vs.isEmpty = ds.isEmpty := by cases r <;> rfl
    rw [e]
    exact ⟨G, S, I, Ex.rfl', k⟩
/-- an expression whose value is a list, as a test -/
theorem xt_truL {Kb : Bool → List Sl → Prop} {e : Expr} (h : XE X F e G fun d G1 => ∃ ds, d = .lst ds ∧ Kb (!ds.isEmpty) G1)
    (he : ∀ whole, isTrue e X.env whole = (do let v ← whole; standAt e.pos; holding [v] (truthy v)) := by intro _; rfl) : XT X F e G Kb := by
  intro S H σ I
  refine semT_of (pt_truth pe_sem he) ?_
  refine semE_mono (h S H σ I) fun v H1 ⟨d, G1, S1, I1, e1, r, ds, ed, k⟩ => ?_
  subst ed
  cases r with
  | @lst a vs _ hS r =>
    refine ⟨!vs.isEmpty, .inl ⟨vs, SqL.of (I1.fr.ex _ _ hS), rfl⟩, ?_⟩
    have e : vs.isEmpty = ds.isEmpty := by cases r <;> rfl
    rw [e]
    exact ⟨G1, S1, I1, e1, k⟩
end
theorem eqvAll_i : ∀ a b : List Int, PyData.eqvAll (toPys (a.map D.int)) (toPys (b.map D.int)) = decide (a = b)
  | [], [] => by simp [toPys, PyData.eqvAll]
  | [], y :: b => by simp [toPys, PyData.eqvAll]
  | x :: a, [] => by simp [toPys, PyData.eqvAll]
  | x :: a, y :: b => by
    have ih := eqvAll_i a b
    simp only [List.map_cons, toPys, toPy, PyData.eqvAll, PyData.eqv, ih]
    by_cases h1 : x = y
    · by_cases h2 : a = b
      · simp [h1, h2]
      · simp [h1, h2]
    · simp [h1]
theorem _root_.L2.Room.u64 {k : Nat} {A : Around} (r : Room k A) : A.units + 64 < cLine := by have := r.un; omega
section
variable {X : Cx} {F : Fm} {G : List Sl} {Kk : D → List Sl → Prop}
theorem xo_eqIs {a b : List Int} (hu : X.A.units + 64 < cLine) (ha : a.length < 1000000) (hb : b.length < 1000000) (k : Kk (.bl (decide (a = b))) G) : XO X F (compareOp .Eq) (.lst (a.map D.int)) (.lst (b.map D.int)) G Kk := by
  have ca := Cmp.ints ha
  have cb := Cmp.ints hb
  refine xo_eqD hu ca.1 cb.1 ca.shaped cb.shaped ?_
  simp only [toPy, PyData.eqv]
  rw [eqvAll_i]; exact k
theorem xo_neIs {a b : List Int} (hu : X.A.units + 64 < cLine) (ha : a.length < 1000000) (hb : b.length < 1000000) (k : Kk (.bl (!decide (a = b))) G) : XO X F (compareOp .NotEq) (.lst (a.map D.int)) (.lst (b.map D.int)) G Kk := by
  have ca := Cmp.ints ha
  have cb := Cmp.ints hb
  refine xo_neD hu ca.1 cb.1 ca.shaped cb.shaped ?_
  simp only [toPy, PyData.eqv]
  rw [eqvAll_i]; exact k
theorem cmpWs {a : List Str} (ha : a.length < 1000000) (h : ∀ w ∈ a, SOk w) : Cmp 10 (.lst (a.map D.str)) := Cmp.lst (n := 9) (by rw [List.length_map]; exact ha) fun d hd => by
  obtain ⟨x, hx, rfl⟩ := List.mem_map.mp hd
  exact Cmp.str (h x hx)
theorem xo_eqWs {a b : List Str} (hu : X.A.units + 64 < cLine) (ha : a.length < 1000000) (hb : b.length < 1000000) (sa : ∀ w ∈ a, SOk w) (sb : ∀ w ∈ b, SOk w) (k : Kk (.bl (decide (a = b))) G) : XO X F (compareOp .Eq) (.lst (a.map D.str)) (.lst (b.map D.str)) G Kk := by
  have ca := cmpWs ha sa
  have cb := cmpWs hb sb
  refine xo_eqD hu ca.1 cb.1 ca.shaped cb.shaped ?_
  rw [eqv_ln]; exact k
end
theorem cut_take {α : Type} (g : α → D) (ws : List α) (n : Nat) : Pu.cutD (ws.map g) none (some (n : Int)) = (ws.take n).map g := by
  unfold Pu.cutD
  rw [HT.sIx_nat, HT.sIx_none, List.length_map, List.drop_zero, Nat.sub_zero, ← List.map_take]
  by_cases h : n ≤ ws.length
  · rw [Nat.min_eq_left h]
  · rw [Nat.min_eq_right (by omega), List.take_of_length_le (Nat.le_refl _), List.take_of_length_le (by omega)]
theorem cut_dropA {α : Type} (g : α → D) (l : List α) (k : Nat) : Pu.cutD (l.map g) (some (k : Int)) none = (l.drop k).map g := by
  unfold Pu.cutD
  rw [HT.sIx_nat, HT.sIx_none, List.length_map, List.map_drop]
  by_cases h : k ≤ l.length
  · rw [Nat.min_eq_left h, List.take_of_length_le (by rw [List.length_drop, List.length_map]; exact Nat.le_refl _)]
  · rw [Nat.min_eq_right (by omega), Nat.sub_self, List.take_zero, List.drop_eq_nil_of_le (by rw [List.length_map]; omega)]
end Pu

namespace Pu
open PySem PySem.Spec PyProof.Rows L2
/-- a dict that stands locked -/
structure Lkd (K : PySem.W.Frag) (F : Fm) (p : Addr) (kds : List (Key × D)) : Prop where
  ex : ∃ od kvs, F.S0 p = some (.frz od (.dK kvs)) ∧ kvs.map (·.1) = kds.map (·.1) ∧ Reps K F.S0 (kvs.map (·.2)) (kds.map (·.2))
def delH (S : Hp) (p : Addr) : Hp := fun a => if a = p then none else S a
theorem delH_ne {S : Hp} {p a : Addr} {o : HO} (h : S a = some o) (ne : a ≠ p) : delH S p a = some o := by unfold delH; rw [if_neg ne]; exact h
theorem delH_at {S : Hp} {p : Addr} : delH S p p = none := by unfold delH; rw [if_pos rfl]
section
variable {K : PySem.W.Frag} {S : Hp} {p : Addr} {od : Obj} {u : HO}
theorem del_ne {a : Addr} {o : HO} (hp : S p = some (.frz od u)) (h : S a = some o) (hf : ∀ x y, o ≠ .frz x y) : delH S p a = some o := delH_ne h fun z => by
  subst z; rw [hp] at h; cases h; exact hf _ _ rfl
mutual
theorem Rep.del (hp : S p = some (.frz od u)) (hu : ∀ xs, u ≠ .lst xs) : ∀ {v : L2.V} {d : D}, Rep K S v d → Rep K (delH S p) v d
  | _, _, .non => .non
  | _, _, .bl b => .bl b
  | _, _, .int i => .int i
  | _, _, .str x => .str x
  | _, _, .tup h r => .tup (del_ne hp h fun _ _ z => by cases z) (Reps.del hp hu r)
  | _, _, .lst h r => .lst (del_ne hp h fun _ _ z => by cases z) (Reps.del hp hu r)
  | _, _, .dk h q r => .dk (del_ne hp h fun _ _ z => by cases z) q (Reps.del hp hu r)
  | _, _, .dt h q r => .dt (del_ne hp h fun _ _ z => by cases z) q (Reps.del hp hu r)
  | _, _, .ins h q r => .ins (del_ne hp h fun _ _ z => by cases z) q (Reps.del hp hu r)
  | _, _, .scr h => .scr (by
      rcases h with (h | ⟨o, h⟩) | h
      · exact .inl (.inl (del_ne hp h fun _ _ z => by cases z))
      · exact .inl (.inr ⟨o, delH_ne h fun z => by subst z; rw [hp] at h; cases h; exact hu _ rfl⟩)
      · exact .inr h)
  | _, _, .ty n => .ty n
  | _, _, .kt h r => .kt h (Reps.del hp hu r)
  | _, _, .adr a => .adr a
theorem Reps.del (hp : S p = some (.frz od u)) (hu : ∀ xs, u ≠ .lst xs) : ∀ {vs : List L2.V} {ds : List D}, Reps K S vs ds → Reps K (delH S p) vs ds
  | _, _, .nil => .nil
  | _, _, .cons h r => .cons (Rep.del hp hu h) (Reps.del hp hu r)
end
theorem CRep.del {o : HO} {c : D} (hp : S p = some (.frz od u)) (hu : ∀ xs, u ≠ .lst xs) (h : CRep K S o c) : CRep K (delH S p) o c := by
  cases h with
  | lst r => exact .lst (r.del hp hu)
  | dk q r => exact .dk q (r.del hp hu)
  | dt q r => exact .dt q (r.del hp hu)
  | ins q r => exact .ins q (r.del hp hu)
theorem IV.del {F : Fm} {T : List Sl} {H : Hp} {σ : L2.St} (I : IV K F T S H σ) (hp : S p = some (.frz od u)) (hu : ∀ xs, u ≠ .lst xs) (h0 : F.S0 p = none) : IV K F T (delH S p) H σ := by
  obtain ⟨ad, h1, h2⟩ := I.sl
  have dn : ∀ a, S a = none → delH S p a = none := fun a h => by unfold delH; split <;> first | rfl | exact h
  refine ⟨⟨fun a u q => ?_, fun a u q => ?_, I.fr.fr, fun a q => ?_, I.fr.bor⟩, I.len, ad, fun i s hs => ?_, h2⟩
  · unfold delH at q
    split at q
    · cases q
    · exact I.fr.ex a u q
  · exact delH_ne (I.fr.old a u q) fun z => by subst z; rw [h0] at q; cases q
  · refine I.fr.new a fun z => q (dn a z)
  · have q := h1 i s hs
    cases s with
    | no => trivial
    | va d =>
      obtain ⟨v, ev, r⟩ := q
      exact ⟨v, ev, r.del hp hu⟩
    | ow qq c =>
      obtain ⟨ev, n, hb, o, ho, r⟩ := q
      exact ⟨ev, dn _ n, hb, o, ho, r.del hp hu⟩
/-- a slot whose object is known again -/
theorem IV.own3 {F : Fm} {T : List Sl} {H : Hp} {σ : L2.St} (I : IV K F T S H σ) {i : Nat} {p : Addr} {o : HO} {c : D} (hp : σ[i]? = some (some (.ref p))) (n : S p = none) (h0 : F.H0 p = none) (ho : H p = some o) (no : NoOwn T σ p) (r : CRep K S o c) :
    IV K F (T.set i (.ow false c)) S H σ := by
  obtain ⟨ad, h1, h2⟩ := I.sl
  have at_i : ∀ {j : Nat} {s : Sl}, (T.set i (.ow false c))[j]? = some s → (j = i ∧ s = .ow false c) ∨ (j ≠ i ∧ T[j]? = some s) := fun {j s} h => by
    by_cases hij : i = j
    · subst hij
      have hl : i < T.length := by
        have := (List.getElem?_eq_some_iff.mp h).1
        rwa [List.length_set] at this
      rw [List.getElem?_set_self hl] at h
      exact .inl ⟨rfl, (Option.some.inj h).symm⟩
    · rw [List.getElem?_set_ne hij] at h
      exact .inr ⟨fun z => hij z.symm, h⟩
  refine ⟨I.fr, by rw [List.length_set]; exact I.len, fun j => if j = i then p else ad j, fun j s hs => ?_, fun j k q1 c1 q2 c2 hj hk e => ?_⟩
  · rcases at_i hs with ⟨e, rfl⟩ | ⟨e, hs⟩
    · subst e
      show SlOk K F S H _ _ (if j = j then p else ad j)
      rw [if_pos rfl]
      exact ⟨by rw [hp]; rfl, n, .inl ⟨rfl, h0⟩, o, ho, r⟩
    · show SlOk K F S H s _ (if j = i then p else ad j)
      rw [if_neg e]
      exact h1 j s hs
  · have e' : (if j = i then p else ad j) = (if k = i then p else ad k) := e
    rcases at_i hj with ⟨ej, _⟩ | ⟨ej, hj⟩
    · rcases at_i hk with ⟨ek, _⟩ | ⟨ek, hk⟩
      · rw [ej, ek]
      · rw [if_pos ej, if_neg ek] at e'
        exact absurd (by rw [e']; exact (h1 k _ hk).1) (no k q2 c2 hk)
    · rcases at_i hk with ⟨ek, _⟩ | ⟨ek, hk⟩
      · rw [if_neg ej, if_pos ek] at e'
        exact absurd (by rw [← e']; exact (h1 j _ hj).1) (no j q1 c1 hj)
      · rw [if_neg ej, if_neg ek] at e'
        exact h2 j k q1 c1 q2 c2 hj hk e'
/-- a slot whose value is known again -/
theorem IV.know {F : Fm} {T : List Sl} {H : Hp} {σ : L2.St} (I : IV K F T S H σ) {i : Nat} {v : L2.V} {d : D} (hv : σ[i]? = some (some v)) (r : Rep K S v d) : IV K F (T.set i (.va d)) S H σ := by
  have h := I.set (i := i) r
  have e : σ.set i (some v) = σ := by
    apply List.ext_getElem?
    intro j
    by_cases hij : i = j
    · subst hij; rw [List.getElem?_set_self (List.getElem?_eq_some_iff.mp hv).1, hv]
    · rw [List.getElem?_set_ne hij]
  rw [e] at h
  exact h
end
theorem key_rep {K : PySem.W.Frag} {S : Hp} (k : Key) : Rep K S (kV k) (keyD k) := by
  cases k with
  | inl i => exact .int i
  | inr x => exact .str x
theorem kv_at {kvs : List (Key × L2.V)} {kds : List (Key × D)} {K : PySem.W.Frag} {S : Hp} (e : kvs.map (·.1) = kds.map (·.1)) (r : Reps K S (kvs.map (·.2)) (kds.map (·.2))) {i : Nat} {k : Key} {v : L2.V} (h : kvs[i]? = some (k, v)) : ∃ d, kds[i]? = some (k, d) ∧ Rep K S v d := by
  have h1 : (kvs.map (·.1))[i]? = some k := by rw [List.getElem?_map, h]; rfl
  have h2 : (kvs.map (·.2))[i]? = some v := by rw [List.getElem?_map, h]; rfl
  rw [e, List.getElem?_map] at h1
  obtain ⟨⟨k', d⟩, hk, ek⟩ := Option.map_eq_some_iff.mp h1
  have ek' : k' = k := ek
  subst ek'
  obtain ⟨d', hd, rv⟩ := r.getV h2
  rw [List.getElem?_map, hk] at hd
  cases hd
  exact ⟨d, hk, rv⟩
section
variable {X : Cx} {F : Fm} {G : List Sl} {pos : Pos} {Kk : D → List Sl → Prop}
theorem xw_items {Kw : List D → List Sl → Prop} {p : Addr} {kds : List (Key × D)} {e : Expr} {elts : List Expr} {kk : Nat} {tpos apos cpos : Pos} (L : Lkd X.K F p kds) (h : XE X F e G fun d G1 => d = .adr p ∧ Kw (kds.map fun kv => D.tup [keyD kv.1, kv.2]) G1)
    (hbase : attributeBase e "items" X.env (eval e X.env) = eval e X.env := by rfl) (hline : (apos.endLine == cpos.line) = true := by rfl) : XW' X F (.Tuple elts kk tpos) (.Call (.Attribute e "items" apos) [] [] cpos) G Kw := fun S H σ I => by
  obtain ⟨od, kvs, h0, ek, rv⟩ := L.ex
  have lk : kvs.length = kds.length := by
    have := congrArg List.length ek
    rwa [List.length_map, List.length_map] at this
  refine semI_of (pi_items pe_sem hbase hline) <| semE_mono (h S H σ I) fun v H1 ⟨d, G1, S1, I1, e1, r1, ed, k⟩ => ?_
  subst ed
  cases r1
  have hS : S1 p = some (.frz od (.dK kvs)) := I1.fr.old p _ h0
  refine ⟨p, od, kvs, rfl, I1.fr.ex p _ hS, _, G1, S1, I1, e1, ⟨fun F G S H σ i I e hi => ?_, fun F G S H σ i d x H' I e hd y => ?_, fun F G S H σ I e => ?_⟩, k⟩
  · rw [List.length_map] at hi
    exact ⟨I.fr.ex p _ (e p _ hS), by omega⟩
  · obtain ⟨T, k, v, hk, rfl, hT, rfl⟩ := y
    obtain ⟨d', hd', rd⟩ := kv_at ek rv hk
    rw [List.getElem?_map, hd'] at hd
    cases hd
    obtain ⟨I2, e2⟩ := I.alloc (o := .tup [kV k, v]) hT
    exact ⟨_, I2, e2, .tup upd_same (.cons (key_rep k) (.cons (rd.mono (((I1.fr.old).tr e).tr e2)) .nil))⟩
  · rw [List.length_map]
    exact ⟨I.fr.ex p _ (e p _ hS), by omega⟩
theorem xw_values {Kw : List D → List Sl → Prop} {p : Addr} {kds : List (Key × D)} {e tg : Expr} {apos cpos : Pos} (L : Lkd X.K F p kds) (h : XE X F e G fun d G1 => d = .adr p ∧ Kw (kds.map (·.2)) G1)
    (hbase : attributeBase e "values" X.env (eval e X.env) = eval e X.env := by rfl) (hline : (apos.endLine == cpos.line) = true := by rfl) : XW' X F tg (.Call (.Attribute e "values" apos) [] [] cpos) G Kw := fun S H σ I => by
  obtain ⟨od, kvs, h0, ek, rv⟩ := L.ex
  have lk : kvs.length = kds.length := by
    have := congrArg List.length ek
    rwa [List.length_map, List.length_map] at this
  refine semI_of (pi_values pe_sem hbase hline) <| semE_mono (h S H σ I) fun v H1 ⟨d, G1, S1, I1, e1, r1, ed, k⟩ => ?_
  subst ed
  cases r1
  have hS : S1 p = some (.frz od (.dK kvs)) := I1.fr.old p _ h0
  refine ⟨p, od, kvs, rfl, I1.fr.ex p _ hS, _, G1, S1, I1, e1, ⟨fun F G S H σ i I e hi => ?_, fun F G S H σ i d x H' I e hd y => ?_, fun F G S H σ I e => ?_⟩, k⟩
  · rw [List.length_map] at hi
    exact ⟨I.fr.ex p _ (e p _ hS), by omega⟩
  · obtain ⟨rfl, k, hk⟩ := y
    obtain ⟨d', hd', rd⟩ := kv_at ek rv hk
    rw [List.getElem?_map, hd'] at hd
    cases hd
    exact ⟨S, I, Ex.rfl', rd.mono ((I1.fr.old).tr e)⟩
  · rw [List.length_map]
    exact ⟨I.fr.ex p _ (e p _ hS), by omega⟩
theorem xw_keysD {Kw : List D → List Sl → Prop} {p : Addr} {kds : List (Key × D)} {e tg : Expr} (L : Lkd X.K F p kds) (h : XE X F e G fun d G1 => d = .adr p ∧ Kw (kds.map fun kv => keyD kv.1) G1) : XW' X F tg e G Kw := fun S H σ I => by
  obtain ⟨od, kvs, h0, ek, rv⟩ := L.ex
  have lk : kvs.length = kds.length := by
    have := congrArg List.length ek
    rwa [List.length_map, List.length_map] at this
  refine semI_of (pi_keys pe_sem) <| semE_mono (h S H σ I) fun v H1 ⟨d, G1, S1, I1, e1, r1, ed, k⟩ => ?_
  subst ed
  cases r1
  have hS : S1 p = some (.frz od (.dK kvs)) := I1.fr.old p _ h0
  refine ⟨p, od, rfl, .inl ⟨kvs, I1.fr.ex p _ hS, _, G1, S1, I1, e1, ⟨fun F G S H σ i I e hi => ?_, fun F G S H σ i d x H' I e hd y => ?_, fun F G S H σ I e => ?_⟩, k⟩⟩
  · rw [List.length_map] at hi
    exact ⟨I.fr.ex p _ (e p _ hS), by omega⟩
  · obtain ⟨rfl, k, v, hk, rfl⟩ := y
    obtain ⟨d', hd', rd⟩ := kv_at ek rv hk
    rw [List.getElem?_map, hd'] at hd
    cases hd
    exact ⟨S, I, Ex.rfl', key_rep k⟩
  · rw [List.length_map]
    exact ⟨I.fr.ex p _ (e p _ hS), by omega⟩
/-- an expression that walks the slot's own dict -/
theorem xe_lock (i : Nat) {kds : List (Key × D)} {e : Expr} (hG : G[i]? = some (.ow false (.dk kds))) (h : ∀ F' p, Lkd X.K F' p kds → XE X F' e ((inC [] 0 (G.set i .no)).set i (.va (.adr p))) fun d T => Kk d ((outC (G.set i .no) T).set i (.ow false (.dk kds)))) : XE X F e G Kk := by
  intro S H σ I
  obtain ⟨p, o, ep, n, hb, ho, rc⟩ := I.ow hG
  have h0 : F.H0 p = none := by
    rcases hb with ⟨_, z⟩ | ⟨z, _⟩
    · exact z
    · cases z
  have hS0 : F.S0 p = none := by
    cases e : F.S0 p with
    | none => rfl
    | some u => have := I.fr.old p u e; rw [n] at this; cases this
  cases rc with
  | @dk kvs _ ek rs =>
  refine semE_of (pe_lock pe_sem) ⟨p, .dK kvs, ho, True.intro, fun od => ?_⟩
  have hil : i < G.length := (List.getElem?_eq_some_iff.mp hG).1
  have Iw : IV X.K F (G.set i .no) S H σ := I.weak (by rw [List.length_set]) fun j s hs' => by
    by_cases hij : i = j
    · subst hij; rw [List.getElem?_set_self hil] at hs'; exact .inl (Option.some.inj hs').symm
    · rw [List.getElem?_set_ne hij] at hs'; exact .inr hs'
  have no : NoOwn (G.set i .no) σ p := fun j q c hj z => by
    obtain ⟨ad, h1, h2⟩ := I.sl
    by_cases hij : i = j
    · subst hij; rw [List.getElem?_set_self hil] at hj; cases hj
    · rw [List.getElem?_set_ne hij] at hj
      obtain ⟨evj, _⟩ := h1 j _ hj
      obtain ⟨evi, _⟩ := h1 i _ hG
      rw [z] at evj
      have eq1 : p = ad j := L2.V.ref.inj (Option.some.inj evj)
      rw [ep] at evi
      have eq2 : p = ad i := L2.V.ref.inj (Option.some.inj evi)
      exact hij (h2 i j _ _ _ _ hG hj (eq2.symm.trans eq1))
  have I0 : IV X.K F (G.set i .no) S (upd H p (.frz od (.dK kvs))) σ := Iw.wr3 n h0 no (fun vs z => by cases z)
  have e1 : Ex S (upd S p (.frz od (.dK kvs))) := Ex.new n
  have I1 : IV X.K F (G.set i .no) (upd S p (.frz od (.dK kvs))) (upd H p (.frz od (.dK kvs))) σ := I0.frz2 n h0 upd_same no
  obtain ⟨ad, h1, h2⟩ := I1.sl
  have Iin : IV X.K ⟨upd H p (.frz od (.dK kvs)), upd S p (.frz od (.dK kvs)), bsOf ad (G.set i .no)⟩ (inC [] 0 (G.set i .no)) (upd S p (.frz od (.dK kvs))) (upd H p (.frz od (.dK kvs))) σ := I1.inC (vs := []) h1 h2
  have Ik := Iin.know ep (.adr p)
  refine semE_mono (h _ p ⟨od, kvs, upd_same, ek, rs.mono e1⟩ _ _ σ Ik) fun v H' ⟨d, T, S', I', e', rv, k⟩ => ?_
  have hS' : S' p = some (.frz od (.dK kvs)) := e' p _ upd_same
  have hH' : H' p = some (.frz od (.dK kvs)) := I'.fr.ex p _ hS'
  refine ⟨hH', ?_⟩
  have I4 : IV X.K F (outC (G.set i .no) T) S' H' σ := I1.outC (vs := []) h1 h2 I' rfl (fun _ h => by cases h)
  have hu : ∀ xs : List L2.V, HO.dK kvs ≠ .lst xs := fun xs z => by cases z
  have I5 := I4.del hS' hu hS0
  have no' : NoOwn (outC (G.set i .no) T) σ p := fun j q c hj => by
    rcases outC_at hj with e | ⟨d, e, _⟩ | ⟨q1, c0, q2, c1, e, g, _⟩
    · cases e
    · cases e
    · exact no j q1 c0 g
  have I6 := I5.wr3 (o := .dK kvs) delH_at h0 no' (fun vs z => by cases z)
  have eF : Ex S (delH S' p) := fun a u q => delH_ne (e' a u (e1 a u q)) fun z => by subst z; rw [n] at q; cases q
  have I7 := I6.own3 (i := i) (c := .dk kds) ep delH_at h0 upd_same no' (.dk ek (rs.mono eF))
  exact ⟨d, _, _, I7, eF, rv.del hS' hu, k⟩
end
end Pu

namespace Pu
open PySem PySem.Spec PyProof.Rows L2
section
variable {X : Cx} {F : Fm} {G : List Sl} {pos : Pos} {Kk : D → List Sl → Prop}
/-- an item of a dict that is a value -/
theorem xe_dgetE {a e : Expr} (hu : X.A.units + 1 < cLine) (h : XE X F a G fun x G1 => XE X F e G1 fun y G2 => ∃ d, GetD x y (some d) ∧ Kk d G2) (hs : NoSl e := by exact fun _ _ => rfl) : XE X F (.Subscript a e pos) G Kk := by
  intro S H σ I
  refine semE_of (pe_dget hu pe_sem pe_sem hs) ?_
  refine semE_mono (h S H σ I) fun v0 H0 ⟨x, G0, S0, I0, e0, r0, q0⟩ => ?_
  refine semE_mono (q0 S0 H0 σ I0) fun v1 H1 ⟨y, G1, S1, I1, e1, r1, d, g, k⟩ => ?_
  have r0' := r0.mono e1
  obtain ⟨p, o, ev, hS, rc⟩ : ∃ p o, v0 = .ref p ∧ S1 p = some o ∧ CRep X.K S1 o x := by
    rcases g.cases' with ⟨kds, rfl⟩ | ⟨kds, rfl⟩
    · cases r0' with
      | dk hS q r => exact ⟨_, _, rfl, hS, .dk q r⟩
    · cases r0' with
      | dt hS q r => exact ⟨_, _, rfl, hS, .dt q r⟩
  subst ev
  obtain ⟨vr, dg, z | ⟨v, d', ev, ed, rv⟩⟩ := rc.get I1.fr.ex (I1.fr.ex _ _ hS) r1 g
  · cases z.2
  · cases ed
    rw [ev] at dg
    exact ⟨_, v, rfl, dg, .at I1 (e0.tr e1) rv k⟩
/-- s.split(sep) -/
theorem xe_splitE {a e : Expr} {apos : Pos} (h : XE X F a G fun d G1 => ∃ z, d = .str z ∧ XE X F e G1 fun y G2 => ∃ b, y = .str b ∧ (b.length == 0) = false ∧ z.length ≤ 1000000 ∧ Kk (.lst ((Txt.split z b).map D.str)) G2)
    (hs : starEach [e] X.env = [(false, eval e X.env)] := by rfl) (hbase : attributeBase a "split" X.env (eval a X.env) = eval a X.env := by rfl) (hline : (apos.endLine == pos.line) = true := by rfl) :
    XE X F (.Call (.Attribute a "split" apos) [e] [] pos) G Kk := by
  intro S H σ I
  refine semE_of (pe_split pe_sem pe_sem hs hbase hline) ?_
  refine semE_mono (h S H σ I) fun v H1 ⟨d, G1, S1, I1, e1, r1, z, ed, q1⟩ => ?_
  subst ed
  cases r1
  refine ⟨⟨z, rfl⟩, semE_mono (q1 S1 H1 σ I1) fun v2 H2 ⟨y, G2, S2, I2, e2, r2, b, ey, hb, hz, k⟩ => ?_⟩
  subst ey
  cases r2
  refine ⟨z, b, rfl, rfl, hb, Nat.le_trans (Nat.add_le_add_right hz 2) (by decide), fun p hp => ?_⟩
  obtain ⟨I3, e3⟩ := I2.alloc (o := .lst ((Txt.split z b).map L2.V.str)) hp
  have rs : ∀ (S : Hp) (ys : List Str), Reps X.K S (ys.map L2.V.str) (ys.map D.str) := fun S ys => by
    induction ys with
    | nil => exact .nil
    | cons y ys ih => exact .cons (.str y) ih
  exact .at I3 ((e1.tr e2).tr e3) (.lst upd_same (rs _ _)) k
end
/-- the parts between the spaces -/
def spl : List Nat → List (List Nat)
  | [] => [[]]
  | c :: r => if c = 32 then [] :: spl r else match spl r with
    | [] => [[c]]
    | p :: ps => (c :: p) :: ps
theorem spl_ne : ∀ l, ∃ p ps, spl l = p :: ps
  | [] => ⟨[], [], rfl⟩
  | c :: r => by
    unfold spl
    by_cases h : c = 32
    · rw [if_pos h]; exact ⟨_, _, rfl⟩
    · rw [if_neg h]
      obtain ⟨p, ps, e⟩ := spl_ne r
      rw [e]; exact ⟨_, _, rfl⟩
theorem spl_free : ∀ (p : List Nat), 32 ∉ p → ∀ (l : List Nat), ∃ q qs, spl l = q :: qs ∧ spl (p ++ l) = (p ++ q) :: qs
  | [], _, l => by obtain ⟨q, qs, e⟩ := spl_ne l; exact ⟨q, qs, e, e⟩
  | c :: p, h, l => by
    obtain ⟨q, qs, e1, e2⟩ := spl_free p (fun z => h (List.Mem.tail _ z)) l
    refine ⟨q, qs, e1, ?_⟩
    rw [List.cons_append]
    show (if c = 32 then _ else _) = _
    rw [if_neg (fun z : c = 32 => h (by rw [z]; exact List.Mem.head _)), e2]; rfl
def jn : List (List Nat) → List Nat
  | [] => []
  | [p] => p
  | p :: q :: ps => p ++ 32 :: jn (q :: ps)
theorem spl_jn : ∀ (ps : List (List Nat)), ps ≠ [] → (∀ p ∈ ps, 32 ∉ p) → spl (jn ps) = ps
  | [], h, _ => absurd rfl h
  | [p], _, h => by
    obtain ⟨q, qs, e1, e2⟩ := spl_free p (h p (List.Mem.head _)) []
    have e3 : spl [] = [[]] := rfl
    rw [e3] at e1
    cases e1
    show spl p = [p]
    simpa using e2
  | p :: q :: ps, _, h => by
    obtain ⟨a, as, e1, e2⟩ := spl_free p (h p (List.Mem.head _)) (32 :: jn (q :: ps))
    have ih := spl_jn (q :: ps) (by simp) fun x hx => h x (List.Mem.tail _ hx)
    have e3 : spl (32 :: jn (q :: ps)) = [] :: spl (jn (q :: ps)) := by show (if 32 = 32 then _ else _) = _; rw [if_pos rfl]
    rw [e3, ih] at e1
    cases e1
    show spl (p ++ 32 :: jn (q :: ps)) = _
    rw [e2, List.append_nil]
theorem atI_last {α : Type} {xs : List α} {x : α} (h0 : 0 < xs.length) (h : xs[xs.length - 1]? = some x) : atI xs (-1) = some x := by
  unfold atI ixN
  rw [if_neg (by omega), if_pos (by omega)]
  show xs[_]? = _
  have : ((-1 : Int) + (xs.length : Int)).toNat = xs.length - 1 := by omega
  rw [this, h]
theorem ixN_last {n : Nat} (h : 0 < n) : ixN n (-1) = some (n - 1) := by
  unfold ixN
  rw [if_neg (by omega), if_pos (by omega)]
  congr 1; omega
theorem join_jn : ∀ ps : List Str, (Str.join ⟨#[32]⟩ ps).cps.toList = jn (ps.map fun p => p.cps.toList)
  | [] => rfl
  | [p] => rfl
  | p :: q :: ps => by
    show ((p ++ ⟨#[32]⟩) ++ Str.join ⟨#[32]⟩ (q :: ps)).cps.toList = p.cps.toList ++ 32 :: jn ((q :: ps).map fun p => p.cps.toList)
    rw [app_l, app_l, join_jn (q :: ps), List.append_assoc]; rfl
theorem split_spl (z : Str) : (Txt.split z ⟨#[32]⟩).map (fun p => p.cps.toList) = spl z.cps.toList := by
  have h1 := congrArg (fun s : Str => s.cps.toList) (StrLaws.join_split z ⟨#[32]⟩)
  have h2 := StrLaws.split_free z 32
  have h3 : Txt.split z ⟨#[32]⟩ ≠ [] := fun e => by
    have := PyProof.Rows.split_pos z ⟨#[32]⟩
    rw [e] at this; simp at this
  have h4 : (Str.join ⟨#[32]⟩ (Txt.split z ⟨#[32]⟩)).cps.toList = z.cps.toList := h1
  rw [join_jn] at h4
  rw [← h4, spl_jn _ (by simpa using h3)]
  intro p hp
  obtain ⟨q, hq, rfl⟩ := List.mem_map.mp hp
  exact h2 q hq
abbrev stA (l : List Nat) : Str := ⟨l.toArray⟩
theorem split_mk (z : Str) : Txt.split z ⟨#[32]⟩ = (spl z.cps.toList).map stA := by
  rw [← split_spl, List.map_map]
  conv => lhs; rw [← List.map_id (Txt.split z ⟨#[32]⟩)]
  apply List.map_congr_left
  intro a _
  cases a; rfl
theorem join0 : ∀ ps : List Str, (Str.join ⟨#[]⟩ ps).cps.toList = (ps.map fun p => p.cps.toList).flatten
  | [] => rfl
  | [p] => by show p.cps.toList = _; simp
  | p :: q :: ps => by
    show ((p ++ ⟨#[]⟩) ++ Str.join ⟨#[]⟩ (q :: ps)).cps.toList = _
    rw [app_l, app_l, join0 (q :: ps), List.map_cons, List.flatten_cons]
    simp
theorem tjoin0 (ps : List Str) : (Txt.join ⟨#[]⟩ ps).cps.toList = (ps.map fun p => p.cps.toList).flatten := by
  show (Builtin.Str.glued ⟨#[]⟩ ps).cps.toList = _
  rw [StrLaws.glued_eq_join, join0]
open Classical in
theorem gD_fold {α : Type} (kf : α → Key) (vf : α → D) (V : Key → D) (h : ∀ x, vf x = V (kf x)) : ∀ (xs : List α) (a : List (Key × D)) (k : Key), gD (xs.foldl (fun a x => pD a (kf x) (vf x)) a) k = if k ∈ xs.map kf then some (V k) else gD a k
  | [], a, k => by simp
  | x :: xs, a, k => by
    rw [List.foldl_cons, gD_fold kf vf V h xs, gD_put]
    by_cases h1 : k ∈ xs.map kf
    · rw [if_pos h1, if_pos (by rw [List.map_cons]; exact List.Mem.tail _ h1)]
    · rw [if_neg h1]
      by_cases h2 : k = kf x
      · rw [if_pos h2, if_pos (by rw [List.map_cons, h2]; exact List.Mem.head _), h, h2]
      · rw [if_neg h2, if_neg (fun z => by
          rw [List.map_cons] at z
          rcases List.mem_cons.mp z with e | e
          · exact h2 e
          · exact h1 e)]
theorem fold_pD_len {α κ : Type} [DecidableEq κ] (kf : α → κ) (vf : α → D) : ∀ (xs : List α) (a : List (κ × D)), (xs.foldl (fun a x => pD a (kf x) (vf x)) a).length ≤ a.length + xs.length
  | [], a => Nat.le_refl _
  | x :: xs, a => by
    rw [List.foldl_cons, List.length_cons]
    have h1 := fold_pD_len kf vf xs (pD a (kf x) (vf x))
    have h2 := pD_len a (kf x) (vf x)
    omega
end Pu

namespace Pu
open PySem PySem.Spec PyProof.Rows L2
section
variable {prog : Program} {w : World} {A : Around} {E : Value → Shared → Prop} {s : Shared}
/-- min of a list, where the comparison may read what lay in the heap before -/
theorem minK_list {l : Addr} {its : Array Value} {bt : Nat → Nat → Bool} {Q : Value → Shared → Prop} (hh : A.handled = none) (hl : s.heap.IsList l its) (hn : 0 < its.size)
    (hcmp : CmpIn prog w A.in1 .Lt s.heap (fun i v => its[i]? = some v) bt)
    (h : ∀ v h' tk, its[argBest bt (its.size - 1)]? = some v → (∀ b o, s.heap.get? b = some o → h'.get? b = some o) → Q v { s with heap := h', toks := tk }) :
    wpAny (model prog w) A (call (.builtin "min") [.ref l]) Q E s :=
  call_min_walkH <| PySem.W.iter_listW (A := A.in1) hh hl fun _ e W st hfp hw hk => ⟨_, _, _, _, _, _, _, s.heap, _, rfl, W, st, hfp, hn, hw, hk, hcmp, fun v s' hP m => by
    obtain ⟨h', tk, rfl, hk'⟩ := PySem.W.moved_old e rfl m
    exact h v h' tk hP hk'⟩
end

/-- the order of lists of ints of one length -/
def lexLt : List Int → List Int → Bool
  | x :: xs, y :: ys => if x = y then lexLt xs ys else decide (x < y)
  | _, _ => false
theorem lexLt_irr : ∀ l : List Int, lexLt l l = false
  | [] => rfl
  | x :: xs => by rw [lexLt, if_pos rfl]; exact lexLt_irr xs
theorem lexLt_tr : ∀ {a b c : List Int}, a.length = b.length → b.length = c.length → lexLt a b = true → lexLt b c = true → lexLt a c = true
  | [], _, _, _, _, h, _ => by simp [lexLt] at h
  | _ :: _, [], _, e, _, _, _ => by cases e
  | _ :: _, _ :: _, [], _, e, _, _ => by cases e
  | x :: a, y :: b, z :: c, e1, e2, h1, h2 => by
    rw [lexLt] at h1 h2 ⊢
    have e1' : a.length = b.length := Nat.succ.inj e1
    have e2' : b.length = c.length := Nat.succ.inj e2
    by_cases p : x = y
    · rw [if_pos p] at h1
      subst p
      by_cases q : x = z
      · rw [if_pos q] at h2 ⊢; exact lexLt_tr e1' e2' h1 h2
      · rw [if_neg q] at h2 ⊢; exact h2
    · rw [if_neg p] at h1
      have h1 := of_decide_eq_true h1
      by_cases q : y = z
      · subst q; rw [if_neg p]; exact decide_eq_true h1
      · rw [if_neg q] at h2
        have h2 := of_decide_eq_true h2
        rw [if_neg (by omega)]; exact decide_eq_true (by omega)
theorem argBest_lex {n : Nat} (key : Nat → List Int) (m : Nat) (hm : ∀ i, i ≤ n → (key i).length = m) : ∀ k, k ≤ n → argBest (fun i j => lexLt (key i) (key j)) k ≤ k ∧ ∀ j, j ≤ k → lexLt (key j) (key (argBest (fun i j => lexLt (key i) (key j)) k)) = false
  | 0, _ => ⟨Nat.le_refl _, fun j hj => by
    obtain rfl : j = 0 := by omega
    exact lexLt_irr _⟩
  | k + 1, hk => by
    obtain ⟨h1, h2⟩ := argBest_lex key m hm k (by omega)
    simp only [argBest]
    generalize argBest (fun i j => lexLt (key i) (key j)) k = b at h1 h2
    by_cases hc : lexLt (key (k + 1)) (key b) = true
    · rw [if_pos hc]
      refine ⟨Nat.le_refl _, fun j hj => ?_⟩
      rcases Nat.lt_or_ge j (k + 1) with hlt | hge
      · cases hd : lexLt (key j) (key (k + 1)) with
        | false => rfl
        | true => rw [← h2 j (by omega)]; exact (lexLt_tr (by rw [hm _ (by omega), hm _ hk]) (by rw [hm _ (by omega), hm _ (by omega)]) hd hc).symm
      · obtain rfl : j = k + 1 := by omega
        exact lexLt_irr _
    · rw [if_neg hc]
      refine ⟨by omega, fun j hj => ?_⟩
      rcases Nat.lt_or_ge j (k + 1) with hlt | hge
      · exact h2 j (by omega)
      · obtain rfl : j = k + 1 := by omega
        exact eq_false_of_ne_true hc
/-- ints, and pairs of an int and such a thing: by the ints in a row -/
inductive HLx (h : Heap) : Value → List Int → Prop where
  | int (i : Int) (t : Tok) : HLx h (.int i t) [i]
  | pr {a : Addr} {i : Int} {t : Tok} {v : Value} {l : List Int} (hT : h.IsTuple a #[.int i t, v]) (r : HLx h v l) : HLx h (.ref a) (i :: l)
theorem HLx.mono {h h' : Heap} (k : ∀ b o, h.get? b = some o → h'.get? b = some o) {v : Value} {l : List Int} (r : HLx h v l) : HLx h' v l := by
  induction r with
  | int i t => exact .int i t
  | pr hT _ ih =>
    obtain ⟨o, e, z⟩ := hT
    exact .pr ⟨o, k _ _ e, z⟩ ih
theorem HLx.pos {h : Heap} {v : Value} {l : List Int} (r : HLx h v l) : 0 < l.length := by cases r <;> exact Nat.succ_pos _
theorem HLx.fn {h : Heap} {v : Value} {l : List Int} (r : HLx h v l) : ∀ {l'}, HLx h v l' → l = l' := by
  induction r with
  | int i t => intro l' r'; cases r'; rfl
  | pr hT _ ih =>
    intro l' r'
    cases r' with
    | pr hT' r' =>
      obtain ⟨o, e, _, n, d⟩ := hT
      obtain ⟨o', e', _, n', d'⟩ := hT'
      rw [e] at e'; cases e'
      rw [d] at d'
      injection d' with d1 _
      have d2 := congrArg Array.toList d1
      simp only at d2
      injection d2 with d3 d4
      injection d3 with d5
      injection d4 with d6
      subst d5 d6
      rw [ih r']
theorem HLx.eq {s : Shared} {u : Value} {l1 : List Int} (r : HLx s.heap u l1) : ∀ {A : Around} {v : Value} {l2 : List Int}, HLx s.heap v l2 → l1.length = l2.length → A.units + l1.length < cLine → SeqAt.EqAt A s u v (decide (l1 = l2)) := by
  induction r with
  | int i t =>
    intro A v l2 r2 hl hu
    cases r2 with
    | int j t' =>
      have z : decide ([i] = [j]) = (i == j) := by by_cases q : i = j <;> simp [q]
      rw [z]
      exact SeqAt.EqAt.int_int _ _ _ _
    | pr hT r2 => have h0 := r2.pos; rw [← Nat.succ.inj hl] at h0; exact absurd h0 (Nat.lt_irrefl 0)
  | @pr a i t v1 l1 hT r1 ih =>
    intro A v l2 r2 hl hu
    cases r2 with
    | int j t' => have h0 := r1.pos; rw [Nat.succ.inj hl] at h0; exact absurd h0 (Nat.lt_irrefl 0)
    | @pr b j t' v2 l2 hT2 r2 =>
      by_cases hab : a = b
      · subst hab
        have e := (HLx.pr hT r1).fn (HLx.pr hT2 r2)
        rw [e, decide_eq_true rfl]
        exact SeqAt.EqAt.same _
      · have R := SeqAt.RcAt.tuples (A := A) (e := fun k => if k = 0 then decide (i = j) else decide (l1 = l2)) hT hT2 (by omega) fun k h1 h2 => by
          match k, h1, h2 with
          | 0, _, _ =>
            have z : (if 0 = 0 then decide (i = j) else decide (l1 = l2)) = (i == j) := by by_cases q : i = j <;> simp [q]
            rw [z]
            exact SeqAt.EqAt.int_int _ _ _ _
          | 1, _, _ =>
            exact ih r2 (Nat.succ.inj hl) (by show A.units + 1 + l1.length < cLine; rw [List.length_cons] at hu; omega)
        have z : decide (i :: l1 = j :: l2) = ((List.range (min (#[Value.int i t, v1] : Array Value).size (#[Value.int j t', v2] : Array Value).size)).all (fun k => if k = 0 then decide (i = j) else decide (l1 = l2)) && (#[Value.int i t, v1] : Array Value).size == (#[Value.int j t', v2] : Array Value).size) := by
          show _ = ((if 0 = 0 then decide (i = j) else decide (l1 = l2)) && ((if 1 = 0 then decide (i = j) else decide (l1 = l2)) && true) && true)
          by_cases q : i = j <;> by_cases q2 : l1 = l2 <;> simp [q, q2]
        rw [z]
        exact SeqAt.EqAt.of_refs hab R
theorem HLx.lt {s : Shared} {u : Value} {l1 : List Int} (r : HLx s.heap u l1) : ∀ {A : Around} {v : Value} {l2 : List Int}, HLx s.heap v l2 → l1.length = l2.length → A.units + l1.length < cLine → Ob.RcOp .Lt A s u v (lexLt l1 l2) := by
  induction r with
  | int i t =>
    intro A v l2 r2 hl hu
    cases r2 with
    | int j t' =>
      have z : lexLt [i] [j] = decide (i < j) := by by_cases q : i = j <;> simp [lexLt, q]
      rw [z]
      exact Ob.RcOp.lt_int _ _ _ _
    | pr hT r2 => have h0 := r2.pos; rw [← Nat.succ.inj hl] at h0; exact absurd h0 (Nat.lt_irrefl 0)
  | @pr a i t v1 l1 hT r1 ih =>
    intro A v l2 r2 hl hu
    rw [List.length_cons] at hu
    cases r2 with
    | int j t' => have h0 := r1.pos; rw [Nat.succ.inj hl] at h0; exact absurd h0 (Nat.lt_irrefl 0)
    | @pr b j t' v2 l2 hT2 r2 =>
      have hl' : l1.length = l2.length := Nat.succ.inj hl
      have R := Ob.RcOp.tuples_lt (A := A) (s := s) (e := fun k => if k = 0 then decide (i = j) else decide (l1 = l2)) (r := fun k => if k = 0 then decide (i < j) else lexLt l1 l2) hT hT2 (by omega) (fun k h1 h2 => by
        match k, h1, h2 with
        | 0, _, _ =>
          have z : (if 0 = 0 then decide (i = j) else decide (l1 = l2)) = (i == j) := by by_cases q : i = j <;> simp [q]
          rw [z]
          exact SeqAt.EqAt.int_int _ _ _ _
        | 1, _, _ => exact r1.eq r2 hl' (by show A.units + 1 + l1.length < cLine; omega)) (fun k h1 h2 _ => by
        match k, h1, h2 with
        | 0, _, _ => exact Ob.RcOp.lt_int _ _ _ _
        | 1, _, _ => exact ih r2 hl' (by show A.units + 1 + l1.length < cLine; omega))
      have z : lexLt (i :: l1) (j :: l2) = Ob.lexAt (fun k => if k = 0 then decide (i = j) else decide (l1 = l2)) (fun k => if k = 0 then decide (i < j) else lexLt l1 l2) (decide ((#[Value.int i t, v1] : Array Value).size < (#[Value.int j t', v2] : Array Value).size)) 0 (min (#[Value.int i t, v1] : Array Value).size (#[Value.int j t', v2] : Array Value).size) := by
        show _ = (if (if 0 = 0 then decide (i = j) else decide (l1 = l2)) = true then (if (if 1 = 0 then decide (i = j) else decide (l1 = l2)) = true then false else (if 1 = 0 then decide (i < j) else lexLt l1 l2)) else (if 0 = 0 then decide (i < j) else lexLt l1 l2))
        by_cases q : i = j
        · by_cases q2 : l1 = l2
          · simp [lexLt, q, q2, lexLt_irr]
          · simp [lexLt, q, q2]
        · simp [lexLt, q]
      rw [z]
      exact R
/-- the same of the values -/
inductive VLx (K : PySem.W.Frag) (H : Hp) : L2.V → List Int → Prop where
  | int (i : Int) : VLx K H (.int i) [i]
  | pr {a : Addr} {i : Int} {v : L2.V} {l : List Int} (hT : SqT K H a [.int i, v]) (r : VLx K H v l) : VLx K H (.ref a) (i :: l)
/-- the same of the data -/
inductive Lx : D → List Int → Prop where
  | int (i : Int) : Lx (.int i) [i]
  | pr {i : Int} {d : D} {l : List Int} (r : Lx d l) : Lx (.tup [.int i, d]) (i :: l)
theorem VLx.heap {X : Cx} {pins : List (Addr × Obj)} {σ : L2.St} {H : Hp} {s : Shared} (I : Inv X pins σ H s) {v : L2.V} {l : List Int} (r : VLx X.K H v l) : ∀ {u : Value}, RelV v u → HLx s.heap u l := by
  induction r with
  | int i => rintro u ⟨t, rfl⟩; exact .int i t
  | pr hT _ ih =>
    rintro u rfl
    obtain ⟨its, rv, ht, _⟩ := I.tuple hT
    cases rv with
    | cons h1 rv =>
      cases rv with
      | cons h2 rv =>
        cases rv
        obtain ⟨t, rfl⟩ := h1
        exact .pr ht (ih h2)
theorem Lx.val {K : PySem.W.Frag} {S H : Hp} (e : Ex S H) {d : D} {l : List Int} (x : Lx d l) : ∀ {v : L2.V}, Rep K S v d → VLx K H v l := by
  induction x with
  | int i => intro v r; cases r; exact .int i
  | pr _ ih =>
    intro v r
    cases r with
    | tup h r =>
      cases r with
      | cons h1 r =>
        cases r with
        | cons h2 r =>
          cases r
          cases h1
          exact .pr (SqT.of (e _ _ h)) (ih h2)
def rMinT (X : Cx) : List L2.V → Hp → VK → Prop := fun vs H Q => ∃ (a : Addr) (us : List L2.V) (key : Nat → List Int) (m : Nat), vs = [.ref a] ∧ SqL X.K H a us ∧ 0 < us.length ∧ X.A.units + 1 + m < cLine ∧
  (∀ i v, us[i]? = some v → VLx X.K H v (key i) ∧ (key i).length = m) ∧ ∀ i v, us[i]? = some v → (∀ j, j < us.length → lexLt (key j) (key i) = false) → Q v H
theorem cr_minT {X : Cx} (hc : X.calm = true) : CallR X (.builtin "min") (rMinT X) := by
  intro pins s σ H vs ws Q I r h
  obtain ⟨a, us, key, m, rfl, hs, hne, hu, hv, q⟩ := h
  obtain ⟨its, rv, hl, _⟩ := I.list hs
  rw [Vals.ref1 r]
  have hlen : us.length = its.length := rv.length
  have get : ∀ i u, its[i]? = some u → ∃ v, us[i]? = some v ∧ RelV v u := fun i u e => by
    have h1 := (List.getElem?_eq_some_iff.mp e).1
    have h2 : us[i]? = some us[i] := List.getElem?_eq_getElem (by omega)
    obtain ⟨u', e', r'⟩ := rv.get h2
    rw [e] at e'
    cases e'
    exact ⟨_, h2, r'⟩
  refine minK_list (bt := fun i j => lexLt (key i) (key j)) (I.ok.hd hc) hl.isList (by rw [List.size_toArray]; omega) (fun i j vi vj s' Q' E' hK hi hj hq => ?_) fun v h' tk hb hk => ?_
  · obtain ⟨xi, ei, ri⟩ := get i vi (by simpa using hi)
    obtain ⟨xj, ej, rj⟩ := get j vj (by simpa using hj)
    obtain ⟨ki, li⟩ := hv i xi ei
    obtain ⟨kj, lj⟩ := hv j xj ej
    exact HLx.lt (s := s') ((ki.heap I ri).mono hK) ((kj.heap I rj).mono hK) (by rw [li, lj]) (by show X.A.units + 1 + _ < _; rw [li]; exact hu) _ _ _ _ hq
  · obtain ⟨x, e, rx⟩ := get _ v (by simpa using hb)
    have hm : ∀ i, i ≤ its.toArray.size - 1 → (key i).length = m := fun i hi => by
      rw [List.size_toArray] at hi
      exact (hv i _ (List.getElem?_eq_getElem (by omega))).2
    obtain ⟨_, h2⟩ := argBest_lex key m hm _ (Nat.le_refl _)
    exact ⟨x, H, I.kept hk, rx, q _ x e fun j hj => h2 j (by rw [List.size_toArray]; omega)⟩
section
variable {X : Cx} {F : Fm} {G : List Sl} {Kk : D → List Sl → Prop}
/-- min of a list of ints in rows -/
theorem xc_minT {α : Type} {xs : List α} {f : α → D} (key : α → List Int) (m : Nat) (hc : X.calm = true) (hu : X.A.units + 1 + m < cLine) (hne : 0 < xs.length) (hk : ∀ x ∈ xs, Lx (f x) (key x) ∧ (key x).length = m)
    (k : ∀ x ∈ xs, (∀ y ∈ xs, lexLt (key y) (key x) = false) → Kk (f x) G) : XC X F (.builtin "min") [.lst (xs.map f)] G Kk :=
  ⟨_, cr_minT hc, fun S H σ vs I r => by
    cases r with
    | cons h t =>
      cases t
      cases h with
      | @lst a us _ h r =>
        have hlen : us.length = xs.length := by rw [r.length, List.length_map]
        have get : ∀ i v, us[i]? = some v → ∃ x, xs[i]? = some x ∧ Rep X.K S v (f x) := fun i v e => by
          obtain ⟨d, ed, rd⟩ := r.getV e
          rw [List.getElem?_map] at ed
          obtain ⟨x, ex, rfl⟩ := Option.map_eq_some_iff.mp ed
          exact ⟨x, ex, rd⟩
        refine ⟨a, us, fun i => (xs[i]?.map key).getD [], m, rfl, SqL.of (I.fr.ex _ _ h), by omega, hu, fun i v e => ?_, fun i v e hb => ?_⟩
        · obtain ⟨x, ex, rx⟩ := get i v e
          obtain ⟨z, l⟩ := hk x (List.mem_of_getElem? ex)
          have ek : (xs[i]?.map key).getD [] = key x := by rw [ex]; rfl
          show VLx X.K H v ((xs[i]?.map key).getD []) ∧ ((xs[i]?.map key).getD []).length = m
          rw [ek]
          exact ⟨z.val I.fr.ex rx, l⟩
        · obtain ⟨x, ex, rx⟩ := get i v e
          refine .at I Ex.rfl' rx (k x (List.mem_of_getElem? ex) fun y hy => ?_)
          obtain ⟨j, hj, ej⟩ := List.mem_iff_getElem.mp hy
          have z : lexLt ((xs[j]?.map key).getD []) ((xs[i]?.map key).getD []) = false := hb j (by omega)
          rw [ex, List.getElem?_eq_getElem hj, ej] at z
          exact z⟩
end
end Pu

namespace Pu
open PySem PySem.Spec PyProof.Rows L2
/-- the promise of a def that changes its last argument alone: R arguments content (what is true of the result and the content) -/
def SpC (K : PySem.W.Frag) (R : List D → D → (D → D → Prop) → Prop) : Sp := fun vs H Q _ => ∃ S b o c ws ds Φ, vs = ws ++ [.ref b] ∧ Ex S H ∧ S b = none ∧ H b = some o ∧ CRep K S o c ∧ Reps K S ws ds ∧ R ds c Φ ∧
  ∀ v S' H' o' d c', Ex S S' → Ex S' H' → (∀ a u, a ≠ b → H a = some u → H' a = some u) → (∀ a, S' a ≠ none → S a ≠ none ∨ H a = none ∨ ∃ vs, H a = some (.tup vs)) → S' b = none → H' b = some o' → CRep K S' o' c' → Rep K S' v d → Φ d c' → Q v H'
section
variable {X : Cx} {F : Fm} {G : List Sl} {Kk : D → List Sl → Prop} {pos : Pos}
/-- f(e0, e1, x), x the slot's own -/
theorem xe_callC2 (i : Nat) {R : List D → D → (D → D → Prop) → Prop} {k : Nat} {f : Addr} {fd : FuncData} {ps : List Str} {x y : Str} {e0 e1 : Expr} {p p2 : Pos} (Fk : FnOk X.prog X.w X.K X.mg X.base CX0 k f fd ps (SpC X.K R)) (hr : Room k X.A) (hm : X.mg x = some (.ref f)) (hk : PySem.W.keepIn X.K (.ref f) = true) (hb : Binds X.K fd ps [])
    (h : XE X F e0 G fun d0 G1 => XE X F e1 G1 fun d1 G2 => ∃ q c Φ, G2[i]? = some (.ow q c) ∧ R [d0, d1] c Φ ∧ ∀ d c', Φ d c' → Kk d (G2.set i (.ow q c'))) (hg : Gl X x := by rfl) (hdb : (x == ("__debug__" : Str)) = false := by decide)
    (hN : X.N[i]? = some y := by rfl) (hv : Vis X.env.scope y := by first | exact Or.inl rfl | exact Or.inr (Or.inl rfl) | exact Or.inr (Or.inr rfl)) (hd : (y == ("__debug__" : Str)) = false := by decide) (hcd : (y == ("__classdict__" : Str)) = false := by decide)
    (he : starEach [e0, e1, .Name y p2] X.env = (false, eval e0 X.env) :: starEach [e1, .Name y p2] X.env := by rfl) (he1 : starEach [e1, .Name y p2] X.env = (false, eval e1 X.env) :: starEach [.Name y p2] X.env := by rfl) (he2 : starEach [.Name y p2] X.env = (false, eval (.Name y p2) X.env) :: starEach [] X.env := by rfl)
    (hpl : (backTo pos (starEach [e1, .Name y p2] X.env)).any (·.1) = false := by rfl) : XE X F (.Call (.Name x p) [e0, e1, .Name y p2] [] pos) G Kk := by
  intro S H σ I
  refine semE_of (pe_call Fk hr hg hm hk hb .nil pass0 (pa_cons pe_sem (pa_cons pe_sem (pa_cons (pe_var hN hv hd hcd) pa_nil he2) he1) he) hdb he hpl) ?_
  refine semE_mono (h S H σ I) fun v0 H0 ⟨d0, G0, S0, I0, ex0, r0, q0⟩ => ?_
  refine semE_mono (q0 S0 H0 σ I0) fun v1 H1 ⟨d1, G1, S1, I1, ex1, r1, q0, c, Φ, g1, hR, k⟩ => ?_
  obtain ⟨b, o, eb, n, hb', ho, rc⟩ := I1.ow g1
  refine ⟨_, eb, ?_⟩
  show SpC X.K R [v0, v1, L2.V.ref b] H1 _ E0
  refine ⟨S1, b, o, c, [v0, v1], [d0, d1], Φ, rfl, I1.fr.ex, n, ho, rc, .cons (r0.mono ex1) (.cons r1 .nil), hR, fun v S' H' o' d c' a1 a2 a3 a4 a5 a6 a7 rv hd => ?_⟩
  refine .at ?_ ((ex0.tr ex1).tr a1) rv (k d c' hd)
  have hb2 : H' = upd (fun a => if a = b then some o else H' a) b o' := by
    funext a
    by_cases ha : a = b
    · subst ha; rw [upd_same]; exact a6
    · rw [upd_ne ha]; exact (if_neg ha).symm
  have I2 : IV X.K F G1 S' (fun a => if a = b then some o else H' a) σ := by
    refine I1.called a1 (fun a u q => ?_) (fun a u q => ?_) a4
    · show (if a = b then some o else H' a) = some u
      rw [if_neg (fun z => by subst z; rw [a5] at q; cases q)]
      exact a2 a u q
    · show (if a = b then some o else H' a) = some u
      by_cases ha : a = b
      · subst ha; rw [if_pos rfl]; rw [ho] at q; exact q
      · rw [if_neg ha]; exact a3 a u ha q
  rw [hb2]
  exact I2.write g1 eb a7
end
section
variable {P : Program} {w : World} {K : PySem.W.Frag} {mg : Str → Option Value} {base : Heap}
theorem fn_okC {N ps : List Str} {nm : Str} {st : Stmt} {f : Addr} {fd : FuncData} {k : Nat} {R : List D → D → (D → D → Prop) → Prop} (Fn : Fun K nm nm st f fd) (Sc : FnScope N ps (defScope st)) (len : ∀ ds c Φ, R ds c Φ → ds.length + 1 = ps.length)
    (body : ∀ cdv A outer s H E F, Room k (A.deeper (envOfC nm (defScope st) s.heap.objs.size f cdv)) → ∀ ds c Φ, R ds c Φ →
      XSs (CXf P w K mg base N nm st f cdv A outer s H E) F (defBody st) (ds.map Sl.va ++ .ow true c :: List.replicate (N.length - (ds.length + 1)) .no) { nx := fun G => ∃ c', G[ds.length]? = some (.ow true c') ∧ Φ .non c', rt := fun d' G => ∃ c', G[ds.length]? = some (.ow true c') ∧ Φ d' c' }) : FnOk P w K mg base CX0 (k + 1) f fd ps (SpC K R) := by
  refine Fn.ok Sc (fun vs H Q E h => ?_) (fun cdv A outer s H vs Q E hr h => ?_)
  · obtain ⟨S, b, o, c, ws, ds, Φ, rfl, _, _, _, _, r, hR, _⟩ := h
    rw [List.length_append, r.length]
    exact len ds c Φ hR
  · obtain ⟨S, b, o, c, ws, ds, Φ, rfl, e, hb, ho, rc, r, hR, q⟩ := h
    refine ⟨_, pss_sem, ?_⟩
    have fr : Frame ⟨H, S, [b]⟩ S H := ⟨e, Ex.rfl', fun a o h _ => h, fun a h => .inl h, fun a ha => by
      have ea : a = b := by simpa using ha
      subst ea; exact ⟨o, ho, rc.nt⟩⟩
    have fin : ∀ (v : L2.V) (d' c' : D) G S' H' σ, IV K ⟨H, S, [b]⟩ G S' H' σ → Rep K S' v d' → Φ d' c' → G[ds.length]? = some (.ow true c') → Q v H' := fun v d' c' G S' H' σ I rv ed eg => by
      obtain ⟨p, o', ep, n, hb', ho', rc'⟩ := I.ow eg
      have epb : p = b := by
        rcases hb' with ⟨z, _⟩ | ⟨_, z⟩
        · cases z
        · simpa using z
      subst epb
      exact q v S' H' o' d' c' I.fr.old I.fr.ex (fun a u hne h => I.fr.fr a u h (by simpa using hne)) I.fr.new n ho' rc' rv ed
    refine body cdv A outer s H E ⟨H, S, [b]⟩ hr ds c Φ hR S H (L2.start N (ws ++ [.ref b])) _ ?_ ⟨fun G S' H' σ I _ ed => ?_, fun d' v G S' H' σ I _ rv ed => ?_, fun _ _ _ _ _ _ z => z.elim, fun _ _ _ _ _ _ z => z.elim, fun _ _ _ _ _ _ _ _ _ _ _ _ _ z => z.elim⟩
    · have es : L2.start N (ws ++ [.ref b]) = ws.map some ++ some (.ref b) :: List.replicate (N.length - (ds.length + 1)) none := by
        unfold L2.start
        rw [List.map_append, List.append_assoc, List.length_append, r.length]; rfl
      rw [es]
      generalize N.length - (ds.length + 1) = m
      have own : ∀ (i : Nat) q c0, (ds.map Sl.va ++ Sl.ow true c :: List.replicate m Sl.no)[i]? = some (.ow q c0) → i = ds.length := fun i q c0 z => by
        rcases Nat.lt_trichotomy i ds.length with h | h | h
        · rw [List.getElem?_append_left (by rw [List.length_map]; exact h), List.getElem?_map, List.getElem?_eq_getElem h] at z
          cases z
        · exact h
        · rw [List.getElem?_append_right (by rw [List.length_map]; omega), List.length_map] at z
          obtain ⟨j, hj⟩ : ∃ j, i - ds.length = j + 1 := ⟨i - ds.length - 1, by omega⟩
          rw [hj, List.getElem?_cons_succ] at z
          have := List.eq_of_mem_replicate (List.mem_of_getElem? z)
          cases this
      refine ⟨fr, by simp [r.length], fun _ => b, fun i s hs => ?_, fun i j q1 c1 q2 c2 hi hj _ => by rw [own i _ _ hi, own j _ _ hj]⟩
      rcases Nat.lt_trichotomy i ds.length with h | h | h
      · have hv : i < ws.length := by rw [r.length]; exact h
        rw [List.getElem?_append_left (by rw [List.length_map]; exact h), List.getElem?_map] at hs
        rw [List.getElem?_append_left (by rw [List.length_map]; exact hv), List.getElem?_map]
        obtain ⟨v, ev, rv⟩ := r.get (List.getElem?_eq_getElem h)
        rw [List.getElem?_eq_getElem h] at hs
        cases hs
        rw [ev]
        exact ⟨v, rfl, rv⟩
      · subst h
        rw [List.getElem?_append_right (by rw [List.length_map]; exact Nat.le_refl _), List.length_map, Nat.sub_self] at hs
        cases hs
        have z : (ws.map some ++ some (L2.V.ref b) :: List.replicate m none)[ds.length]? = some (some (.ref b)) := by
          rw [← r.length, List.getElem?_append_right (by rw [List.length_map]; exact Nat.le_refl _), List.length_map, Nat.sub_self]; rfl
        exact ⟨by rw [z]; rfl, hb, .inr ⟨rfl, by simp⟩, o, ho, rc⟩
      · rw [List.getElem?_append_right (by rw [List.length_map]; omega), List.length_map] at hs
        obtain ⟨j, hj⟩ : ∃ j, i - ds.length = j + 1 := ⟨i - ds.length - 1, by omega⟩
        rw [hj, List.getElem?_cons_succ] at hs
        rw [List.eq_of_mem_replicate (List.mem_of_getElem? hs)]
        trivial
    · obtain ⟨c', e1, e2⟩ := ed
      exact fin .non .non c' G S' H' σ I .non e2 e1
    · obtain ⟨c', e1, e2⟩ := ed
      exact fin v d' c' G S' H' σ I rv e2 e1
end
/-- the frame in which what lies at p is the def's own -/
def Fm.hide (F : Fm) (p : Addr) : Fm := ⟨delH F.H0 p, F.S0, F.B.filter fun a => decide (a ≠ p)⟩
theorem mem_hide {F : Fm} {p a : Addr} : a ∈ (F.hide p).B ↔ a ∈ F.B ∧ a ≠ p := by
  show a ∈ F.B.filter _ ↔ _
  rw [List.mem_filter]
  exact ⟨fun ⟨h1, h2⟩ => ⟨h1, of_decide_eq_true h2⟩, fun ⟨h1, h2⟩ => ⟨h1, decide_eq_true h2⟩⟩
theorem set_at {T : List Sl} {i j : Nat} {s0 s : Sl} (h : (T.set i s0)[j]? = some s) : (j = i ∧ s = s0) ∨ (j ≠ i ∧ T[j]? = some s) := by
  by_cases hij : i = j
  · subst hij
    have hl : i < T.length := by
      have := (List.getElem?_eq_some_iff.mp h).1
      rwa [List.length_set] at this
    rw [List.getElem?_set_self hl] at h
    exact .inl ⟨rfl, (Option.some.inj h).symm⟩
  · rw [List.getElem?_set_ne hij] at h
    exact .inr ⟨fun z => hij z.symm, h⟩
theorem delH_some {S : Hp} {p a : Addr} {o : HO} (h : delH S p a = some o) : S a = some o ∧ a ≠ p := by
  unfold delH at h
  by_cases e : a = p
  · rw [if_pos e] at h; cases h
  · rw [if_neg e] at h; exact ⟨h, e⟩
theorem IV.hide {K : PySem.W.Frag} {F : Fm} {G : List Sl} {S H : Hp} {σ : L2.St} (I : IV K F G S H σ) {i : Nat} {c : D} (hG : G[i]? = some (.ow true c)) :
    ∃ p, (σ[i]?).bind id = some (.ref p) ∧ p ∈ F.B ∧ IV K (F.hide p) (G.set i (.ow false c)) S H σ := by
  obtain ⟨ad, h1, h2⟩ := I.sl
  obtain ⟨ev, n, hb, o, ho, rc⟩ := h1 i _ hG
  have hB : ad i ∈ F.B := by
    rcases hb with ⟨z, _⟩ | ⟨_, z⟩
    · cases z
    · exact z
  refine ⟨ad i, ev, hB, ⟨I.fr.ex, I.fr.old, fun a u q hb => ?_, fun a q => ?_, fun b hb => I.fr.bor b (mem_hide.mp hb).1⟩, by rw [List.length_set]; exact I.len, ad, fun j s hs => ?_, fun j k q1 c1 q2 c2 hj hk e => ?_⟩
  · obtain ⟨q', ne⟩ := delH_some q
    exact I.fr.fr a u q' fun z => hb (mem_hide.mpr ⟨z, ne⟩)
  · rcases I.fr.new a q with z | z | ⟨vs, z⟩
    · exact .inl z
    · refine .inr (.inl ?_)
      show delH F.H0 _ a = none
      unfold delH
      split
      · rfl
      · exact z
    · by_cases e : a = ad i
      · subst e
        exact absurd n q
      · exact .inr (.inr ⟨vs, delH_ne z e⟩)
  · rcases set_at hs with ⟨rfl, rfl⟩ | ⟨ne, hs⟩
    · exact ⟨ev, n, .inl ⟨rfl, delH_at⟩, o, ho, rc⟩
    · have q := h1 j s hs
      cases s with
      | no => trivial
      | va d => exact q
      | ow qq cc =>
        obtain ⟨ev', nn, hb', rest⟩ := q
        have ne' : ad j ≠ ad i := fun z => ne (h2 j i _ _ _ _ hs hG z)
        refine ⟨ev', nn, ?_, rest⟩
        rcases hb' with ⟨z1, z2⟩ | ⟨z1, z2⟩
        · refine .inl ⟨z1, ?_⟩
          show delH F.H0 _ _ = none
          unfold delH
          rw [if_neg ne']
          exact z2
        · exact .inr ⟨z1, mem_hide.mpr ⟨z2, ne'⟩⟩
  · rcases set_at hj with ⟨ej, _⟩ | ⟨nj, hj'⟩
    · rcases set_at hk with ⟨ek, _⟩ | ⟨nk, hk'⟩
      · rw [ej, ek]
      · exact h2 j k _ _ _ _ (by rw [ej]; exact hG) hk' e
    · rcases set_at hk with ⟨ek, _⟩ | ⟨nk, hk'⟩
      · exact h2 j k _ _ _ _ hj' (by rw [ek]; exact hG) e
      · exact h2 j k _ _ _ _ hj' hk' e
theorem IV.show {K : PySem.W.Frag} {F : Fm} {T : List Sl} {S H : Hp} {σ : L2.St} {i : Nat} {c : D} {p : Addr} (I : IV K (F.hide p) T S H σ) (ep : (σ[i]?).bind id = some (.ref p)) (hB : p ∈ F.B) (hT : T[i]? = some (.ow false c)) :
    IV K F (T.set i (.ow true c)) S H σ := by
  obtain ⟨ad, h1, h2⟩ := I.sl
  obtain ⟨ev, n, _, o, ho, rc⟩ := h1 i _ hT
  have ea : ad i = p := by rw [ep] at ev; injection ev with z; injection z with z; exact z.symm
  rw [ea] at n ho
  refine ⟨⟨I.fr.ex, I.fr.old, fun a u q hb => ?_, fun a q => ?_, fun b hb => ?_⟩, by rw [List.length_set]; exact I.len, ad, fun j s hs => ?_, fun j k q1 c1 q2 c2 hj hk e => ?_⟩
  · exact I.fr.fr a u (delH_ne q fun z => hb (by rw [z]; exact hB)) fun z => hb (mem_hide.mp z).1
  · have ne : a ≠ p := fun z => by subst z; exact q n
    rcases I.fr.new a q with z | z | ⟨vs, z⟩
    · exact .inl z
    · refine .inr (.inl ?_)
      have z' : delH F.H0 p a = none := z
      unfold delH at z'
      rw [if_neg ne] at z'
      exact z'
    · exact .inr (.inr ⟨vs, (delH_some z).1⟩)
  · by_cases e : b = p
    · subst e; exact ⟨o, ho, rc.nt⟩
    · exact I.fr.bor b (mem_hide.mpr ⟨hb, e⟩)
  · rcases set_at hs with ⟨rfl, rfl⟩ | ⟨ne, hs⟩
    · rw [ea]
      exact ⟨ep, n, .inr ⟨rfl, hB⟩, o, ho, rc⟩
    · have q := h1 j s hs
      cases s with
      | no => trivial
      | va d => exact q
      | ow qq cc =>
        obtain ⟨ev', nn, hb', rest⟩ := q
        have ne' : ad j ≠ p := fun z => ne (h2 j i _ _ _ _ hs hT (by rw [z, ea]))
        refine ⟨ev', nn, ?_, rest⟩
        rcases hb' with ⟨z1, z2⟩ | ⟨z1, z2⟩
        · refine .inl ⟨z1, ?_⟩
          have z' : delH F.H0 p (ad j) = none := z2
          unfold delH at z'
          rw [if_neg ne'] at z'
          exact z'
        · exact .inr ⟨z1, (mem_hide.mp z2).1⟩
  · rcases set_at hj with ⟨ej, _⟩ | ⟨nj, hj'⟩
    · rcases set_at hk with ⟨ek, _⟩ | ⟨nk, hk'⟩
      · rw [ej, ek]
      · exact h2 j k _ _ _ _ (by rw [ej]; exact hT) hk' e
    · rcases set_at hk with ⟨ek, _⟩ | ⟨nk, hk'⟩
      · exact h2 j k _ _ _ _ hj' (by rw [ek]; exact hT) e
      · exact h2 j k _ _ _ _ hj' hk' e
/-- what is lent is the def's own for the time of an expression -/
theorem xe_hide {X : Cx} {F : Fm} {G : List Sl} {Kk : D → List Sl → Prop} {e : Expr} (i : Nat) {c : D} (hG : G[i]? = some (.ow true c))
    (h : ∀ F', XE X F' e (G.set i (.ow false c)) fun d T => ∃ c', T[i]? = some (.ow false c') ∧ Kk d (T.set i (.ow true c'))) : XE X F e G Kk := by
  intro S H σ I
  obtain ⟨p, ep, hB, I1⟩ := I.hide hG
  exact semE_mono (h _ S H σ I1) fun v H' ⟨d, T, S', I', e', r, c', hT, k⟩ => ⟨d, _, S', I'.show ep hB hT, e', r, k⟩
end Pu

namespace Pu
open PySem PySem.Spec PyProof.Rows L2
theorem kv_vals {κ : Type} {kvs : List (κ × L2.V)} {vs : List (κ × Value)} (r : KV kvs vs) : Vals (kvs.map (·.2)) (vs.map (·.2)) := by
  unfold KV at r
  induction r with
  | nil => exact .nil
  | cons r t ih => exact .cons r.2 ih
/-- list(e.values()) -/
def tListVals (td : TE) : TE := fun σ H Q => td σ H fun x H1 => ∃ a kvs, x = L2.V.ref a ∧ H1 a = some (.dK kvs) ∧ ∀ p, H1 p = none → Q (.ref p) (upd H1 p (.lst (kvs.map (·.2))))
section
variable {X : Cx} {F : Fm} {G : List Sl} {Kk : D → List Sl → Prop} {e : Expr} {te : TE} {p apos cpos pos : Pos}
theorem pe_listVals (hc : X.calm = true) (he : PE X e te) (hg : Gl X "list") (hm : X.mg "list" = none) (hv : bootBuiltins "list" = some (.type "list")) (hbase : attributeBase e "values" X.env (eval e X.env) = eval e X.env := by rfl) (hline : (apos.endLine == cpos.line) = true := by rfl)
    (hs : starEach [.Call (.Attribute e "values" apos) [] [] cpos] X.env = (false, eval (.Call (.Attribute e "values" apos) [] [] cpos) X.env) :: starEach [] X.env := by rfl) :
    PE X (.Call (.Name "list" p) [.Call (.Attribute e "values" apos) [] [] cpos] [] pos) (tListVals te) := by
  refine ⟨fun pins s σ H Q I hq => ?_⟩
  refine wpAny_Call_Name_kw (ld_blt I hg hm hv ?_)
  refine PyProof.Rows.callWith_type1 ?_ hs rfl
  rw [hs]
  show wpAny _ _ (spliced ((false, eval (.Call (.Attribute e "values" apos) [] [] cpos) X.env) :: backTo pos (starEach [] X.env))) _ _ s
  refine Calls.spliced_cons ?_
  refine wpAny_Call_method (T := "dict") (id := "dict.values") hbase rfl hline F.plainAttrs_dict F.slot_dict_values F.type_dict_values (thn (he.run pins s σ H _ I hq) fun u s1 ⟨x, H1, I1, rx, d, kvs, ex, hd, q⟩ => ?_)
  subst ex
  obtain rfl : u = Value.ref d := rx
  obtain ⟨hz, hs0, vs, kv, hdo⟩ := I1.hok d _ hd
  obtain ⟨ep, hat⟩ := hdo.dictAt
  have lk : kvs.length = vs.length := Paired.length kv
  have I2 : Inv X pins σ H1 { s1 with heap := s1.heap.push { cls := .type "dict_values", data := .fields #[.ref d] } } := I1.kept (t' := s1.toks) fun b ob q => Heap.get?_push_of_some _ q
  refine ⟨hdo.typeIs, hdo.mapOf.noDict, ?_⟩
  show wpAny _ _ (callWith cpos (.builtin "dict.values") [.ref d] [] []) _ X.xe s1
  refine method_meetsIn F.slot_dict_values F.entry_dict_values rfl (PySem.evalArgs_none ⟨rfl, hdo.typeIs, F.args_dict_values_1 _, _, meets_dict_values (mixKind X.prog X.w) d hs0, ⟨vs, hdo⟩, ?_⟩)
  refine Calls.spliced_nil ?_
  refine PySem.W.kdl_call (PySem.W.kdl_values (knd := mixKind X.prog X.w) (kvs := vs) (ep := ep) (d := d)) (I1.ok.hd hc) ⟨⟨_, Heap.get?_push_size _ rfl, rfl, rfl⟩, hat.push _⟩ (by omega) fun h' tk acc c hk hS hacc => ?_
  have ea : acc.toList = vs.map (·.2) := by
    apply List.ext_getElem?
    intro j
    rw [List.getElem?_map, Array.getElem?_toList]
    cases e1 : acc[j]? with
    | none =>
      have : acc.size ≤ j := Array.getElem?_eq_none_iff.mp e1
      rw [List.getElem?_eq_none (by rw [← hacc.1]; exact this)]; rfl
    | some v =>
      obtain ⟨k, ek⟩ := hacc.2 j v e1
      rw [ek]; rfl
  exact ⟨.ref _, upd H1 _ (.lst (kvs.map (·.2))), I2.laid (o := .lst (kvs.map (·.2))) hk (Nat.le_refl _) ⟨by rw [List.length_map]; exact hz, acc.toList, c, by rw [ea]; exact kv_vals kv, by rw [Array.toArray_toList]; exact hS⟩, rfl, q _ (I2.hok.fresh (Nat.le_refl _))⟩
/-- list(x.values()), x the slot's own dict -/
theorem xe_listVals (i : Nat) {x : Str} {p1 : Pos} {q : Bool} {kds : List (Key × D)} (hc : X.calm = true) (hm : X.mg "list" = none) (hG : G[i]? = some (.ow q (.dk kds))) (h : Kk (.lst (kds.map (·.2))) G)
    (hg : Gl X "list" := by rfl) (hv : bootBuiltins "list" = some (.type "list") := by first | exact boot_list | rfl | decide +kernel)
    (hN : X.N[i]? = some x := by rfl) (hvis : Vis X.env.scope x := by first | exact Or.inl rfl | exact Or.inr (Or.inl rfl) | exact Or.inr (Or.inr rfl)) (hd : (x == ("__debug__" : Str)) = false := by decide) (hcd : (x == ("__classdict__" : Str)) = false := by decide)
    (hbase : attributeBase (.Name x p1) "values" X.env (eval (.Name x p1) X.env) = eval (.Name x p1) X.env := by rfl) (hline : (apos.endLine == cpos.line) = true := by rfl)
    (hs : starEach [.Call (.Attribute (.Name x p1) "values" apos) [] [] cpos] X.env = (false, eval (.Call (.Attribute (.Name x p1) "values" apos) [] [] cpos) X.env) :: starEach [] X.env := by rfl) :
    XE X F (.Call (.Name "list" p) [.Call (.Attribute (.Name x p1) "values" apos) [] [] cpos] [] pos) G Kk := by
  intro S H σ I
  obtain ⟨b, o, eb, n, hb, ho, rc⟩ := I.ow hG
  cases rc with
  | @dk kvs _ ek rs =>
  refine semE_of (pe_listVals hc (pe_var hN hvis hd hcd) hg hm hv hbase hline hs) ?_
  refine ⟨_, eb, b, kvs, rfl, ho, fun p hp => ?_⟩
  obtain ⟨I2, e2⟩ := I.alloc (o := .lst (kvs.map (·.2))) hp
  exact .at I2 e2 (.lst upd_same (rs.mono e2)) h
end
end Pu

namespace Pu
open PySem PySem.Spec PyProof.Rows L2
section
variable {X : Cx} {F : Fm} {G : List Sl}
theorem lock_core (i : Nat) {kds : List (Key × D)} {st : Stmt} {Q : List Sl → Prop} (hG : G[i]? = some (.ow false (.dk kds)))
    (h : ∀ F' p, Lkd X.K F' p kds → XS X F' st (G.set i (.va (.adr p))) { nx := fun T => T[i]? = some (.va (.adr p)) ∧ Q T, rt := fun _ _ => False }) {S H : Hp} {σ : L2.St} {E : Ends} (I : IV X.K F G S H σ)
    (fin : ∀ T S' H' σ', IV X.K F (T.set i (.ow false (.dk kds))) S' H' σ' → Ex S S' → (σ'[i]?).bind id = (σ[i]?).bind id → i < T.length → Q T → E.nx σ' H') : semS X st E σ H := by
  obtain ⟨p, o, ep, n, hb, ho, rc⟩ := I.ow hG
  have h0 : F.H0 p = none := by
    rcases hb with ⟨_, z⟩ | ⟨z, _⟩
    · exact z
    · cases z
  have hS0 : F.S0 p = none := by
    cases e : F.S0 p with
    | none => rfl
    | some u => have := I.fr.old p u e; rw [n] at this; cases this
  cases rc with
  | @dk kvs _ ek rs =>
  refine semS_of (ps_lock ps_sem) ⟨p, .dK kvs, ho, True.intro, fun od => ?_⟩
  have hil : i < G.length := (List.getElem?_eq_some_iff.mp hG).1
  have Iw : IV X.K F (G.set i .no) S H σ := I.weak (by rw [List.length_set]) fun j s hs' => by
    by_cases hij : i = j
    · subst hij; rw [List.getElem?_set_self hil] at hs'; exact .inl (Option.some.inj hs').symm
    · rw [List.getElem?_set_ne hij] at hs'; exact .inr hs'
  have no : NoOwn (G.set i .no) σ p := fun j q c hj z => by
    obtain ⟨ad, h1, h2⟩ := I.sl
    by_cases hij : i = j
    · subst hij; rw [List.getElem?_set_self hil] at hj; cases hj
    · rw [List.getElem?_set_ne hij] at hj
      obtain ⟨evj, _⟩ := h1 j _ hj
      obtain ⟨evi, _⟩ := h1 i _ hG
      rw [z] at evj
      have eq1 : p = ad j := L2.V.ref.inj (Option.some.inj evj)
      rw [ep] at evi
      have eq2 : p = ad i := L2.V.ref.inj (Option.some.inj evi)
      exact hij (h2 i j _ _ _ _ hG hj (eq2.symm.trans eq1))
  have I0 : IV X.K F (G.set i .no) S (upd H p (.frz od (.dK kvs))) σ := Iw.wr3 n h0 no (fun vs z => by cases z)
  have e1 : Ex S (upd S p (.frz od (.dK kvs))) := Ex.new n
  have I1 : IV X.K F (G.set i .no) (upd S p (.frz od (.dK kvs))) (upd H p (.frz od (.dK kvs))) σ := I0.frz2 n h0 upd_same no
  have Ik := I1.know ep (.adr p)
  rw [List.set_set] at Ik
  have Iin : IV X.K ⟨F.H0, upd S p (.frz od (.dK kvs)), F.B⟩ (G.set i (.va (.adr p))) (upd S p (.frz od (.dK kvs))) (upd H p (.frz od (.dK kvs))) σ := by
    obtain ⟨fr, len, ad, a1, a2⟩ := Ik
    exact ⟨⟨fr.ex, Ex.rfl', fr.fr, fun a h => .inl h, fr.bor⟩, len, ad, a1, a2⟩
  refine h _ p ⟨od, kvs, upd_same, ek, rs.mono e1⟩ _ _ σ _ Iin ⟨fun T S' H' σ' I' e' ⟨hT, k⟩ => ?_, fun _ _ _ _ _ _ _ _ _ z => z.elim, fun _ _ _ _ _ _ z => z.elim, fun _ _ _ _ _ _ z => z.elim, fun _ _ _ _ _ _ _ _ _ _ _ _ _ z => z.elim⟩
  have hS' : S' p = some (.frz od (.dK kvs)) := e' p _ upd_same
  have hH' : H' p = some (.frz od (.dK kvs)) := I'.fr.ex p _ hS'
  refine ⟨hH', ?_⟩
  have I4 : IV X.K F T S' H' σ' := by
    obtain ⟨fr, len, ad, a1, a2⟩ := I'
    exact ⟨⟨fr.ex, I1.fr.old.tr fr.old, fr.fr, fun a h => (fr.new a h).elim (fun z => I1.fr.new a z) .inr, fr.bor⟩, len, ad, a1, a2⟩
  have hu : ∀ xs : List L2.V, HO.dK kvs ≠ .lst xs := fun xs z => by cases z
  have no' : NoOwn T σ' p := fun j q c hj z => by
    obtain ⟨ad, a1, _⟩ := I'.sl
    obtain ⟨ev, nn, _⟩ := a1 j _ hj
    rw [z] at ev
    have eq1 : p = ad j := L2.V.ref.inj (Option.some.inj ev)
    rw [← eq1, hS'] at nn
    cases nn
  have hp' : σ'[i]? = some (some (.ref p)) := by
    obtain ⟨ad, a1, _⟩ := I'.sl
    obtain ⟨v, ev, rv⟩ := a1 i _ hT
    cases rv
    cases e : σ'[i]? with
    | none => rw [e] at ev; cases ev
    | some y => rw [e] at ev; exact congrArg some ev
  have I5 := I4.del hS' hu hS0
  have I6 := I5.wr3 (o := .dK kvs) delH_at h0 no' (fun vs z => by cases z)
  have eF : Ex S (delH S' p) := fun a u q => delH_ne (e' a u (e1 a u q)) fun z => by subst z; rw [n] at q; cases q
  have I7 := I6.own3 (i := i) (c := .dk kds) hp' delH_at h0 upd_same no' (.dk ek (rs.mono eF))
  exact fin T _ _ σ' I7 eF (by rw [hp', ep]) (List.getElem?_eq_some_iff.mp hT).1 k
/-- a statement that walks the slot's own dict -/
theorem xs_lock (i : Nat) {kds : List (Key × D)} {st : Stmt} {P : Pst} (hG : G[i]? = some (.ow false (.dk kds)))
    (h : ∀ F' p, Lkd X.K F' p kds → XS X F' st (G.set i (.va (.adr p))) { nx := fun T => T[i]? = some (.va (.adr p)) ∧ P.nx (T.set i (.ow false (.dk kds))), rt := fun _ _ => False }) : XS X F st G P :=
  fun S H σ E I ok => lock_core i hG h I fun T S' H' σ' I' e _ _ k => ok.nx _ _ _ σ' I' e k
/-- a statement that walks a dict that was lent -/
theorem xs_lockB (i : Nat) {kds : List (Key × D)} {st : Stmt} {P : Pst} (hG : G[i]? = some (.ow true (.dk kds)))
    (h : ∀ F' p, Lkd X.K F' p kds → XS X F' st (G.set i (.va (.adr p))) { nx := fun T => T[i]? = some (.va (.adr p)) ∧ P.nx (T.set i (.ow true (.dk kds))), rt := fun _ _ => False }) : XS X F st G P := by
  intro S H σ E I ok
  obtain ⟨p, ep, hB, I1⟩ := I.hide hG
  have hil : i < G.length := (List.getElem?_eq_some_iff.mp hG).1
  refine lock_core (Q := fun T => P.nx (T.set i (.ow true (.dk kds)))) i (List.getElem?_set_self hil) (fun F' p L => by rw [List.set_set]; exact h F' p L) I1 fun T S' H' σ' I' e ev hl k => ?_
  have I8 := I'.show (by rw [ev]; exact ep) hB (List.getElem?_set_self hl)
  rw [List.set_set] at I8
  exact ok.nx _ _ _ σ' I8 e k
end
end Pu

namespace Pu
open PySem PySem.Spec PyProof.Rows L2
section
variable {X : Cx} {F : Fm} {G : List Sl} {P : Pst} {pos : Pos} {Kk : D → List Sl → Prop}
/-- d[k] += e: the slot's dict, an int there -/
theorem xs_daug (i : Nat) {x : Str} {ix e : Expr} {p1 p2 : Pos} (hu : X.A.units + 1 < cLine) (hG : ∃ q kds, G[i]? = some (.ow q (.dk kds)))
    (h : XE X F ix G fun y G1 => ∃ q kds k a, G1[i]? = some (.ow q (.dk kds)) ∧ y = keyD k ∧ gD kds k = some (.int a) ∧ kds.length < 1000000 ∧ XE X F e G1 fun d G2 => ∃ q2 b, d = .int b ∧ G2[i]? = some (.ow q2 (.dk kds)) ∧ P.nx (G2.set i (.ow q2 (.dk (pD kds k (.int (a + b)))))))
    (hN : X.N[i]? = some x := by rfl) (hv : Vis X.env.scope x := by first | exact Or.inl rfl | exact Or.inr (Or.inl rfl) | exact Or.inr (Or.inr rfl)) (hd : (x == ("__debug__" : Str)) = false := by decide) (hcd : (x == ("__classdict__" : Str)) = false := by decide)
    (ha : ∀ ov iv new, augStore ix ov iv new = (do holding [new, ov, iv] (setItem ov iv new); release [new, ov, iv] []; pure .next) := by intros; rfl) :
    XS X F (.AugAssign (.Subscript (.Name x p1) ix p2) .Add e pos) G P := fun S H σ E I ok => by
  obtain ⟨_, k0, hc0⟩ := hG
  obtain ⟨p0, _, ep0, _⟩ := I.ow hc0
  refine semS_of (ps_daug hu (pe_var hN hv hd hcd) pe_sem pe_sem in_add ha) ⟨_, ep0, ?_⟩
  refine semE_mono (h S H σ I) fun v1 H1 ⟨y, G1, S1, I1, e1, r1, q, kds, k, a, hc, ey, hg, hz, h2⟩ => ?_
  subst ey
  obtain ⟨p, o, ep, n, hb, ho, rc⟩ := I1.ow hc
  rw [ep0] at ep; cases ep
  have gk : GetD (.dk kds) (keyD k) (gD kds k) := .k k
  rw [hg] at gk
  obtain ⟨vr, dg, z | ⟨v, d', ev, ed, rv⟩⟩ := rc.get I1.fr.ex ho r1 gk
  · cases z.2
  cases ed
  cases rv
  rw [ev] at dg
  refine ⟨_, _, rfl, dg, ?_⟩
  refine semE_mono (h2 S1 H1 σ I1) fun v2 H2 ⟨d, G2, S2, I2, e2, r2, q2, b, ed, hc2, k2⟩ => ?_
  subst ed
  cases r2
  refine ⟨a, b, rfl, rfl, ?_⟩
  obtain ⟨p', o', ep', n', hb', ho', rc'⟩ := I2.ow hc2
  rw [ep0] at ep'; cases ep'
  cases rc' with
  | @dk kvs _ qq rs =>
    have ek := r1.key
    subst ek
    have pp := Reps.pD (k := k) qq rs (.int (a + b) : Rep X.K S2 _ _)
    have hl : kvs.length < sizeLine := by
      have := congrArg List.length qq
      rw [List.length_map, List.length_map] at this
      rw [this]; exact Nat.lt_trans hz (by decide)
    exact ⟨_, DPut.k ho' hl, ok.nx _ S2 _ σ (I2.write hc2 ep0 (.dk pp.1 pp.2)) (e1.tr e2) k2⟩
def rGetL (K : PySem.W.Frag) : L2.V → L2.V → Hp → VK → Prop := fun o i H Q => ∃ p xs k v, o = .ref p ∧ i = .int k ∧ SqL K H p xs ∧ 0 ≤ k ∧ atI xs k = some v ∧ Q v H
theorem get_list : PGet X (rGetL X.K) := by
  intro pins s σ H x y v u Q I rx ry h
  obtain ⟨p, xs, i, z, rfl, rfl, hq, h0, he, q⟩ := h
  cases rx
  obtain ⟨t, rfl⟩ := ry
  obtain ⟨its, r, pl, hz⟩ := I.list hq
  obtain ⟨j, h1, h2, h3, h4, h5⟩ := atI_get he
  obtain ⟨w, ew, rw'⟩ := r.get h2
  have hl := r.length
  have hn := line63
  have fin : EP X pins σ Q w s := ⟨z, H, I, rw', q⟩
  have hj : i.toNat = j := by
    rw [seqIndex_of h0 h5] at h1
    exact Option.some.inj h1
  exact wpAny_getItem_list pl.isList h0 (by omega) (by rw [hj]; simpa using ew) fin
/-- xs[k] += e: the slot's list, an int there -/
theorem xs_laug (i : Nat) {x : Str} {ix e : Expr} {p1 p2 : Pos} (hG : ∃ q ds, G[i]? = some (.ow q (.lst ds)))
    (h : XE X F ix G fun y G1 => ∃ q ds k a, G1[i]? = some (.ow q (.lst ds)) ∧ y = .int k ∧ 0 ≤ k ∧ atI ds k = some (.int a) ∧ XE X F e G1 fun d G2 => ∃ q2 b, d = .int b ∧ G2[i]? = some (.ow q2 (.lst ds)) ∧ P.nx (G2.set i (.ow q2 (.lst (ds.set k.toNat (.int (a + b)))))))
    (hN : X.N[i]? = some x := by rfl) (hv : Vis X.env.scope x := by first | exact Or.inl rfl | exact Or.inr (Or.inl rfl) | exact Or.inr (Or.inr rfl)) (hd : (x == ("__debug__" : Str)) = false := by decide) (hcd : (x == ("__classdict__" : Str)) = false := by decide)
    (ha : ∀ ov iv new, augStore ix ov iv new = (do holding [new, ov, iv] (setItem ov iv new); release [new, ov, iv] []; pure .next) := by intros; rfl) :
    XS X F (.AugAssign (.Subscript (.Name x p1) ix p2) .Add e pos) G P := fun S H σ E I ok => by
  obtain ⟨_, k0, hc0⟩ := hG
  obtain ⟨p0, _, ep0, _⟩ := I.ow hc0
  refine semS_of (ps_augS (pe_var hN hv hd hcd) pe_sem get_list pe_sem (tip := rAdd) (fun pins s σ H x y u v Q I rx ry h => in_add pins s σ H x y u v Q I rx ry h) set_list ha) ⟨_, ep0, ?_⟩
  refine semE_mono (h S H σ I) fun v1 H1 ⟨y, G1, S1, I1, e1, r1, q, ds, k, a, hc, ey, h0, hat, h2⟩ => ?_
  subst ey
  cases r1
  obtain ⟨p, o, ep, n, hb, ho, rc⟩ := I1.ow hc
  rw [ep0] at ep; cases ep
  cases rc with
  | @lst vs _ r =>
    obtain ⟨v, gv, rv⟩ := r.atI hat
    cases rv
    refine ⟨_, vs, k, _, rfl, rfl, SqL.of ho, h0, gv, ?_⟩
    refine semE_mono (h2 S1 H1 σ I1) fun v2 H2 ⟨d, G2, S2, I2, e2, r2, q2, b, ed, hc2, k2⟩ => ?_
    subst ed
    cases r2
    refine ⟨a, b, rfl, rfl, ?_⟩
    obtain ⟨p', o', ep', n', hb', ho', rc'⟩ := I2.ow hc2
    rw [ep0] at ep'; cases ep'
    cases rc' with
    | @lst vs2 _ r' =>
      obtain ⟨j, hj, hg, hl, hlo, hhi⟩ := atI_get hat
      have hjk : k.toNat = j := by
        rw [seqIndex_of h0 hhi] at hj
        exact Option.some.inj hj
      have hix : ixN ds.length k = some k.toNat := ixD h0 (by omega)
      exact ⟨_, vs2, k, k.toNat, rfl, rfl, ho', by rw [r'.length]; exact hix, ok.nx _ S2 _ σ (I2.write hc2 ep0 (.lst (Reps.set (.int (a + b)) k.toNat r'))) (e1.tr e2) k2⟩
end
section
variable {X : Cx} {F : Fm} {G1 : List Sl} {tg kx vx : Expr} {ifs : List Expr} {scope : Scope} {own : List (Str × Nat)} {ds : List D}
/-- a dict comprehension with an if -/
theorem dc_fil {Kd : List (Key × D) → List Sl → Prop} {α : Type} (xs : List α) (g : α → D) (ff : α → Bool) (kf : α → Key) (vf : α → D) (hds : ds = xs.map g) (hl : xs.length < 1000000) (hok : okC (own.map (·.2)) 0 (inC (own.map (·.2)) 0 G1))
    (turn : ∀ x, x ∈ xs → ∀ F' s0 H0 C cl fp, XG (X.blk s0 H0 scope (compEnvC scope cl C X.env) fp) F' tg (g x) (inC (own.map (·.2)) 0 G1) (fun j => (own.map (·.2)).contains j) fun T' =>
        ∀ s0 H0 C cl fp, XTs (X.blk s0 H0 scope (compEnvC scope cl C X.env) fp) F' ifs T' fun b T2 =>
          (b = true → ∀ s0 H0 C cl fp, XE (X.blk s0 H0 scope (compEnvC scope cl C X.env) fp) F' kx T2 fun y T3 => ∀ s0 H0 C cl fp, XE (X.blk s0 H0 scope (compEnvC scope cl C X.env) fp) F' vx T3 fun z T5 => ff x = true ∧ y = keyD (kf x) ∧ z = vf x ∧ Cov T5 (inC (own.map (·.2)) 0 G1)) ∧
          (b = false → ff x = false ∧ Cov T2 (inC (own.map (·.2)) 0 G1)))
    (fin : Kd ((xs.filter ff).foldl (fun a x => pD a (kf x) (vf x)) []) (inC (own.map (·.2)) 0 G1)) :
    ∃ J : Nat → List Sl → List (Key × D) → Prop, J 0 (inC (own.map (·.2)) 0 G1) [] ∧ ds.length < 1000000 ∧
      (∀ i T acc, J i T acc → okC (own.map (·.2)) 0 T ∧ acc.length ≤ i) ∧
      (∀ i d T acc, ds[i]? = some d → J i T acc → ∀ F' s0 H0 C cl fp, XG (X.blk s0 H0 scope (compEnvC scope cl C X.env) fp) F' tg d T (fun j => (own.map (·.2)).contains j) fun T' => ∀ s0 H0 C cl fp, XTs (X.blk s0 H0 scope (compEnvC scope cl C X.env) fp) F' ifs T' fun b T2 =>
        (b = true → ∀ s0 H0 C cl fp, XE (X.blk s0 H0 scope (compEnvC scope cl C X.env) fp) F' kx T2 fun y T3 => ∀ s0 H0 C cl fp, XE (X.blk s0 H0 scope (compEnvC scope cl C X.env) fp) F' vx T3 fun z T5 => ∃ k T4, y = keyD k ∧ J (i + 1) T4 (pD acc k z) ∧ Cov T5 T4) ∧ (b = false → ∃ T4, J (i + 1) T4 acc ∧ Cov T2 T4)) ∧
      ∀ T acc, J ds.length T acc → Kd acc T := by
  subst hds
  have hlen : ∀ (ys : List α) (a : List (Key × D)), (ys.foldl (fun a x => pD a (kf x) (vf x)) a).length ≤ a.length + ys.length := fun ys => by
    induction ys with
    | nil => intro a; exact Nat.le_refl _
    | cons y ys ih => intro a; rw [List.foldl_cons, List.length_cons]; have h1 := ih (pD a (kf y) (vf y)); have h2 := pD_len a (kf y) (vf y); omega
  refine ⟨fun i T acc => T = inC (own.map (·.2)) 0 G1 ∧ acc = ((xs.take i).filter ff).foldl (fun a x => pD a (kf x) (vf x)) [], ⟨rfl, rfl⟩, by rw [List.length_map]; exact hl, fun i T acc ⟨e, ea⟩ => ⟨e ▸ hok, by
      rw [ea]; have h1 := hlen ((xs.take i).filter ff) []; have h2 := List.length_filter_le ff (xs.take i); rw [List.length_take] at h2; rw [List.length_nil] at h1; omega⟩, fun i d T acc hd ⟨e, ea⟩ F' s0 H0 C cl fp => ?_, fun T acc ⟨e, ea⟩ => ?_⟩
  · subst e
    rw [List.getElem?_map] at hd
    obtain ⟨x, hx, rfl⟩ := Option.map_eq_some_iff.mp hd
    have key : ((xs.take (i + 1)).filter ff).foldl (fun a x => pD a (kf x) (vf x)) [] = if ff x = true then pD acc (kf x) (vf x) else acc := by
      rw [List.take_add_one, hx, Option.toList_some, List.filter_append, List.foldl_append, ← ea]
      by_cases hf : ff x = true
      · rw [if_pos hf, List.filter_cons_of_pos hf]; rfl
      · rw [if_neg hf, List.filter_cons_of_neg hf]; rfl
    intro S H σ v I r
    refine semG_mono (turn x (List.mem_of_getElem? hx) F' s0 H0 C cl fp S H σ v I r) fun σ2 H2 ⟨G2, S2, I2, e2, k2, q⟩ => ⟨G2, S2, I2, e2, k2, fun s0 H0 C cl fp => ?_⟩
    have q1 := q s0 H0 C cl fp
    have up : ∀ b T2, ((b = true → ∀ s0 H0 C cl fp, XE (X.blk s0 H0 scope (compEnvC scope cl C X.env) fp) F' kx T2 fun y T3 => ∀ s0 H0 C cl fp, XE (X.blk s0 H0 scope (compEnvC scope cl C X.env) fp) F' vx T3 fun z T5 => ff x = true ∧ y = keyD (kf x) ∧ z = vf x ∧ Cov T5 (inC (own.map (·.2)) 0 G1)) ∧ (b = false → ff x = false ∧ Cov T2 (inC (own.map (·.2)) 0 G1))) →
        ((b = true → ∀ s0 H0 C cl fp, XE (X.blk s0 H0 scope (compEnvC scope cl C X.env) fp) F' kx T2 fun y T3 => ∀ s0 H0 C cl fp, XE (X.blk s0 H0 scope (compEnvC scope cl C X.env) fp) F' vx T3 fun z T5 => ∃ k T4, y = keyD k ∧ (T4 = inC (own.map (·.2)) 0 G1 ∧ pD acc k z = ((xs.take (i + 1)).filter ff).foldl (fun a x => pD a (kf x) (vf x)) []) ∧ Cov T5 T4) ∧ (b = false → ∃ T4, (T4 = inC (own.map (·.2)) 0 G1 ∧ acc = ((xs.take (i + 1)).filter ff).foldl (fun a x => pD a (kf x) (vf x)) []) ∧ Cov T2 T4)) := fun b T2 ⟨h1, h2⟩ =>
      ⟨fun hb s0 H0 C cl fp => (h1 hb s0 H0 C cl fp).mono fun y T3 q2 s0 H0 C cl fp => (q2 s0 H0 C cl fp).mono fun z T5 ⟨hf, ey, ez, cv⟩ => ⟨kf x, _, ey, ⟨rfl, by rw [key, if_pos hf, ez]⟩, cv⟩, fun hb => ⟨_, ⟨rfl, by rw [key, if_neg (by rw [(h2 hb).1]; decide)]⟩, (h2 hb).2⟩⟩
    cases ifs with
    | nil => exact up _ _ q1
    | cons c r =>
      cases r with
      | nil => exact fun S H σ I => semT_mono (q1 S H σ I) fun b H' ⟨G', S', i1, i2, i3⟩ => ⟨G', S', i1, i2, up _ _ i3⟩
      | cons _ _ => exact q1.elim
  · subst e
    rw [List.length_map, List.take_length] at ea
    subst ea
    exact fin
end
end Pu
namespace Pu
open PySem PySem.Spec PyProof.Rows L2
/-- the promise of a def whose result is a new object, of which nobody else knows -/
def SpN (K : PySem.W.Frag) (R : List D → (D → Prop) → Prop) : Sp := fun vs H Q _ => ∃ S ds Φ, Ex S H ∧ Reps K S vs ds ∧ R ds Φ ∧
  ∀ p o S' H' c, Ex S S' → Ex S' H' → Ex H H' → (∀ a, S' a ≠ none → S a ≠ none ∨ H a = none ∨ ∃ vs, H a = some (.tup vs)) → H p = none → S' p = none → H' p = some o → CRep K S' o c → Φ c → Q (.ref p) H'
section
variable {X : Cx} {F : Fm} {G : List Sl} {P : Pst} {pos : Pos} {Kk : D → List Sl → Prop}
theorem xs_retO (i : Nat) {x : Str} {p1 : Pos} {c : D} (hG : G[i]? = some (.ow false c)) (k : P.ro c) (hN : X.N[i]? = some x := by rfl) (hv : Vis X.env.scope x := by first | exact Or.inl rfl | exact Or.inr (Or.inl rfl) | exact Or.inr (Or.inr rfl))
    (hd : (x == ("__debug__" : Str)) = false := by decide) (hcd : (x == ("__classdict__" : Str)) = false := by decide) : XS X F (.Return (some (.Name x p1)) pos) G P := fun S H σ E I ok => by
  obtain ⟨p, o, ep, n, hb, ho, rc⟩ := I.ow hG
  have h0 : F.H0 p = none := by
    rcases hb with ⟨_, z⟩ | ⟨z, _⟩
    · exact z
    · cases z
  exact semS_of (ps_ret (pe_var hN hv hd hcd)) ⟨_, ep, ok.ro c p o G S H σ I Ex.rfl' n h0 ho rc k⟩
theorem IV.ofNew {K : PySem.W.Frag} {S H S' H' : Hp} {σ : L2.St} {p : Addr} {o : HO} {c : D} {i : Nat} (I : IV K F G S H σ) (e1 : Ex S S') (e2 : Ex S' H') (e3 : Ex H H') (n : ∀ a, S' a ≠ none → S a ≠ none ∨ H a = none ∨ ∃ vs, H a = some (.tup vs))
    (hp : H p = none) (hs : S' p = none) (ho : H' p = some o) (rc : CRep K S' o c) : IV K F (G.set i (.ow false c)) S' H' (σ.set i (some (.ref p))) := by
  have I1 := I.called e1 e2 e3 n
  obtain ⟨hS, h0⟩ := I.fr.free hp
  have hB : p ∉ F.B := fun z => by obtain ⟨o', e', _⟩ := I.fr.bor p z; rw [hp] at e'; cases e'
  refine I1.own2 hs h0 hB ho (fun j q c' hj z => ?_) rc
  obtain ⟨ad, k1, _⟩ := I.sl
  obtain ⟨ev, _, _, o', ho', _⟩ := k1 j _ hj
  rw [z] at ev
  have : p = ad j := L2.V.ref.inj (Option.some.inj ev)
  rw [← this, hp] at ho'; cases ho'
/-- x = f(..), the result new, the slot's own -/
theorem xs_ownCall (i : Nat) {R : List D → (D → Prop) → Prop} {k : Nat} {f : Addr} {fd : FuncData} {ps : List Str} {x y : Str} {e0 : Expr} {es : List Expr} {p pp : Pos} (hn : X.N.Nodup) (Fk : FnOk X.prog X.w X.K X.mg X.base CX0 k f fd ps (SpN X.K R)) (hr : Room k X.A) (hm : X.mg x = some (.ref f)) (hk : PySem.W.keepIn X.K (.ref f) = true) (hb : Binds X.K fd ps [])
    {cpos : Pos} (h : XA X F (e0 :: es) G fun ds G1 => R ds fun c => P.nx (G1.set i (.ow false c))) (hi : X.N[i]? = some y := by rfl) (hx : Loc X.env.scope y := by first | exact Or.inl rfl | exact Or.inr rfl) (hg : Gl X x := by rfl) (hdb : (x == ("__debug__" : Str)) = false := by decide)
    (he : starEach (e0 :: es) X.env = (false, eval e0 X.env) :: starEach es X.env := by rfl) (hpl : (backTo cpos (starEach es X.env)).any (·.1) = false := by rfl)
    (hs : swapsWith (.Call (.Name x p) (e0 :: es) [] cpos) (some (.Name y pp)) pos.line X.env = pure false := by rfl) (hf : X.fn y = true ∨ X.env.scope.names.lookup y = some .local := by first | exact .inl rfl | exact .inr rfl | assumption) : XS X F (.Assign [.Name y pp] (.Call (.Name x p) (e0 :: es) [] cpos) pos) G P := fun S H σ E I ok => by
  refine semS_of (ps_set hn hi hx (pe_call Fk hr hg hm hk hb .nil pass0 pa_sem hdb he hpl) hs hf) ?_
  refine semA_mono (h S H σ I) fun vs H1 ⟨ds, G1, S1, I1, e1, r1, hR⟩ => ?_
  rw [List.append_nil]
  exact ⟨S1, ds, _, I1.fr.ex, r1, hR, fun p o S' H' c a1 a2 a3 a4 hp hs ho rc hk => ok.nx _ S' H' _ (I1.ofNew a1 a2 a3 a4 hp hs ho rc) (e1.tr a1) hk⟩
theorem fn_okND {P : Program} {w : World} {K : PySem.W.Frag} {mg : Str → Option Value} {base : Heap} {CX : CXT} {k : Nat} {f : Addr} {fd : FuncData} {ps : List Str} {R : List D → (D → Prop) → Prop} (Fk : FnOk P w K mg base CX k f fd ps (SpN K R)) : FnOk P w K mg base CX k f fd ps (SpD K R) :=
  Fk.imp fun vs H Q E ⟨S, ds, Φ, e, r, hR, q⟩ => ⟨S, ds, Φ, e, r, hR, fun p o S' H' c a1 a2 a3 a4 hp hs ho rc hk => by
    have e1 : Ex S' (upd S' p o) := Ex.new hs
    refine q (.ref p) (upd S' p o) H' c (a1.tr e1) (fun a u z => ?_) a3 (fun a z => ?_) ((rc.mono e1).rep upd_same) hk
    · by_cases ha : a = p
      · subst ha; rw [upd_same] at z; cases z; exact ho
      · rw [upd_ne ha] at z; exact a2 a u z
    · by_cases ha : a = p
      · subst ha; exact .inr (.inl hp)
      · rw [upd_ne ha] at z; exact a4 a z⟩
/-- x = list(e), the slot's own -/
theorem xs_ownList (i : Nat) {y : Str} {e : Expr} {p1 pp cpos : Pos} (hn : X.N.Nodup) (hm : X.mg "list" = none) (h : XE X F e G fun d G1 => ∃ ds, d = .lst ds ∧ P.nx (G1.set i (.ow false (.lst ds)))) (hcm : X.calm = true := by rfl) (hi : X.N[i]? = some y := by rfl) (hx : Loc X.env.scope y := by first | exact Or.inl rfl | exact Or.inr rfl) (hg : Gl X "list" := by rfl)
    (he : starEach [e] X.env = (false, eval e X.env) :: starEach [] X.env := by rfl) (hs : swapsWith (.Call (.Name "list" p1) [e] [] cpos) (some (.Name y pp)) pos.line X.env = pure false := by rfl) (hn1 : ("list" : Str) ≠ "__name__" := by decide) (hdb : (("list" : Str) == ("__debug__" : Str)) = false := by decide) (hpl : (backTo cpos (starEach [] X.env)).any (·.1) = false := by rfl)
    (hv : bootBuiltins "list" = some (.type "list") := by exact boot_list) (hf : X.fn y = true ∨ X.env.scope.names.lookup y = some .local := by first | exact .inl rfl | exact .inr rfl | assumption) : XS X F (.Assign [.Name y pp] (.Call (.Name "list" p1) [e] [] cpos) pos) G P := fun S H σ E I ok => by
  refine semS_of (ps_set hn hi hx (pe_callTy (call_list_of) hg hm hv pa_sem hn1 hdb he hpl) hs hf) ?_
  have h' : XA X F [e] G fun ds G1 => ∃ xs, ds = [.lst xs] ∧ P.nx (G1.set i (.ow false (.lst xs))) := xa_cons (h.mono fun d G1 ⟨xs, ed, k⟩ => xa_nil ⟨xs, by rw [ed], k⟩) he
  refine semA_mono (h' S H σ I) fun vs H1 ⟨ds, G1, S1, I1, e1, r1, xs, ed, k⟩ => ?_
  subst ed
  cases r1 with
  | cons h t =>
    cases t
    cases h with
    | lst h r =>
      exact ⟨_, _, rfl, .inl (SqL.of (I1.fr.ex _ _ h)), fun p hp => ok.nx _ S1 _ _ (I1.own hp (.lst r)) e1 k⟩
section
variable {P : Program} {w : World} {K : PySem.W.Frag} {mg : Str → Option Value} {base : Heap}
theorem fn_okN {N ps : List Str} {nm : Str} {st : Stmt} {f : Addr} {fd : FuncData} {k : Nat} {R : List D → (D → Prop) → Prop} (Fn : Fun K nm nm st f fd) (Sc : FnScope N ps (defScope st)) (len : ∀ ds Φ, R ds Φ → ds.length = ps.length)
    (body : ∀ cdv A outer s H E F, Room k (A.deeper (envOfC nm (defScope st) s.heap.objs.size f cdv)) → ∀ ds Φ, R ds Φ →
      XSs (CXf P w K mg base N nm st f cdv A outer s H E) F (defBody st) (ds.map Sl.va ++ List.replicate (N.length - ds.length) .no) { nx := fun _ => False, rt := fun _ _ => False, ro := Φ }) : FnOk P w K mg base CX0 (k + 1) f fd ps (SpN K R) := by
  refine Fn.ok Sc (fun vs H Q E h => ?_) (fun cdv A outer s H vs Q E hr h => ?_)
  · obtain ⟨S, ds, Φ, _, r, hR, _⟩ := h
    rw [r.length, len ds Φ hR]
  · obtain ⟨S, ds, Φ, e, r, hR, q⟩ := h
    refine ⟨_, pss_sem, ?_⟩
    have fr : Frame ⟨H, S, []⟩ S H := ⟨e, Ex.rfl', fun a o h _ => h, fun a h => .inl h, fun b hb => nomatch hb⟩
    refine body cdv A outer s H E ⟨H, S, []⟩ hr ds Φ hR S H (L2.start N vs) _ ?_ ⟨fun G S' H' σ I _ ed => ed.elim, fun d' v G S' H' σ I _ rv ed => ed.elim, fun _ _ _ _ _ _ z => z.elim, fun _ _ _ _ _ _ z => z.elim, fun c p o G S' H' σ I _ n h0 ho rc k => ?_⟩
    · have := Reps.start (F := ⟨H, S, []⟩) fr (N.length - ds.length) r
      rw [← r.length] at this ⊢
      exact this
    · exact q p o S' H' c I.fr.old I.fr.ex (fun a o h => I.fr.fr a o h (by intro z; cases z)) I.fr.new h0 n ho rc k
end
end
end Pu

namespace Pu
open PySem PySem.Spec PyProof.Rows L2
section
variable {X : Cx} {F : Fm} {G : List Sl} {P : Pst} {pos : Pos} {Kk : D → List Sl → Prop}
/-- a method of a list or a text that changes nothing -/
def XM (X : Cx) (F : Fm) (r : L2.V → List L2.V → Hp → VK → Prop) (x : D) (ds : List D) (G : List Sl) (Kk : D → List Sl → Prop) : Prop :=
  ∀ S H σ v vs (Q : VK), IV X.K F G S H σ → Rep X.K S v x → Reps X.K S vs ds → (∀ u H', PK X.K F S σ Kk u H' → Q u H') → r v vs H Q
def TyD (T : String) (x : D) : Prop := (T = "list" ∧ ∃ ds, x = .lst ds) ∨ (T = "str" ∧ ∃ z, x = .str z)
theorem TyD.ty {K : PySem.W.Frag} {S H : Hp} {T : String} {x : D} {v : L2.V} (t : TyD T x) (e : Ex S H) (r : Rep K S v x) : L2.tyV K T v H := by
  rcases t with ⟨rfl, ds, rfl⟩ | ⟨rfl, z, rfl⟩
  · cases r with
    | lst h _ => exact .inl ⟨rfl, _, SqL.of (e _ _ h)⟩
  · cases r; exact rfl
theorem xe_bm {T id : String} {name : Str} {r : L2.V → List L2.V → Hp → VK → Prop} {o e : Expr} {es : List Expr} {apos : Pos} (pa : PlainAttrs T) (slot : Slot T name id) (hty : typeOf (.builtin id) = pure (.type "method_descriptor")) (hm : L2.MtR X id r)
    (h : XE X F o G fun x G1 => TyD T x ∧ XA X F (e :: es) G1 fun ds G2 => XM X F r x ds G2 Kk)
    (hbase : attributeBase o name X.env (eval o X.env) = eval o X.env := by rfl)
    (hfew : ((backTo pos (starEach (e :: es) X.env)).all (fun x => !x.1) && (backToKw pos (keywordEach [] X.env)).all (fun x => x.1.isSome)
      && decide ((e :: es).length + ([] : List Keyword).length + (if ([] : List Keyword).isEmpty then 0 else 1) < 30)) = true := by rfl)
    (hline : (apos.endLine == pos.line) = true := by rfl) (hs : starEach (e :: es) X.env = (false, eval e X.env) :: starEach es X.env := by rfl) (hplain : (backTo pos (starEach es X.env)).any (·.1) = false := by rfl) :
    XE X F (.Call (.Attribute o name apos) (e :: es) [] pos) G Kk := by
  intro S H σ I
  refine semE_of (pe_bm pa slot hty hm pe_sem pa_sem hbase hfew hline hs hplain) ?_
  refine semE_mono (h S H σ I) fun v H1 ⟨x, G1, S1, I1, e1, r1, t, q⟩ => ⟨t.ty I1.fr.ex r1, ?_⟩
  refine semA_mono (q S1 H1 σ I1) fun vs H2 ⟨ds, G2, S2, I2, e2, r2, m⟩ => ?_
  exact m S2 H2 σ v vs _ I2 (r1.mono e2) r2 fun u H' k => PK.of (e1.tr e2) k
theorem xm_lcount {ns : List Int} {k : Int} (q : Kk (.int (ns.count k : Nat)) G) : XM X F (L2.rCntI X.K) (.lst (ns.map D.int)) [.int k] G Kk := fun S H σ v vs Q I r rs h => by
  cases r with
  | lst hp rr =>
    have e := rr.ints
    subst e
    cases rs with
    | cons h1 t => cases t; cases h1; exact ⟨_, ns, k, rfl, rfl, SqL.of (I.fr.ex _ _ hp), h _ _ (.at I Ex.rfl' (.int _) q)⟩
theorem xe_listOw (i : Nat) {x : Str} {p1 p2 : Pos} {q : Bool} {ds : List D} (hG : G[i]? = some (.ow q (.lst ds))) (hm : X.mg "list" = none) (k : Kk (.lst ds) G) (hcm : X.calm = true := by rfl) (hg : Gl X "list" := by rfl)
    (hN : X.N[i]? = some x := by rfl) (hv : Vis X.env.scope x := by first | exact Or.inl rfl | exact Or.inr (Or.inl rfl) | exact Or.inr (Or.inr rfl)) (hd : (x == ("__debug__" : Str)) = false := by decide) (hcd : (x == ("__classdict__" : Str)) = false := by decide)
    (he : starEach [.Name x p1] X.env = (false, eval (.Name x p1) X.env) :: starEach [] X.env := by rfl) (hpl : (backTo pos (starEach [] X.env)).any (·.1) = false := by rfl) : XE X F (.Call (.Name "list" p2) [.Name x p1] [] pos) G Kk := by
  intro S H σ I
  obtain ⟨p, o, ep, n, hb, ho, rc⟩ := I.ow hG
  cases rc with
  | @lst vs _ r =>
    refine semE_of (pe_callTy call_list_of hg hm boot_list (pa_cons (pe_var hN hv hd hcd) pa_nil he) (by decide) (by decide) he hpl) ?_
    refine ⟨_, ep, p, vs, rfl, .inl (SqL.of ho), fun l hl => ?_⟩
    obtain ⟨I2, e2⟩ := I.alloc (o := .lst vs) hl
    exact .at I2 e2 (.lst upd_same (r.mono e2)) k
/-! arguments of which some are a slot's own objects, only read -/
inductive Ag where
  | d (x : D) | s (i : Nat)
inductive AgsOk (K : PySem.W.Frag) (S : Hp) (σ : L2.St) : List L2.V → List Ag → Prop where
  | nil : AgsOk K S σ [] []
  | d {v : L2.V} {x : D} {vs : List L2.V} {as : List Ag} (h : Rep K S v x) (t : AgsOk K S σ vs as) : AgsOk K S σ (v :: vs) (.d x :: as)
  | s {v : L2.V} {i : Nat} {vs : List L2.V} {as : List Ag} (h : σ[i]? = some (some v)) (t : AgsOk K S σ vs as) : AgsOk K S σ (v :: vs) (.s i :: as)
def XR (X : Cx) (F : Fm) (es : List Expr) (G : List Sl) (Kk : List Ag → List Sl → Prop) : Prop := ∀ S H σ, IV X.K F G S H σ → semA X es σ H (fun vs H' => ∃ as G' S', IV X.K F G' S' H' σ ∧ Ex S S' ∧ AgsOk X.K S' σ vs as ∧ Kk as G')
inductive Res (G : List Sl) : List Ag → List D → Prop where
  | nil : Res G [] []
  | d {x : D} {as : List Ag} {ds : List D} (t : Res G as ds) : Res G (.d x :: as) (x :: ds)
  | s {i : Nat} {q : Bool} {c : D} {as : List Ag} {ds : List D} (h : G[i]? = some (.ow q c)) (t : Res G as ds) : Res G (.s i :: as) (c :: ds)
theorem xr_nil {Kr : List Ag → List Sl → Prop} (k : Kr [] G) : XR X F [] G Kr := fun S H σ I => semA_of pa_nil ⟨[], G, S, I, Ex.rfl', .nil, k⟩
theorem xr_cons {e : Expr} {es : List Expr} {Kr : List Ag → List Sl → Prop} (h : XE X F e G fun d G1 => XR X F es G1 fun as G2 => Kr (.d d :: as) G2) (hs : starEach (e :: es) X.env = (false, eval e X.env) :: starEach es X.env := by rfl) : XR X F (e :: es) G Kr := fun S H σ I => by
  refine semA_of (pa_cons pe_sem pa_sem hs) ?_
  refine semE_mono (h S H σ I) fun v H1 ⟨d, G1, S1, I1, e1, r1, k1⟩ => ?_
  exact semA_mono (k1 S1 H1 σ I1) fun vs H2 ⟨as, G2, S2, I2, e2, r2, k2⟩ => ⟨.d d :: as, G2, S2, I2, e1.tr e2, .d (r1.mono e2) r2, k2⟩
theorem xr_own (i : Nat) {x : Str} {p1 : Pos} {es : List Expr} {Kr : List Ag → List Sl → Prop} (hG : ∃ q c, G[i]? = some (.ow q c)) (h : XR X F es G fun as G2 => Kr (.s i :: as) G2) (hs : starEach (.Name x p1 :: es) X.env = (false, eval (.Name x p1) X.env) :: starEach es X.env := by rfl)
    (hN : X.N[i]? = some x := by rfl) (hv : Vis X.env.scope x := by first | exact Or.inl rfl | exact Or.inr (Or.inl rfl) | exact Or.inr (Or.inr rfl)) (hd : (x == ("__debug__" : Str)) = false := by decide) (hcd : (x == ("__classdict__" : Str)) = false := by decide) : XR X F (.Name x p1 :: es) G Kr := fun S H σ I => by
  obtain ⟨q, c, hc⟩ := hG
  obtain ⟨p, o, ep, n, hb, ho, rc⟩ := I.ow hc
  refine semA_of (pa_cons (pe_var hN hv hd hcd) pa_sem hs) ⟨_, ep, ?_⟩
  exact semA_mono (h S H σ I) fun vs H2 ⟨as, G2, S2, I2, e2, r2, k2⟩ => ⟨.s i :: as, G2, S2, I2, e2, .s ep r2, k2⟩
theorem Rep.flatS {K : PySem.W.Frag} {S S' : Hp} {v : L2.V} {d : D} (r : Rep K S v d) (h : flatD d = true) : Rep K S' v d := by
  cases r <;> first | exact .non | exact .bl _ | exact .int _ | exact .str _ | (unfold flatD at h; cases h)
/-- the stable part with what the slots own -/
theorem IV.all {K : PySem.W.Frag} {S H : Hp} {σ : L2.St} (I : IV K F G S H σ) : ∃ S1, Ex S S1 ∧ Ex S1 H ∧ ∀ (i : Nat) q c v, G[i]? = some (.ow q c) → σ[i]? = some (some v) → Rep K S1 v c := by
  classical
  refine ⟨fun a => match S a with | some o => some o | none => if ∃ (i : Nat) (q : Bool) (c : D), G[i]? = some (.ow q c) ∧ σ[i]? = some (some (.ref a)) then H a else none, fun a o h => by show (match S a with | some o => some o | none => _) = _; rw [h], fun a o h => ?_, fun i q c v hG hv => ?_⟩
  · revert h
    show (match S a with | some o => some o | none => _) = some o → _
    cases e : S a with
    | some u => intro h; cases h; exact I.fr.ex a _ e
    | none => intro h; dsimp only at h; split at h; exact h; cases h
  · obtain ⟨p, o, ep, n, hb, ho, rc⟩ := I.ow hG
    rw [hv] at ep; cases ep
    have e : Ex S (fun a => match S a with | some o => some o | none => if ∃ (i : Nat) (q : Bool) (c : D), G[i]? = some (.ow q c) ∧ σ[i]? = some (some (.ref a)) then H a else none) := fun a o h => by show (match S a with | some o => some o | none => _) = _; rw [h]
    refine (rc.mono e).rep ?_
    show (match S p with | some o => some o | none => _) = _
    rw [n]
    dsimp only
    rw [if_pos ⟨i, q, c, hG, hv⟩, ho]
theorem AgsOk.reps {K : PySem.W.Frag} {S S1 : Hp} {σ : L2.St} (e : Ex S S1) (w : ∀ (i : Nat) q c v, G[i]? = some (.ow q c) → σ[i]? = some (some v) → Rep K S1 v c) : ∀ {vs : List L2.V} {as : List Ag} {ds : List D}, AgsOk K S σ vs as → Res G as ds → Reps K S1 vs ds
  | _, _, _, .nil, .nil => .nil
  | _, _, _, .d h t, .d r => .cons (h.mono e) (AgsOk.reps e w t r)
  | _, _, _, .s h t, .s hG r => .cons (w _ _ _ _ hG h) (AgsOk.reps e w t r)
/-- f(..): some arguments are the slots' own and are only read; the result holds no object -/
theorem xe_callR {R : List D → (D → Prop) → Prop} {k : Nat} {f : Addr} {fd : FuncData} {ps : List Str} {x : Str} {e0 : Expr} {es : List Expr} {p : Pos} (Fk : FnOk X.prog X.w X.K X.mg X.base CX0 k f fd ps (SpD X.K R)) (hr : Room k X.A) (hm : X.mg x = some (.ref f)) (hk : PySem.W.keepIn X.K (.ref f) = true) (hb : Binds X.K fd ps [])
    (h : XR X F (e0 :: es) G fun as G1 => ∃ ds, Res G1 as ds ∧ R ds fun d => flatD d = true ∧ Kk d G1) (hg : Gl X x := by rfl) (hdb : (x == ("__debug__" : Str)) = false := by decide)
    (he : starEach (e0 :: es) X.env = (false, eval e0 X.env) :: starEach es X.env := by rfl) (hpl : (backTo pos (starEach es X.env)).any (·.1) = false := by rfl) : XE X F (.Call (.Name x p) (e0 :: es) [] pos) G Kk := by
  intro S H σ I
  refine semE_of (pe_call Fk hr hg hm hk hb .nil pass0 pa_sem hdb he hpl) ?_
  refine semA_mono (h S H σ I) fun vs H1 ⟨as, G1, S1, I1, e1, r1, ds, hres, hR⟩ => ?_
  rw [List.append_nil]
  obtain ⟨S2, e2, e3, w⟩ := I1.all
  exact ⟨S2, ds, _, e3, r1.reps e2 w hres, hR, fun v S' H' d a1 a2 a3 a4 rv ⟨hf, hk⟩ => .at (I1.called Ex.rfl' ((e2.tr a1).tr a2) a3 fun a z => .inl z) e1 (rv.flatS hf) hk⟩
theorem rep1 (d : D) (n : Nat) : (List.replicate n [d]).flatten = List.replicate n d := by
  induction n with
  | zero => rfl
  | succ n ih => rw [List.replicate_succ, List.flatten_cons, ih, List.replicate_succ]; rfl
/-- y = xs * n, the slot's own -/
theorem xs_rep (i : Nat) {y : Str} {a b : Expr} {pp bpos : Pos} (hn : X.N.Nodup) (h : XE X F a G fun x G1 => XE X F b G1 fun z G2 => ∃ xs n, x = .lst xs ∧ z = .int n ∧ (-(2 ^ 63) ≤ n ∧ n < 2 ^ 63) ∧ xs.length * n.toNat ≤ 1000000 ∧ P.nx (G2.set i (.ow false (.lst (List.replicate n.toNat xs).flatten))))
    (hi : X.N[i]? = some y := by rfl) (hx : Loc X.env.scope y := by first | exact Or.inl rfl | exact Or.inr rfl) (hs : swapsWith (.BinOp a .Mult b bpos) (some (.Name y pp)) pos.line X.env = pure false := by rfl)
    (hf : X.fn y = true ∨ X.env.scope.names.lookup y = some .local := by first | exact .inl rfl | exact .inr rfl | assumption) : XS X F (.Assign [.Name y pp] (.BinOp a .Mult b bpos) pos) G P := fun S H σ E I ok => by
  refine semS_of (ps_set hn hi hx (pe_op op_rep pe_sem pe_sem) hs hf) ?_
  refine semE_mono (h S H σ I) fun v1 H1 ⟨x, G1, S1, I1, e1, r1, q1⟩ => ?_
  refine semE_mono (q1 S1 H1 σ I1) fun v2 H2 ⟨z, G2, S2, I2, e2, r2, xs, n, ex, ez, ⟨h0, h1⟩, hz, k⟩ => ?_
  subst ex ez
  cases r2
  have r1' := r1.mono e2
  cases r1' with
  | @lst a vs _ h r =>
    refine ⟨a, n, vs, rfl, rfl, I2.fr.ex _ _ h, h0, h1, by rw [r.length]; exact Nat.le_trans hz (by decide), fun p hp => ?_⟩
    have rr : ∀ m : Nat, Reps X.K S2 (List.replicate m vs).flatten (List.replicate m xs).flatten := fun m => by
      induction m with
      | zero => exact .nil
      | succ m ih => rw [List.replicate_succ, List.replicate_succ, List.flatten_cons, List.flatten_cons]; exact r.append ih
    exact ok.nx _ S2 _ _ (I2.own hp (.lst (rr _))) (e1.tr e2) k
theorem res_ex {as : List Ag} {Q : List D → Prop} (ds : List D) (r : Res G as ds) (h : Q ds) : ∃ ds, Res G as ds ∧ Q ds := ⟨ds, r, h⟩
theorem lock_coreR (i : Nat) {kds : List (Key × D)} {st : Stmt} {Q : List Sl → Prop} {Qr : D → List Sl → Prop} (hG : G[i]? = some (.ow false (.dk kds)))
    (h : ∀ F' p, Lkd X.K F' p kds → XS X F' st (G.set i (.va (.adr p))) { nx := fun T => T[i]? = some (.va (.adr p)) ∧ Q T, rt := fun d T => T[i]? = some (.va (.adr p)) ∧ flatD d = true ∧ Qr d T }) {S H : Hp} {σ : L2.St} {E : Ends} (I : IV X.K F G S H σ)
    (fin : ∀ T S' H' σ', IV X.K F (T.set i (.ow false (.dk kds))) S' H' σ' → Ex S S' → (σ'[i]?).bind id = (σ[i]?).bind id → i < T.length → Q T → E.nx σ' H')
    (finr : ∀ d v T S' H' σ', IV X.K F (T.set i (.ow false (.dk kds))) S' H' σ' → Ex S S' → (σ'[i]?).bind id = (σ[i]?).bind id → i < T.length → Rep X.K S' v d → Qr d T → E.rt v H') : semS X st E σ H := by
  obtain ⟨p, o, ep, n, hb, ho, rc⟩ := I.ow hG
  have h0 : F.H0 p = none := by
    rcases hb with ⟨_, z⟩ | ⟨z, _⟩
    · exact z
    · cases z
  have hS0 : F.S0 p = none := by
    cases e : F.S0 p with
    | none => rfl
    | some u => have := I.fr.old p u e; rw [n] at this; cases this
  cases rc with
  | @dk kvs _ ek rs =>
  refine semS_of (ps_lock ps_sem) ⟨p, .dK kvs, ho, True.intro, fun od => ?_⟩
  have hil : i < G.length := (List.getElem?_eq_some_iff.mp hG).1
  have Iw : IV X.K F (G.set i .no) S H σ := I.weak (by rw [List.length_set]) fun j s hs' => by
    by_cases hij : i = j
    · subst hij; rw [List.getElem?_set_self hil] at hs'; exact .inl (Option.some.inj hs').symm
    · rw [List.getElem?_set_ne hij] at hs'; exact .inr hs'
  have no : NoOwn (G.set i .no) σ p := fun j q c hj z => by
    obtain ⟨ad, h1, h2⟩ := I.sl
    by_cases hij : i = j
    · subst hij; rw [List.getElem?_set_self hil] at hj; cases hj
    · rw [List.getElem?_set_ne hij] at hj
      obtain ⟨evj, _⟩ := h1 j _ hj
      obtain ⟨evi, _⟩ := h1 i _ hG
      rw [z] at evj
      have eq1 : p = ad j := L2.V.ref.inj (Option.some.inj evj)
      rw [ep] at evi
      have eq2 : p = ad i := L2.V.ref.inj (Option.some.inj evi)
      exact hij (h2 i j _ _ _ _ hG hj (eq2.symm.trans eq1))
  have I0 : IV X.K F (G.set i .no) S (upd H p (.frz od (.dK kvs))) σ := Iw.wr3 n h0 no (fun vs z => by cases z)
  have e1 : Ex S (upd S p (.frz od (.dK kvs))) := Ex.new n
  have I1 : IV X.K F (G.set i .no) (upd S p (.frz od (.dK kvs))) (upd H p (.frz od (.dK kvs))) σ := I0.frz2 n h0 upd_same no
  have Ik := I1.know ep (.adr p)
  rw [List.set_set] at Ik
  have Iin : IV X.K ⟨F.H0, upd S p (.frz od (.dK kvs)), F.B⟩ (G.set i (.va (.adr p))) (upd S p (.frz od (.dK kvs))) (upd H p (.frz od (.dK kvs))) σ := by
    obtain ⟨fr, len, ad, a1, a2⟩ := Ik
    exact ⟨⟨fr.ex, Ex.rfl', fr.fr, fun a h => .inl h, fr.bor⟩, len, ad, a1, a2⟩
  have post : ∀ T S' H' σ', IV X.K ⟨F.H0, upd S p (.frz od (.dK kvs)), F.B⟩ T S' H' σ' → Ex (upd S p (.frz od (.dK kvs))) S' → T[i]? = some (.va (.adr p)) → H' p = some (.frz od (.dK kvs)) ∧ IV X.K F (T.set i (.ow false (.dk kds))) (delH S' p) (upd H' p (.dK kvs)) σ' ∧ Ex S (delH S' p) ∧ (σ'[i]?).bind id = (σ[i]?).bind id ∧ i < T.length := fun T S' H' σ' I' e' hT => by
    have hS' : S' p = some (.frz od (.dK kvs)) := e' p _ upd_same
    have hH' : H' p = some (.frz od (.dK kvs)) := I'.fr.ex p _ hS'
    refine ⟨hH', ?_⟩
    have I4 : IV X.K F T S' H' σ' := by
      obtain ⟨fr, len, ad, a1, a2⟩ := I'
      exact ⟨⟨fr.ex, I1.fr.old.tr fr.old, fr.fr, fun a h => (fr.new a h).elim (fun z => I1.fr.new a z) .inr, fr.bor⟩, len, ad, a1, a2⟩
    have hu : ∀ xs : List L2.V, HO.dK kvs ≠ .lst xs := fun xs z => by cases z
    have no' : NoOwn T σ' p := fun j q c hj z => by
      obtain ⟨ad, a1, _⟩ := I'.sl
      obtain ⟨ev, nn, _⟩ := a1 j _ hj
      rw [z] at ev
      have eq1 : p = ad j := L2.V.ref.inj (Option.some.inj ev)
      rw [← eq1, hS'] at nn
      cases nn
    have hp' : σ'[i]? = some (some (.ref p)) := by
      obtain ⟨ad, a1, _⟩ := I'.sl
      obtain ⟨v, ev, rv⟩ := a1 i _ hT
      cases rv
      cases e : σ'[i]? with
      | none => rw [e] at ev; cases ev
      | some y => rw [e] at ev; exact congrArg some ev
    have I5 := I4.del hS' hu hS0
    have I6 := I5.wr3 (o := .dK kvs) delH_at h0 no' (fun vs z => by cases z)
    have eF : Ex S (delH S' p) := fun a u q => delH_ne (e' a u (e1 a u q)) fun z => by subst z; rw [n] at q; cases q
    exact ⟨I6.own3 (i := i) (c := .dk kds) hp' delH_at h0 upd_same no' (.dk ek (rs.mono eF)), eF, by rw [hp', ep], (List.getElem?_eq_some_iff.mp hT).1⟩
  refine h _ p ⟨od, kvs, upd_same, ek, rs.mono e1⟩ _ _ σ _ Iin ⟨fun T S' H' σ' I' e' ⟨hT, k⟩ => ?_, fun d v T S' H' σ' I' e' rv ⟨hT, hf, k⟩ => ?_, fun _ _ _ _ _ _ z => z.elim, fun _ _ _ _ _ _ z => z.elim, fun _ _ _ _ _ _ _ _ _ _ _ _ _ z => z.elim⟩
  · obtain ⟨a0, a1, a2, a3, a4⟩ := post T S' H' σ' I' e' hT
    exact ⟨a0, fin T _ _ σ' a1 a2 a3 a4 k⟩
  · obtain ⟨a0, a1, a2, a3, a4⟩ := post T S' H' σ' I' e' hT
    exact ⟨a0, finr d v T _ _ σ' a1 a2 a3 a4 (rv.flatS hf) k⟩
/-- a statement that walks the slot's own dict and may return a value without objects -/
theorem xs_lockR (i : Nat) {kds : List (Key × D)} {st : Stmt} {P : Pst} (hG : G[i]? = some (.ow false (.dk kds)))
    (h : ∀ F' p, Lkd X.K F' p kds → XS X F' st (G.set i (.va (.adr p))) { nx := fun T => T[i]? = some (.va (.adr p)) ∧ P.nx (T.set i (.ow false (.dk kds))), rt := fun d T => T[i]? = some (.va (.adr p)) ∧ flatD d = true ∧ P.rt d (T.set i (.ow false (.dk kds))) }) : XS X F st G P :=
  fun S H σ E I ok => lock_coreR (Qr := fun d T => P.rt d (T.set i (.ow false (.dk kds)))) i hG h I (fun T S' H' σ' I' e _ _ k => ok.nx _ _ _ σ' I' e k) fun d v T S' H' σ' I' e _ _ r k => ok.rt d v _ _ _ σ' I' e r k
end
end Pu

namespace Pu
open PySem PySem.Spec PyProof.Rows L2
/-- setdefault at a key that is a tuple -/
theorem d_setdT {X : Cx} {pins : List (Addr × Obj)} {σ : L2.St} {H : Hp} {s : Shared} {a b : Addr} {u r : Value} {d : L2.V} {k : List Key} {E : Value → Shared → Prop} {kvs : List (List Key × L2.V)} {Q : Value → Shared → Prop} (hu : X.A.units + 1 < cLine) (I : Inv X pins σ H s) (e : H a = some (.dT kvs)) (eb : H b = some (.tup (k.map kV))) (ry : RelV (.ref b) u) (rd : RelV d r) (hl : kvs.length < sizeLine)
    (h1 : ∀ v, valV kvs k = some v → ∀ (w' : Value) (s' : Shared), Inv X pins σ H s' → RelV v w' → Q w' s') (h2 : valV kvs k = none → ∀ (w' : Value) (s' : Shared), Inv X pins σ (upd H a (.dT (putK kvs k d))) s' → RelV d w' → Q w' s') :
    wpAny (model X.prog X.w) X.A (call (.builtin "dict.setdefault") [.ref a, u, r]) Q E s := by
  cases (show u = Value.ref b from ry)
  obtain ⟨z, hd, xs, rel, dd⟩ := dt_of I.hok e
  have hz : xs.length ≤ sizeLine := by rw [← Paired.length rel]; exact z
  refine call_setdefault_heap (hsz := hz) (tupleKind_room_in1 hu) (key_of I.hok eb) hd dd (fun p hp => ?_) fun hn h' dd' hs => ?_
  · have q := rel.val k
    rw [hp] at q
    cases q0 : valV kvs k with
    | none => rw [q0] at q; exact (show False from q).elim
    | some v0 => rw [q0] at q; exact h1 v0 q0 _ _ (I.tok _) q
  · have q := rel.val k
    rw [hn] at q
    cases q0 : valV kvs k with
    | some v0 => rw [q0] at q; exact (show False from q).elim
    | none =>
      have hl2 : (putK kvs k d).length ≤ sizeLine := by have := length_putK kvs k d; omega
      obtain ⟨q, es, ep, hq, h2', h3, h4, _, h5⟩ := dd'
      refine h2 q0 _ _ (d_write I (by rw [e]; exact True.intro) hs ⟨q, hq⟩ ⟨hl2, hd, _, (rel.put k eb rd).keeps fun c ys ec => ?_, q, es, ep, hq, h2', h3, h4, h5⟩) rd
      rw [upd_ne (ne_of ec e (fun z => nomatch z))]
      exact ec
/-! the kinds of keys -/
structure KD (κ : Type) [DecidableEq κ] where
  ob : List (κ × L2.V) → HO
  ky : Hp → L2.V → κ → Prop
  dm : List (κ × D) → D
  nt : ∀ kvs vs, ob kvs ≠ .tup vs
  dk : D → κ → Prop
  kyR : ∀ {K : PySem.W.Frag} {S H : Hp} {v : L2.V} {y : D} {k : κ}, Rep K S v y → Ex S H → dk y k → ky H v k
  dnew : ∀ {X : Cx} {pos : Pos}, PE X (.Dict [] [] pos) fun _ H Q => ∀ p, H p = none → Q (.ref p) (upd H p (ob []))
  isD : ∀ {H : Hp} {a : Addr} {kvs}, H a = some (ob kvs) → L2.IsD H a
  crep : ∀ {K : PySem.W.Frag} {S : Hp} {kvs : List (κ × L2.V)} {kds : List (κ × D)}, kvs.map (·.1) = kds.map (·.1) → Reps K S (kvs.map (·.2)) (kds.map (·.2)) → CRep K S (ob kvs) (dm kds)
  kyE : ∀ {H H' : Hp} {y : L2.V} {k : κ}, (∀ a vs, H a = some (.tup vs) → H' a = some (.tup vs)) → ky H y k → ky H' y k
  setd : ∀ {X : Cx} {pins : List (Addr × Obj)} {σ : L2.St} {H : Hp} {s : Shared} {a : Addr} {u r : Value} {y d : L2.V} {k : κ} {E : Value → Shared → Prop} {kvs : List (κ × L2.V)} {Q : Value → Shared → Prop}, X.A.units + 1 < cLine → Inv X pins σ H s → H a = some (ob kvs) → ky H y k → RelV y u → RelV d r → kvs.length < sizeLine →
    (∀ v, valV kvs k = some v → ∀ (w' : Value) (s' : Shared), Inv X pins σ H s' → RelV v w' → Q w' s') → (valV kvs k = none → ∀ (w' : Value) (s' : Shared), Inv X pins σ (upd H a (ob (putK kvs k d))) s' → RelV d w' → Q w' s') →
    wpAny (model X.prog X.w) X.A (call (.builtin "dict.setdefault") [.ref a, u, r]) Q E s
def kdK : KD Key where
  ob := .dK
  ky := fun _ y k => y = kV k
  dm := .dk
  nt := fun _ _ z => by cases z
  dk := fun y k => y = keyD k
  kyR := fun r _ e => by subst e; exact r.key
  dnew := pe_dnewK
  isD := fun h => .inl ⟨_, .of h⟩
  crep := fun e r => .dk e r
  kyE := fun _ h => h
  setd := fun _ I e ey ry rd hl h1 h2 => by subst ey; exact d_setd I e ry rd hl h1 h2
def kdT : KD (List Key) where
  ob := .dT
  ky := fun H y k => ∃ b, y = .ref b ∧ H b = some (.tup (k.map kV))
  dm := .dt
  nt := fun _ _ z => by cases z
  dk := fun y k => y = .tup (k.map keyD)
  kyR := fun r e ey => by
    subst ey
    cases r with
    | tup h r => exact ⟨_, rfl, by rw [← r.keys]; exact e _ _ h⟩
  dnew := pe_dnewT
  isD := fun h => .inr ⟨_, .of h⟩
  crep := fun e r => .dt e r
  kyE := fun h ⟨b, e, hb⟩ => ⟨b, e, h _ _ hb⟩
  setd := fun hu I e ⟨b, ey, eb⟩ ry rd hl h1 h2 => by subst ey; exact d_setdT hu I e eb ry rd hl h1 h2
section
variable {κ : Type} [DecidableEq κ] (kd : KD κ)
def tDSetG (td ty tx : TE) : TE := fun σ H Q => td σ H fun x H1 => ∃ a, x = .ref a ∧ IsD H1 a ∧ ty σ H1 fun y H2 => tx σ H2 fun z H3 => ∃ (kvs : List (κ × L2.V)) (k : κ), H3 a = some (kd.ob kvs) ∧ kd.ky H3 y k ∧ kvs.length < sizeLine ∧
  (∀ v, valV kvs k = some v → Q v H3) ∧ (valV kvs k = none → Q z (upd H3 a (kd.ob (putK kvs k z))))
variable {X : Cx}
theorem pe_dsetG {o e f : Expr} {td ty tx : TE} {apos cpos : Pos} (hu : X.A.units + 1 < cLine) (ho : PE X o td) (he : PE X e ty) (hf : PE X f tx) (m : M2 X o "setdefault" apos e f cpos) : PE X (.Call (.Attribute o "setdefault" apos) [e, f] [] cpos) (tDSetG kd td ty tx) := by
  refine ⟨fun pins s σ H Q I h => ?_⟩
  refine wpAny_Call_method m.base m.few m.line PySem.F.plainAttrs_dict PySem.F.slot_dict_setdefault PySem.F.type_dict_setdefault (thn (ho.run pins s σ H _ I h) fun u s1 ⟨x, H1, I1, rx, a, ex, d, q1⟩ => ?_)
  subst ex
  obtain rfl : u = Value.ref a := rx
  obtain ⟨t1, t2, _⟩ := isD_at I1 d
  refine ⟨t1, t2, ?_⟩
  rw [m.trees]
  refine Calls.callWith_builtin rfl (Calls.evalArgs_plain (Calls.spliced_cons (thn (he.run pins s1 σ H1 _ I1 q1) fun iv s2 ⟨y, H2, I2, ry, q2⟩ =>
    Calls.spliced_cons (thn (hf.run pins s2 σ H2 _ I2 q2) fun fv s3 ⟨z, H3, I3, rz, kvs, k, ea, ey, hl, q3, q4⟩ => Calls.spliced_nil ?_))))
  exact kd.setd hu I3 ea ey ry rz hl (fun v hv w' s4 I4 rw' => ⟨v, _, I4, rw', q3 v hv⟩) fun hn w' s4 I4 rw' => ⟨z, _, I4, rw', q4 hn⟩
end
/-! beside what is tracked -/
section
variable {K : PySem.W.Frag} {F : Fm} {G : List Sl} {S H : Hp} {σ : L2.St}
structure Fre (F : Fm) (G : List Sl) (S : Hp) (σ : L2.St) (a : Addr) : Prop where
  s : S a = none
  h : F.H0 a = none
  b : a ∉ F.B
  no : NoOwn G σ a
theorem IV.side (I : IV K F G S H σ) : ∃ F', IV K F' G S H σ ∧ ∀ T S' H' σ', IV K F' T S' H' σ' → Ex S S' → IV K F T S' H' σ' ∧ ∀ a o, Fre F G S σ a → H a = some o → (∀ vs, o ≠ .tup vs) → Fre F T S' σ' a ∧ H' a = some o := by
  classical
  let own : Addr → Prop := fun a => ∃ (i : Nat) (c : D), G[i]? = some (.ow false c) ∧ σ[i]? = some (some (.ref a))
  have ownN : ∀ a, own a → F.H0 a = none := fun a ⟨i, c, hG, hs⟩ => by
    obtain ⟨p, o, ep, n, hb, ho, rc⟩ := I.ow hG
    rw [hs] at ep; cases ep
    rcases hb with ⟨_, z⟩ | ⟨z, _⟩
    · exact z
    · cases z
  have hd1 : ∀ a, own a → (if own a then none else H a : Option HO) = none := fun a h => if_pos h
  have hd2 : ∀ a, ¬ own a → (if own a then none else H a : Option HO) = H a := fun a h => if_neg h
  refine ⟨⟨fun a => if own a then none else H a, S, F.B⟩, ?_, ?_⟩
  · obtain ⟨ad, h1, h2⟩ := I.sl
    refine ⟨⟨I.fr.ex, Ex.rfl', fun a o h _ => ?_, fun a h => .inl h, I.fr.bor⟩, I.len, ad, fun i s hs => ?_, h2⟩
    · have h' : (if own a then none else H a : Option HO) = some o := h
      by_cases ha : own a
      · rw [hd1 a ha] at h'; cases h'
      · rw [hd2 a ha] at h'; exact h'
    · have q := h1 i s hs
      cases s with
      | no => trivial
      | va d => exact q
      | ow qq c =>
        obtain ⟨ev, n, hb, o, ho, r⟩ := q
        refine ⟨ev, n, ?_, o, ho, r⟩
        rcases hb with ⟨e1, e2⟩ | e
        · subst e1
          refine .inl ⟨rfl, hd1 _ ⟨i, c, hs, ?_⟩⟩
          cases e : σ[i]? with
          | none => rw [e] at ev; cases ev
          | some y => rw [e] at ev; exact congrArg some ev
        · exact .inr e
  · intro T S' H' σ' I' e
    have back : ∀ a, (if own a then none else H a : Option HO) = none → F.H0 a = none := fun a h => by
      by_cases ha : own a
      · exact ownN a ha
      · rw [hd2 a ha] at h; exact (I.fr.free h).2
    have fwd : ∀ a o, H a = some o → ¬ own a → (if own a then none else H a : Option HO) = some o := fun a o h n => by rw [hd2 a n]; exact h
    refine ⟨?_, fun a o fa ho nt => ?_⟩
    · obtain ⟨ad, h1, h2⟩ := I'.sl
      refine ⟨⟨I'.fr.ex, I.fr.old.tr e, fun a o h hb => ?_, fun a h => ?_, I'.fr.bor⟩, I'.len, ad, fun i s hs => ?_, h2⟩
      · have hH := I.fr.fr a o h hb
        have hn : ¬ own a := fun z => by have := ownN a z; rw [h] at this; cases this
        exact I'.fr.fr a o (fwd a o hH hn) hb
      · rcases I'.fr.new a h with z | z | ⟨vs, z⟩
        · exact I.fr.new a z
        · exact .inr (.inl (back a z))
        · by_cases ha : own a
          · exact .inr (.inl (ownN a ha))
          · have z' : (if own a then none else H a : Option HO) = some (.tup vs) := z
            rw [hd2 a ha] at z'; exact I.fr.oldT z'
      · have q := h1 i s hs
        cases s with
        | no => trivial
        | va d => exact q
        | ow qq c =>
          obtain ⟨ev, n, hb, o, ho, r⟩ := q
          exact ⟨ev, n, hb.imp (fun ⟨e1, e2⟩ => ⟨e1, back _ e2⟩) id, o, ho, r⟩
    · have hn : ¬ own a := fun ⟨i, c, hG, hs⟩ => fa.no i false c hG (by rw [hs]; rfl)
      have hF := fwd a o ho hn
      refine ⟨⟨?_, fa.h, fa.b, fun i q c hT z => ?_⟩, I'.fr.fr a o hF fa.b⟩
      · cases hS : S' a with
        | none => rfl
        | some u =>
          rcases I'.fr.new a (by rw [hS]; intro z; cases z) with z | z | ⟨vs, z⟩
          · exact absurd fa.s z
          · have z' : (if own a then none else H a : Option HO) = none := z
            rw [hF] at z'; cases z'
          · have z' : (if own a then none else H a : Option HO) = some (.tup vs) := z
            rw [hF] at z'; exact absurd (Option.some.inj z') (nt vs)
      · obtain ⟨ad, h1, _⟩ := I'.sl
        obtain ⟨ev, _, hb, _⟩ := h1 i _ hT
        rw [z] at ev
        have eq1 : a = ad i := L2.V.ref.inj (Option.some.inj ev)
        rcases hb with ⟨_, e2⟩ | ⟨_, e2⟩
        · rw [← eq1] at e2
          have z' : (if own a then none else H a : Option HO) = none := e2
          rw [hF] at z'; cases z'
        · rw [← eq1] at e2; exact fa.b e2
theorem IV.junk (I : IV K F G S H σ) {p : Addr} {o : HO} (h : H p = none) : IV K F G S (upd H p o) σ ∧ Fre F G S σ p := by
  obtain ⟨hs, h0⟩ := I.fr.free h
  have hB : p ∉ F.B := fun z => by obtain ⟨o', e', _⟩ := I.fr.bor p z; rw [h] at e'; cases e'
  refine ⟨I.step ⟨fun a u q => ?_, I.fr.old, fun a u q hb => ?_, I.fr.new, fun b hb => ?_⟩ Ex.rfl' (fun a u n hb ha _ => ?_), hs, h0, hB, fun i q c hG z => ?_⟩
  · rw [upd_ne (fun z => by subst z; rw [hs] at q; cases q)]; exact I.fr.ex a u q
  · rw [upd_ne (fun z => by subst z; rw [h0] at q; cases q)]; exact I.fr.fr a u q hb
  · obtain ⟨o', e', nt⟩ := I.fr.bor b hb
    exact ⟨o', by rw [upd_ne (fun z => by rw [z, h] at e'; cases e')]; exact e', nt⟩
  · have ne : a ≠ p := fun z => by subst z; rw [h] at ha; cases ha
    rw [upd_ne ne]
    exact ⟨n, ha⟩
  · obtain ⟨p', o', ep, _, _, ho, _⟩ := I.ow hG
    rw [ep] at z
    have : p' = p := L2.V.ref.inj (Option.some.inj z)
    rw [this, h] at ho; cases ho
/-- an object beside what is tracked is written -/
theorem IV.wrF (I : IV K F G S H σ) {p : Addr} {o : HO} (f : Fre F G S σ p) (nt : ∀ vs, o ≠ .tup vs) : IV K F G S (upd H p o) σ := I.wr3 f.s f.h f.no nt
theorem Fre.cov {T : List Sl} {a : Addr} (f : Fre F G S σ a) (c : Cov G T) : Fre F T S σ a := ⟨f.s, f.h, f.b, fun i q c' hT => by
  rcases c.at i _ hT with z | z
  · cases z
  · exact f.no i q c' z⟩
end
/-! a dict of lists, all its own -/
structure En (κ : Type) where
  k : κ
  b : Addr
  vs : List L2.V
  ds : List D
section
variable {κ : Type} [DecidableEq κ] (kd : KD κ)
def cells (es : List (En κ)) : List (κ × L2.V) := es.map fun e => (e.k, L2.V.ref e.b)
def kdsOf (es : List (En κ)) : List (κ × List D) := es.map fun e => (e.k, e.ds)
structure ND (K : PySem.W.Frag) (F : Fm) (G : List Sl) (S H : Hp) (σ : L2.St) (p : Addr) (es : List (En κ)) : Prop where
  hp : H p = some (kd.ob (cells es))
  hb : ∀ e ∈ es, H e.b = some (.lst e.vs) ∧ Reps K S e.vs e.ds
  fp : Fre F G S σ p
  fb : ∀ e ∈ es, Fre F G S σ e.b
  nd : (p :: es.map (·.b)).Nodup
variable {kd}
variable {K : PySem.W.Frag} {F : Fm} {G : List Sl} {S H : Hp} {σ : L2.St} {p : Addr} {es : List (En κ)}
theorem ND.cov {T : List Sl} (n : ND kd K F G S H σ p es) (c : Cov G T) : ND kd K F T S H σ p es := ⟨n.hp, n.hb, n.fp.cov c, fun e he => (n.fb e he).cov c, n.nd⟩
theorem ND.side (n : ND kd K F G S H σ p es) (I : IV K F G S H σ) : ∃ F', IV K F' G S H σ ∧ ∀ T S' H' σ', IV K F' T S' H' σ' → Ex S S' → IV K F T S' H' σ' ∧ ND kd K F T S' H' σ' p es := by
  obtain ⟨F', I', k⟩ := I.side
  refine ⟨F', I', fun T S' H' σ' J e => ?_⟩
  obtain ⟨I2, q⟩ := k T S' H' σ' J e
  refine ⟨I2, (q p _ n.fp n.hp fun vs z => kd.nt _ _ z).2, fun x hx => ⟨(q x.b _ (n.fb x hx) (n.hb x hx).1 fun vs z => by cases z).2, (n.hb x hx).2.mono e⟩, (q p _ n.fp n.hp fun vs z => kd.nt _ _ z).1, fun x hx => (q x.b _ (n.fb x hx) (n.hb x hx).1 fun vs z => by cases z).1, n.nd⟩
variable (kd)
def XDN (X : Cx) (F : Fm) (sts : List Stmt) (G : List Sl) (p : Addr) (kds : List (κ × List D)) (Kk : List Sl → List (κ × List D) → Prop) : Prop :=
  ∀ S H σ E es, IV X.K F G S H σ → ND kd X.K F G S H σ p es → kdsOf es = kds → (∀ G' S' H' σ' es', IV X.K F G' S' H' σ' → Ex S S' → ND kd X.K F G' S' H' σ' p es' → Kk G' (kdsOf es') → E.nx σ' H') → semSs X sts E σ H
def XDN1 (X : Cx) (F : Fm) (st : Stmt) (G : List Sl) (p : Addr) (kds : List (κ × List D)) (Kk : List Sl → List (κ × List D) → Prop) : Prop :=
  ∀ S H σ E es, IV X.K F G S H σ → ND kd X.K F G S H σ p es → kdsOf es = kds → (∀ G' S' H' σ' es', IV X.K F G' S' H' σ' → Ex S S' → ND kd X.K F G' S' H' σ' p es' → Kk G' (kdsOf es') → E.nx σ' H') → semS X st E σ H
variable {kd}
variable {X : Cx} {st : Stmt} {rest : List Stmt} {kds : List (κ × List D)} {Kk : List Sl → List (κ × List D) → Prop} {pos : Pos}
theorem xdn_nil (k : Kk G kds) : XDN kd X F [] G p kds Kk := fun S H σ E es I n e fin => semSs_of pss_nil (fin G S H σ es I Ex.rfl' n (e ▸ k))
theorem xdn_cons (h : XDN1 kd X F st G p kds fun G1 kds1 => XDN kd X F rest G1 p kds1 Kk) : XDN kd X F (st :: rest) G p kds Kk := fun S H σ E es I n e fin => by
  refine semSs_of (pss_cons ps_sem pss_sem) ?_
  exact h S H σ _ es I n e fun G1 S1 H1 σ1 es1 I1 e1 n1 k => k S1 H1 σ1 E es1 I1 n1 rfl fun G2 S2 H2 σ2 es2 I2 e2 n2 k2 => fin G2 S2 H2 σ2 es2 I2 (e1.tr e2) n2 k2
theorem xdn_lift (h : ∀ F', XS X F' st G { nx := fun G1 => Kk G1 kds, rt := fun _ _ => False }) : XDN1 kd X F st G p kds Kk := fun S H σ E es I n e fin => by
  obtain ⟨F', I', q⟩ := n.side I
  refine h F' S H σ E I' ⟨fun G1 S1 H1 σ1 I1 e1 k => ?_, fun _ _ _ _ _ _ _ _ _ z => z.elim, fun _ _ _ _ _ _ z => z.elim, fun _ _ _ _ _ _ z => z.elim, fun _ _ _ _ _ _ _ _ _ _ _ _ _ z => z.elim⟩
  obtain ⟨I2, n2⟩ := q G1 S1 H1 σ1 I1 e1
  exact fin G1 S1 H1 σ1 es I2 e1 n2 (by rw [e]; exact k)
theorem xdn_for {tg iter : Expr} {body : List Stmt} (h : ∀ F', XW' X F' tg iter G fun ds G1 => ∃ J : Nat → List Sl → List (κ × List D) → Prop, (∃ T, J 0 T kds ∧ Cov G1 T) ∧
      (∀ i d T kds', ds[i]? = some d → J i T kds' → ∀ F'', XG X F'' tg d T allW fun T' => XDN kd X F body T' p kds' fun G' kds2 => ∃ T2, J (i + 1) T2 kds2 ∧ Cov G' T2) ∧ ∀ T kds', J ds.length T kds' → Kk T kds')
    (hpo : PassesOwn (model X.prog X.w) X.A X.env X.xe := by exact PassesOwn.never) (hc : X.calm = true := by rfl) (hs : ∀ x, foldedSetIterable iter X.env x = pure x := by intro _; rfl) : XDN1 kd X F (.For tg iter body [] pos) G p kds Kk := fun S H σ E es I n e fin => by
  refine semS_of (ps_for hpo hc pi_sem pg_sem pss_sem hs) ?_
  obtain ⟨F1, I1', q1⟩ := n.side I
  refine semI_mono (h F1 S H σ I1') fun J H1 ⟨ds, G1, S1, J1, e1, wk, Jv, ⟨T0, j0, c0⟩, turn, done⟩ => ?_
  obtain ⟨I1, n1⟩ := q1 G1 S1 H1 σ J1 e1
  refine ⟨fun i m σ H => m = ds.length - i ∧ i ≤ ds.length ∧ ∃ T S2 es2, IV X.K F T S2 H σ ∧ Ex S1 S2 ∧ ND kd X.K F T S2 H σ p es2 ∧ Jv i T (kdsOf es2), ⟨ds.length, by simp, Nat.zero_le _, T0, S1, es, I1.cov c0, Ex.rfl', n1.cov c0, e ▸ j0⟩, ?_⟩
  rintro i m σ2 H2 ⟨rfl, hi, T, S2, es2, I2, e2, n2, jv⟩
  by_cases hlt : i < ds.length
  · obtain ⟨F2, I2', q2⟩ := n2.side I2
    refine .inr ⟨wk.go F T S2 H2 σ2 i I2 e2 hlt, fun σ' H' => ∃ T S3 es3, IV X.K F T S3 H' σ' ∧ Ex S1 S3 ∧ ND kd X.K F T S3 H' σ' p es3 ∧ Jv (i + 1) T (kdsOf es3), fun σ' H' ⟨T', S3, es3, I3, e3, n3, j3⟩ => ⟨ds.length - (i + 1), by omega, rfl, hlt, T', S3, es3, I3, e3, n3, j3⟩, fun x H' y => ?_⟩
    obtain ⟨S3, I3', e3, rx⟩ := wk.yld F2 T S2 H2 σ2 i _ x H' I2' e2 (List.getElem?_eq_getElem hlt) y
    refine semG_mono (turn i _ T _ (List.getElem?_eq_getElem hlt) jv F2 S3 H' σ2 x I3' rx) fun σ4 H4 ⟨G4, S4, I4', e4, _, k4⟩ => ?_
    obtain ⟨I4, n4⟩ := q2 G4 S4 H4 σ4 I4' (e3.tr e4)
    have ee : Ex S1 S4 := (e2.tr e3).tr e4
    exact k4 S4 H4 σ4 _ es2 I4 n4 rfl fun G5 S5 H5 σ5 es5 I5 e5 n5 ⟨T5, j5, c5⟩ => ⟨T5, S5, es5, I5.cov c5, ee.tr e5, n5.cov c5, j5⟩
  · have ei : i = ds.length := by omega
    subst ei
    exact .inl ⟨wk.stop F T S2 H2 σ2 I2 e2, fin T S2 H2 σ2 es2 I2 (e1.tr e2) n2 (done T _ jv)⟩
/-! setdefault(k, []).append(v) -/
def appK (kds : List (κ × List D)) (k : κ) (d : D) : List (κ × List D) := match kds with
  | [] => [(k, [d])]
  | q :: r => if q.1 = k then (q.1, q.2 ++ [d]) :: r else q :: appK r k d
theorem appK_in {k : κ} {d : D} {a b : List (κ × List D)} {ds : List D} (h : ∀ q ∈ a, q.1 ≠ k) : appK (a ++ (k, ds) :: b) k d = a ++ (k, ds ++ [d]) :: b := by
  induction a with
  | nil => show (if k = k then _ else _) = _; rw [if_pos rfl]; rfl
  | cons q a ih =>
    show (if q.1 = k then _ else q :: appK (a ++ (k, ds) :: b) k d) = q :: (a ++ (k, ds ++ [d]) :: b)
    rw [if_neg (h q List.mem_cons_self), ih fun x hx => h x (List.mem_cons_of_mem _ hx)]
theorem appK_new {k : κ} {d : D} {a : List (κ × List D)} (h : ∀ q ∈ a, q.1 ≠ k) : appK a k d = a ++ [(k, [d])] := by
  induction a with
  | nil => rfl
  | cons q a ih =>
    show (if q.1 = k then _ else _) = _
    rw [if_neg (h q List.mem_cons_self), ih fun x hx => h x (List.mem_cons_of_mem _ hx)]; rfl
theorem cells_find {k : κ} : ∀ {es : List (En κ)}, (valV (cells es) k = none ∧ ∀ e ∈ es, e.k ≠ k) ∨ ∃ l e r, es = l ++ e :: r ∧ e.k = k ∧ (∀ x ∈ l, x.k ≠ k) ∧ valV (cells es) k = some (.ref e.b)
  | [] => .inl ⟨rfl, fun _ h => (nomatch h)⟩
  | e :: es => by
    by_cases he : e.k = k
    · exact .inr ⟨[], e, es, rfl, he, fun _ h => (nomatch h), valV_pos (p := (e.k, L2.V.ref e.b)) he⟩
    · have hv : valV (cells (e :: es)) k = valV (cells es) k := valV_neg (p := (e.k, L2.V.ref e.b)) he
      rcases cells_find (k := k) (es := es) with ⟨h1, h2⟩ | ⟨l, x, r, h1, h2, h3, h4⟩
      · refine .inl ⟨by rw [hv, h1], fun y hy => ?_⟩
        rcases List.mem_cons.mp hy with rfl | hy
        · exact he
        · exact h2 y hy
      · refine .inr ⟨e :: l, x, r, by rw [h1]; rfl, h2, fun y hy => ?_, by rw [hv, h4]⟩
        rcases List.mem_cons.mp hy with rfl | hy
        · exact he
        · exact h3 y hy
theorem putK_new {k : κ} {v : L2.V} {es : List (En κ)} (h : ∀ e ∈ es, e.k ≠ k) : putK (cells es) k v = cells es ++ [(k, v)] := by
  unfold putK
  rw [if_neg]
  intro z
  obtain ⟨x, hx, e⟩ := List.any_eq_true.mp z
  obtain ⟨e', he, rfl⟩ := List.mem_map.mp hx
  exact h e' he (of_decide_eq_true e)
theorem ND.set (n : ND kd K F G S H σ p es) {l r : List (En κ)} {e : En κ} (he : es = l ++ e :: r) {w : L2.V} {d : D} (rw' : Rep K S w d) :
    ND kd K F G S (upd H e.b (.lst (e.vs ++ [w]))) σ p (l ++ ⟨e.k, e.b, e.vs ++ [w], e.ds ++ [d]⟩ :: r) := by
  subst he
  have hm : e ∈ l ++ e :: r := List.mem_append_right _ List.mem_cons_self
  have nd := n.nd
  rw [List.nodup_cons] at nd
  have hpe : p ≠ e.b := fun z => nd.1 (z ▸ List.mem_map_of_mem hm)
  have nd2 := nd.2
  rw [List.map_append, List.map_cons, List.nodup_append] at nd2
  obtain ⟨n1, n2, n3⟩ := nd2
  rw [List.nodup_cons] at n2
  have oth : ∀ x, x ∈ l ∨ x ∈ r → x.b ≠ e.b := fun x hx z => by
    rcases hx with hx | hx
    · exact n3 x.b (List.mem_map_of_mem hx) e.b List.mem_cons_self z
    · exact n2.1 (z ▸ List.mem_map_of_mem hx)
  have mem : ∀ {x : En κ}, x ∈ l ++ (⟨e.k, e.b, e.vs ++ [w], e.ds ++ [d]⟩ : En κ) :: r → x = ⟨e.k, e.b, e.vs ++ [w], e.ds ++ [d]⟩ ∨ ((x ∈ l ∨ x ∈ r) ∧ x ∈ l ++ e :: r) := fun {x} hx => by
    rcases List.mem_append.mp hx with h | h
    · exact .inr ⟨.inl h, List.mem_append_left _ h⟩
    · rcases List.mem_cons.mp h with h | h
      · exact .inl h
      · exact .inr ⟨.inr h, List.mem_append_right _ (List.mem_cons_of_mem _ h)⟩
  refine ⟨?_, fun x hx => ?_, n.fp, fun x hx => ?_, ?_⟩
  · rw [upd_ne hpe, n.hp]
    unfold cells
    rw [List.map_append, List.map_append, List.map_cons, List.map_cons]
  · rcases mem hx with rfl | ⟨h1, h2⟩
    · exact ⟨upd_same, ((n.hb e hm).2).append (.cons rw' .nil)⟩
    · obtain ⟨a, b⟩ := n.hb x h2
      exact ⟨by rw [upd_ne (oth x h1)]; exact a, b⟩
  · rcases mem hx with rfl | ⟨h1, h2⟩
    · exact n.fb e hm
    · exact n.fb x h2
  · have := n.nd
    rw [List.map_append, List.map_cons] at this ⊢
    exact this
theorem ND.len (n : ND kd K F G S H σ p es) {e : En κ} (he : e ∈ es) : e.vs.length = e.ds.length := (n.hb e he).2.length
theorem kds_in {l r : List (En κ)} {e : En κ} {k : κ} {d : D} (hk : e.k = k) (h : ∀ x ∈ l, x.k ≠ k) (b : Addr) (vs : List L2.V) : kdsOf (l ++ (⟨e.k, b, vs, e.ds ++ [d]⟩ : En κ) :: r) = appK (kdsOf (l ++ e :: r)) k d := by
  subst hk
  unfold kdsOf
  rw [List.map_append, List.map_append, List.map_cons, List.map_cons, appK_in]
  intro q hq
  obtain ⟨x, hx, rfl⟩ := List.mem_map.mp hq
  exact h x hx
section
variable {e : Expr}
theorem xdn_app (i : Nat) {x : Str} {ke ve : Expr} {p1 p2 p3 p4 p5 p6 : Pos} (hu : X.A.units + 1 < cLine) (hG : G[i]? = some (.va (.adr p)))
    (h : ∀ F', XE X F' ke G fun y G1 => ∃ k, kd.dk y k ∧ kds.length < 1000000 ∧ (∀ q ∈ kds, q.2.length < 1000000) ∧ ∀ F'', XE X F'' ve G1 fun d G2 => Kk G2 (appK kds k d))
    (hN : X.N[i]? = some x := by rfl) (hv : Vis X.env.scope x := by first | exact Or.inl rfl | exact Or.inr (Or.inl rfl) | exact Or.inr (Or.inr rfl)) (hd : (x == ("__debug__" : Str)) = false := by decide) (hcd : (x == ("__classdict__" : Str)) = false := by decide)
    (m : M2 X (.Name x p1) "setdefault" p2 ke (.List [] p3) p4 := by exact ⟨rfl, rfl, rfl, rfl⟩)
    (hbase : attributeBase (.Call (.Attribute (.Name x p1) "setdefault" p2) [ke, .List [] p3] [] p4) "append" X.env (eval (.Call (.Attribute (.Name x p1) "setdefault" p2) [ke, .List [] p3] [] p4) X.env) = eval (.Call (.Attribute (.Name x p1) "setdefault" p2) [ke, .List [] p3] [] p4) X.env := by rfl)
    (hfew : ((backTo p6 (starEach [ve] X.env)).all (fun x => !x.1) && (backToKw p6 (keywordEach [] X.env)).all (fun x => x.1.isSome)
      && decide (([ve] : List Expr).length + ([] : List Keyword).length + (if ([] : List Keyword).isEmpty then 0 else 1) < 30)) = true := by rfl)
    (hline : (p5.endLine == p6.line) = true := by rfl) (hs : starEach [ve] X.env = (false, eval ve X.env) :: starEach [] X.env := by rfl) (hplain : (backTo p6 (starEach [] X.env)).any (·.1) = false := by rfl)
    (hsw : swapsWith (.Call (.Attribute (.Call (.Attribute (.Name x p1) "setdefault" p2) [ke, .List [] p3] [] p4) "append" p5) [ve] [] p6) none pos.line X.env = pure false := by rfl) :
    XDN1 kd X F (.Expr (.Call (.Attribute (.Call (.Attribute (.Name x p1) "setdefault" p2) [ke, .List [] p3] [] p4) "append" p5) [ve] [] p6) pos) G p kds Kk := fun S H σ E es I n ek fin => by
  obtain ⟨v0, ev0, rv0⟩ := I.va hG
  cases rv0
  refine semS_of (ps_expr (pe_bm PySem.F.plainAttrs_list PySem.F.slot_list_append PySem.F.type_list_append mt_append (pe_dsetG kd hu (pe_var hN hv hd hcd) pe_sem (pe_lst pa_nil) m) (pa_cons pe_sem pa_nil hs) hbase hfew hline hs hplain) hsw) ?_
  refine ⟨_, ev0, p, rfl, kd.isD n.hp, ?_⟩
  obtain ⟨F1, I', q1⟩ := n.side I
  refine semE_mono (h F1 S H σ I') fun y H1 ⟨dy, G1, S1, J1, e1, ry, k, hk, hz1, hz2, hve⟩ => ?_
  obtain ⟨I1, n1⟩ := q1 G1 S1 H1 σ J1 e1
  refine ⟨by show 0 ≤ sizeLine; exact Nat.zero_le _, fun q hq => ?_⟩
  obtain ⟨I2, fq⟩ := I1.junk (o := .lst []) hq
  have hpq : p ≠ q := fun z => by have := n1.hp; rw [z, hq] at this; cases this
  have hbq : ∀ e ∈ es, e.b ≠ q := fun e he z => by have := (n1.hb e he).1; rw [z, hq] at this; cases this
  have n2 : ND kd X.K F G1 S1 (upd H1 q (.lst [])) σ p es := ⟨by rw [upd_ne hpq]; exact n1.hp, fun e he => ⟨by rw [upd_ne (hbq e he)]; exact (n1.hb e he).1, (n1.hb e he).2⟩, n1.fp, n1.fb, n1.nd⟩
  have lc : (cells es).length < sizeLine := by
    have h1 : (cells es).length = kds.length := by rw [← ek]; unfold cells kdsOf; rw [List.length_map, List.length_map]
    rw [h1]; exact Nat.lt_trans hz1 (by decide)
  -- the list is there: what follows
  have go : ∀ (l r : List (En κ)) (e : En κ) (es2 : List (En κ)) (H2 : Hp), es2 = l ++ e :: r → e.k = k → (∀ x ∈ l, x.k ≠ k) → IV X.K F G1 S1 H2 σ → ND kd X.K F G1 S1 H2 σ p es2 → e.ds.length < 1000000 → (∀ d, appK (kdsOf es2) k d = appK kds k d) →
      L2.tyV X.K "list" (.ref e.b) H2 ∧ L2.tCons (semE X ve) L2.tNil σ H2 fun xs H3 => L2.rAppend (.ref e.b) xs H3 fun v H' => E.nx σ H' := fun l r e es2 H2 he hek hl I2 n2 hsz hap => by
    have hm : e ∈ es2 := by rw [he]; exact List.mem_append_right _ List.mem_cons_self
    refine ⟨.inl ⟨rfl, _, SqL.of (n2.hb e hm).1⟩, ?_⟩
    obtain ⟨F2, I2', q2⟩ := n2.side I2
    refine semE_mono (hve F2 S1 H2 σ I2') fun w H3 ⟨d, G3, S3, J3, e3, rd, kk⟩ => ?_
    obtain ⟨I3, n3⟩ := q2 G3 S3 H3 σ J3 e3
    refine ⟨e.b, e.vs, w, rfl, rfl, (n3.hb e hm).1, by rw [n3.len hm]; exact Nat.lt_trans hsz (by decide), ?_⟩
    have n4 := n3.set he rd
    have I4 := I3.wrF (o := .lst (e.vs ++ [w])) (n3.fb e hm) (fun vs z => by cases z)
    refine fin G3 S3 _ σ _ I4 (e1.tr e3) n4 ?_
    rw [kds_in (d := d) hek hl, ← he, hap]
    exact kk
  refine ⟨cells es, k, n2.hp, kd.kyR ry I2.fr.ex hk, lc, fun v hv' => ?_, fun hv' => ?_⟩
  · rcases cells_find (k := k) (es := es) with ⟨h1, _⟩ | ⟨l, e, r, h1, h2, h3, h4⟩
    · rw [h1] at hv'; cases hv'
    · rw [h4] at hv'; cases hv'
      have hm : e ∈ es := by rw [h1]; exact List.mem_append_right _ List.mem_cons_self
      exact go l r e es _ h1 h2 h3 I2 n2 (hz2 (e.k, e.ds) (by rw [← ek]; exact List.mem_map_of_mem (f := fun e => (e.k, e.ds)) hm)) fun d => by rw [ek]
  · rcases cells_find (k := k) (es := es) with ⟨_, h2⟩ | ⟨l, e, r, h1, h2, h3, h4⟩
    · rw [putK_new h2]
      have I3 := I2.wrF (o := kd.ob (cells es ++ [(k, L2.V.ref q)])) n2.fp (fun vs => kd.nt _ vs)
      have hbp : ∀ e ∈ es, e.b ≠ p := fun e he z => by
        have := n2.nd
        rw [List.nodup_cons] at this
        exact this.1 (z ▸ List.mem_map_of_mem he)
      have n3 : ND kd X.K F G1 S1 (upd (upd H1 q (.lst [])) p (kd.ob (cells es ++ [(k, L2.V.ref q)]))) σ p (es ++ [⟨k, q, [], []⟩]) := by
        refine ⟨?_, fun x hx => ?_, n2.fp, fun x hx => ?_, ?_⟩
        · rw [upd_same]; unfold cells; rw [List.map_append]; rfl
        · rcases List.mem_append.mp hx with hx | hx
          · obtain ⟨a, b⟩ := n2.hb x hx
            exact ⟨by rw [upd_ne (hbp x hx)]; exact a, b⟩
          · rw [List.mem_singleton.mp hx]
            exact ⟨by rw [upd_ne (fun z => hpq z.symm), upd_same], .nil⟩
        · rcases List.mem_append.mp hx with hx | hx
          · exact n2.fb x hx
          · rw [List.mem_singleton.mp hx]; exact fq
        · have := n2.nd
          rw [List.nodup_cons] at this ⊢
          rw [List.map_append]
          refine ⟨fun z => ?_, ?_⟩
          · rcases List.mem_append.mp z with z | z
            · exact this.1 z
            · exact hpq (by simpa using z)
          · rw [List.nodup_append]
            refine ⟨this.2, by simp, fun a ha b hb z => ?_⟩
            obtain ⟨x, hx, rfl⟩ := List.mem_map.mp ha
            have : b = q := by simpa using hb
            exact hbq x hx (z.trans this)
      refine go es [] ⟨k, q, [], []⟩ _ _ rfl rfl h2 I3 n3 (by show 0 < 1000000; decide) fun d => ?_
      have hne : ∀ x ∈ kdsOf es, x.1 ≠ k := fun x hx => by
        obtain ⟨e, he, rfl⟩ := List.mem_map.mp hx
        exact h2 e he
      have e2 : kdsOf (es ++ [⟨k, q, [], []⟩]) = kdsOf es ++ [(k, [])] := by unfold kdsOf; rw [List.map_append]; rfl
      rw [e2, appK_in hne, ← ek, appK_new hne]; rfl
    · rw [h4] at hv'; cases hv'
end
/-! the whole becomes frozen -/
theorem frz_all : ∀ (es : List (En κ)) {S : Hp}, IV K F G S H σ → (∀ e ∈ es, H e.b = some (.lst e.vs)) → (∀ e ∈ es, Fre F G S σ e.b) → (es.map (·.b)).Nodup → ∃ S', IV K F G S' H σ ∧ Ex S S' ∧ (∀ e ∈ es, S' e.b = some (.lst e.vs)) ∧ ∀ a, a ∉ es.map (·.b) → S' a = S a
  | [], S, I, _, _, _ => ⟨S, I, Ex.rfl', fun _ h => (nomatch h), fun _ _ => rfl⟩
  | e :: es, S, I, hb, fb, nd => by
    rw [List.map_cons, List.nodup_cons] at nd
    have f := fb e List.mem_cons_self
    have I1 := I.frz2 f.s f.h (hb e List.mem_cons_self) f.no
    have e1 : Ex S (upd S e.b (.lst e.vs)) := Ex.new f.s
    have ne : ∀ x ∈ es, x.b ≠ e.b := fun x hx z => nd.1 (z ▸ List.mem_map_of_mem hx)
    obtain ⟨S', I2, e2, h1, h2⟩ := frz_all es I1 (fun x hx => hb x (List.mem_cons_of_mem _ hx)) (fun x hx => by
      have := fb x (List.mem_cons_of_mem _ hx)
      exact ⟨by rw [upd_ne (ne x hx)]; exact this.s, this.h, this.b, this.no⟩) nd.2
    refine ⟨S', I2, e1.tr e2, fun x hx => ?_, fun a ha => ?_⟩
    · rcases List.mem_cons.mp hx with rfl | hx
      · exact e2 _ _ upd_same
      · exact h1 x hx
    · rw [List.map_cons, List.mem_cons] at ha
      rw [h2 a (fun z => ha (.inr z)), upd_ne (fun z => ha (.inl z))]
theorem ND.freeze (n : ND kd K F G S H σ p es) (I : IV K F G S H σ) {i : Nat} (hG : G[i]? = some (.va (.adr p))) : ∃ S', IV K F (G.set i (.va (kd.dm ((kdsOf es).map fun q => (q.1, D.lst q.2))))) S' H σ ∧ Ex S S' := by
  obtain ⟨v0, ev0, rv0⟩ := I.va hG
  cases rv0
  have nd := n.nd
  rw [List.nodup_cons] at nd
  obtain ⟨S1, I1, e1, h1, h2⟩ := frz_all es I (fun e he => (n.hb e he).1) n.fb nd.2
  have sp : S1 p = none := by rw [h2 p nd.1]; exact n.fp.s
  have I2 := I1.frz2 sp n.fp.h n.hp n.fp.no
  have e2 : Ex S1 (upd S1 p (kd.ob (cells es))) := Ex.new sp
  refine ⟨_, I2.know ev0 ?_, e1.tr e2⟩
  refine (kd.crep (kds := (kdsOf es).map fun q => (q.1, D.lst q.2)) ?_ ?_).rep upd_same
  · unfold cells kdsOf
    rw [List.map_map, List.map_map, List.map_map]
    rfl
  · unfold cells kdsOf
    rw [List.map_map, List.map_map, List.map_map]
    have key : ∀ l : List (En κ), (∀ e ∈ l, e ∈ es) → Reps K (upd S1 p (kd.ob (cells es))) (l.map ((fun x : κ × L2.V => x.2) ∘ fun e : En κ => (e.k, L2.V.ref e.b))) (l.map ((fun x : κ × D => x.2) ∘ (fun q : κ × List D => (q.1, D.lst q.2)) ∘ fun e : En κ => (e.k, e.ds))) := fun l => by
      induction l with
      | nil => intro _; exact .nil
      | cons x l ih =>
        intro hl
        have hx := hl x List.mem_cons_self
        exact .cons (.lst (e2 _ _ (h1 x hx)) ((n.hb x hx).2.mono (e1.tr e2))) (ih fun y hy => hl y (List.mem_cons_of_mem _ hy))
    exact key es fun _ h => h
/-- x = {}, then a statement that fills it with lists -/
theorem xss_nest {P : Pst} (i : Nat) {x : Str} {p1 p2 p3 : Pos} (hn : X.N.Nodup) (hil : i < G.length) (h : ∀ p, XDN1 kd X F st (G.set i (.va (.adr p))) p [] fun G' kds => G'[i]? = some (.va (.adr p)) ∧ XSs X F rest (G'.set i (.va (kd.dm (kds.map fun q => (q.1, D.lst q.2))))) P)
    (hi : X.N[i]? = some x := by rfl) (hx : Loc X.env.scope x := by first | exact Or.inl rfl | exact Or.inr rfl) (hs : swapsWith (.Dict [] [] p1) (some (.Name x p2)) p3.line X.env = pure false := by rfl)
    (hf : X.fn x = true ∨ X.env.scope.names.lookup x = some .local := by first | exact .inl rfl | exact .inr rfl | assumption) : XSs X F (.Assign [.Name x p2] (.Dict [] [] p1) p3 :: st :: rest) G P := fun S H σ E I ok => by
  refine semSs_of (pss_cons (ps_set hn hi hx kd.dnew hs hf) (pss_cons ps_sem pss_sem)) ?_
  intro p hp
  obtain ⟨I1, fp⟩ := I.junk (o := kd.ob []) hp
  have I2 := I1.set (i := i) (v := .ref p) (d := .adr p) (.adr p)
  have no : NoOwn (G.set i (.va (.adr p))) (σ.set i (some (.ref p))) p := fun j q c hG hz => by
    by_cases hij : i = j
    · subst hij
      rw [List.getElem?_set_self hil] at hG; cases hG
    · rw [List.getElem?_set_ne hij] at hG hz
      exact fp.no j q c hG hz
  have n : ND kd X.K F (G.set i (.va (.adr p))) S (upd H p (kd.ob [])) (σ.set i (some (.ref p))) p [] := ⟨upd_same, fun _ h => (nomatch h), ⟨fp.s, fp.h, fp.b, no⟩, fun _ h => (nomatch h), by simp⟩
  refine h p S _ _ _ [] I2 n rfl fun G' S' H' σ' es' I' e' n' ⟨hG, k⟩ => ?_
  obtain ⟨S2, I3, e3⟩ := n'.freeze I' hG
  exact k S2 H' σ' E I3 (ok.later (e'.tr e3))
theorem xdnn {X : Cx} {sts : List Stmt} {T : List Sl} {kds : List (κ × List D)} {Kk : List Sl → List (κ × List D) → Prop} (n : Nrm G T) (h : XDN kd X F sts T p kds Kk) : XDN kd X F sts G p kds Kk := by rw [n.eq]; exact h
end
end Pu

namespace Pu
open PySem PySem.Spec PyProof.Rows L2
/-! max(xs, default=d), ints -/
theorem maxOf_ge : ∀ (ys : List Int) (y z : Int), z ∈ y :: ys → z ≤ PySem.W.maxOf y ys
  | [], y, z, h => by rw [List.mem_singleton.mp h]; exact Int.le_refl _
  | x :: ys, y, z, h => by
    show z ≤ PySem.W.maxOf (if (decide (y < x)) = true then x else y) ys
    by_cases hx : y < x
    · rw [if_pos (decide_eq_true hx)]
      rcases List.mem_cons.mp h with rfl | h
      · have := maxOf_ge ys x x List.mem_cons_self; omega
      · exact maxOf_ge ys x z h
    · rw [if_neg (by rw [decide_eq_false hx]; decide)]
      rcases List.mem_cons.mp h with rfl | h
      · exact maxOf_ge ys z z List.mem_cons_self
      · rcases List.mem_cons.mp h with rfl | h
        · have := maxOf_ge ys y y List.mem_cons_self; omega
        · exact maxOf_ge ys y z (List.mem_cons_of_mem _ h)
theorem maxOf_mem : ∀ (ys : List Int) (y : Int), PySem.W.maxOf y ys ∈ y :: ys
  | [], y => List.mem_cons_self
  | x :: ys, y => by
    show PySem.W.maxOf (if (decide (y < x)) = true then x else y) ys ∈ _
    have := maxOf_mem ys (if (decide (y < x)) = true then x else y)
    rcases List.mem_cons.mp this with h | h
    · rw [h]; split <;> simp
    · exact List.mem_cons_of_mem _ (List.mem_cons_of_mem _ h)
theorem readsI {h : Heap} : ∀ {its : List Value} {ns : List Int}, Vals (ns.map L2.V.int) its → ∃ as, ReadsAll h its (ns.map fun n => PyData.int n) as
  | _, [], .nil => ⟨_, .nil⟩
  | _, n :: ns, .cons r t => by
    obtain ⟨tk, rfl⟩ := r
    obtain ⟨as, ha⟩ := readsI t
    exact ⟨_, .cons (.int n tk) ha⟩
def rMaxDf (K : PySem.W.Frag) : List L2.V → List L2.V → Hp → VK → Prop := fun vs zs H Q => ∃ (a : Addr) (ns : List Int) (d : Int), vs = [L2.V.ref a] ∧ zs = [L2.V.int d] ∧ SqL K H a (ns.map L2.V.int) ∧ ∀ m, (∀ y ∈ ns, y ≤ m) → ((ns = [] ∧ m = d) ∨ m ∈ ns) → Q (.int m) H
theorem cr_maxDf {X : Cx} (hc : X.calm = true) (hu : X.A.units + 1 < cLine) : CallRK X (.builtin "max") [("default" : Str)] (rMaxDf X.K) := by
  intro pins s σ H vs zs us ws Q I r rz h
  obtain ⟨a, ns, d, rfl, rfl, hs, q⟩ := h
  obtain ⟨its, rv, hl, _⟩ := I.list hs
  obtain ⟨wv, rfl, rw'⟩ := rz.one
  obtain ⟨tk, rfl⟩ := rw'
  rw [Vals.ref1 r]
  refine PySem.W.max_list_datum_default (α := Int) (xs := ns) (I.ok.hd hc) hl.isList (by obtain ⟨as, ha⟩ := readsI (h := s.heap) rv; exact ⟨as, by rw [List.toList_toArray]; exact ha⟩) (by show X.A.units + 1 + 0 < cLine; omega) (fun e h' tk' hk => ?_) (fun y ys i v h' tk' e hi hv hk => ?_)
  · exact ⟨.int d, H, I.kept hk, ⟨_, rfl⟩, q d (fun y hy => by rw [e] at hy; cases hy) (.inl ⟨e, rfl⟩)⟩
  · obtain ⟨as, hr⟩ := hv
    have : ∃ t, v = .int (PySem.W.maxOf y ys) t := by
      have hr' : Reads h' v (.int (PySem.W.maxOf y ys)) as := hr
      cases hr'
      exact ⟨_, rfl⟩
    obtain ⟨t, rfl⟩ := this
    exact ⟨.int _, H, I.kept hk, ⟨_, rfl⟩, q _ (fun z hz => maxOf_ge ys y z (by rw [← e]; exact hz)) (.inr (by rw [e]; exact maxOf_mem ys y))⟩
section
variable {X : Cx} {F : Fm} {G : List Sl} {Kk : D → List Sl → Prop} {pos : Pos}
theorem xe_maxDf {e e2 : Expr} {p kp : Pos} (hu : X.A.units + 1 < cLine) (hm : X.mg "max" = none)
    (h : XE X F e G fun d G1 => XE X F e2 G1 fun z G2 => ∃ (ns : List Int) (d0 : Int), d = .lst (ns.map D.int) ∧ z = .int d0 ∧ ∀ m, (∀ y ∈ ns, y ≤ m) → ((ns = [] ∧ m = d0) ∨ m ∈ ns) → Kk (.int m) G2)
    (hc : X.calm = true := by rfl) (hg : Gl X "max" := by rfl) (hv : bootBuiltins "max" = some (.builtin "max") := by decide +kernel)
    (he : backTo pos (starEach [e] X.env) = (false, eval e X.env) :: backTo pos (starEach [] X.env) := by rfl) (hpl : (backTo pos (starEach [e] X.env)).any (·.1) = false := by rfl)
    (hall : (backToKw pos (keywordEach [⟨some "default", e2, kp⟩] X.env)).all (·.1.isSome) = true := by rfl) (hnone : (backToKw pos (keywordEach [⟨some "default", e2, kp⟩] X.env)).any (·.1.isNone) = false := by rfl) (hks : (backToKw pos (keywordEach [⟨some "default", e2, kp⟩] X.env)).filterMap (·.1) = [("default" : Str)] := by rfl) (hs : starEach [e] X.env = (false, eval e X.env) :: starEach [] X.env := by rfl) :
    XE X F (.Call (.Name "max" p) [e] [⟨some "default", e2, kp⟩] pos) G Kk := by
  intro S H σ I
  refine semE_of (pe_callBK (cr_maxDf hc hu) hg hm hv (pa_cons pe_sem pa_nil hs) (pk_cons pe_sem pk_nil) (by decide) (by decide) he hpl hall hnone hks) ?_
  refine semE_mono (h S H σ I) fun v1 H1 ⟨d, G1, S1, I1, e1, r1, q1⟩ => ?_
  refine semE_mono (q1 S1 H1 σ I1) fun v2 H2 ⟨z, G2, S2, I2, ee2, r2, ns, d0, ed, ez, k⟩ => ?_
  subst ed ez
  cases r2
  have r1' := r1.mono ee2
  cases r1' with
  | @lst a vs _ hp rr =>
    have e := rr.ints
    subst e
    exact ⟨a, ns, d0, rfl, rfl, SqL.of (I2.fr.ex _ _ hp), fun m h1 h2 => .at I2 (e1.tr ee2) (.int m) (k m h1 h2)⟩
end
end Pu

namespace Pu
open PySem PySem.Spec PyProof.Rows L2
abbrev ZObj (h : Heap) (z TI TO : Addr) (f0 f1 : Value) : Prop :=
  h.get? z = some { cls := .type "zip", dict := none, data := .fields #[f0, f1, .bool false, .ref TI, .ref TO], slots := #[] }
/-- what the first two places of a zip may hold -/
def ZF (f0 f1 : Value) : Prop := (f0 = .none ∧ f1 = .bool false) ∨ ∃ (T : Addr) (b : Bool), f0 = rawInt T ∧ f1 = .bool b
section
variable {prog : Program} {w : World} {A : Around} {E : Value → Shared → Prop} {s : Shared} {z TI TO i1 i2 l1 l2 : Addr} {k1 k2 : Nat} {xs ys : Array Value} {x y a b f0 f1 : Value}
theorem wpAny_alive {p : Addr} {Q : Option Obj → Shared → Prop} (h : Q (s.heap.get? p) s) : wpAny (model prog w) A (loadIfAlive p) Q E s := fun _ _ _ => h
theorem zip_isFree {Q : Bool → Shared → Prop} (hz : ZObj s.heap z TI TO f0 f1) (zf : ZF f0 f1) (h1 : Q true s)
    (h2 : ∀ h' g0 g1, ZF g0 g1 → ZObj h' z TI TO g0 g1 → Heap.SameBut z s.heap h' → Q false { s with heap := h' }) : wpAny (model prog w) A (Builtin.SmallTypes.ownedTupleIsFree (.ref z)) Q E s := by
  unfold Builtin.SmallTypes.ownedTupleIsFree
  refine wpAny_bind (wpAny_field hz rfl (x := f0) rfl ?_)
  rcases zf with ⟨e0, e1⟩ | ⟨T, c, e0, e1⟩
  · subst e0 e1
    exact wpAny_pure h1
  · subst e0 e1
    show wpAny _ _ (loadIfAlive _ >>= _) _ _ _
    refine wpAny_bind (wpAny_alive ?_)
    cases hT : s.heap.get? (Int.toNat (T : Int)) with
    | none => exact wpAny_pure h1
    | some o =>
      simp only [Option.isNone_some, Bool.false_eq_true, if_false]
      refine wpAny_bind (wpAny_field hz rfl (x := .bool c) rfl ?_)
      cases c with
      | true => 
        exact wpAny_pure (h2 s.heap _ _ (.inr ⟨T, true, rfl, rfl⟩) hz ⟨rfl, fun _ _ => rfl⟩)
      | false =>
        show wpAny _ _ (setField (.ref z) 1 (.bool true) >>= _) _ _ _
        refine wpAny_bind (wpAny_setField_rec hz (by simp) fun g hg sb => wpAny_pure ?_)
        exact h2 g _ _ (.inr ⟨T, true, rfl, rfl⟩) hg sb
/-- what one more item of a zip leaves -/
structure ZNext (h : Heap) (n : Nat) (z TI TO i1 i2 l1 l2 : Addr) (k1 k2 : Nat) (x y : Value) (h' : Heap) : Prop where
  zo : ∃ g0 g1, ZF g0 g1 ∧ ZObj h' z TI TO g0 g1
  ti : IsPair h' TI (.ref i1) (.ref i2)
  to' : ∃ c d, IsPair h' TO c d
  a1 : h'.IsListIter i1 l1 (k1 + 1)
  a2 : h'.IsListIter i2 l2 (k2 + 1)
  new : IsPair h' n x y
  sz : h'.objs.size = n + 1
  oth : ∀ c o, c ≠ z → c ≠ TO → c ≠ i1 → c ≠ i2 → h.get? c = some o → h'.get? c = some o
theorem zip_item {Q : Value → Shared → Prop} (D : ZipApart z TI TO i1 i2 l1 l2) (hz : ZObj s.heap z TI TO f0 f1) (zf : ZF f0 f1) (hTI : IsPair s.heap TI (.ref i1) (.ref i2)) (hTO : IsPair s.heap TO a b)
    (it1 : s.heap.IsListIter i1 l1 k1) (it2 : s.heap.IsListIter i2 l2 k2) (hl1 : s.heap.IsList l1 xs) (hl2 : s.heap.IsList l2 ys) (hx : xs[k1]? = some x) (hy : ys[k2]? = some y)
    (fin : ∀ h', ZNext s.heap s.heap.objs.size z TI TO i1 i2 l1 l2 k1 k2 x y h' → Q (.ref s.heap.objs.size) { s with heap := h' }) :
    wpAny (model prog w) A (Builtin.«zip.__next__» ⟨[.ref z], []⟩) (fun fin s' => ∃ v, fin = .done (.ret v) ∧ Q v s') E s := by
  show wpAny _ _ (field (.ref z) 2 >>= _) _ _ _
  apply wpAny_bind; apply wpAny_field hz rfl (x := .bool false) rfl
  show wpAny _ _ (field (.ref z) 3 >>= _) _ _ _
  apply wpAny_bind; apply wpAny_field hz rfl (x := .ref TI) rfl
  apply wpAny_bind; apply wpAny_seqItems hTI rfl
  show wpAny _ _ (Builtin.SmallTypes.ownedTupleIsFree (.ref z) >>= _) _ _ _
  apply wpAny_bind
  refine zip_isFree hz zf ?free ?held
  case free =>
    simp only [if_true]
    apply wpAny_bind; apply wpAny_rule
    apply wpAny_bind; apply wpAny_field hz rfl (x := .ref TO) rfl
    refine wpAny_bind (wpAny_setField_rec hz (by simp) fun p1 z1 s1 => ?_)
    have z1 : ZObj p1 z TI TO .ellipsis f1 := z1
    apply wpAny_bind
    simp only [List.zipIdx_cons, List.zipIdx_nil, List.forIn_cons, List.forIn_nil]
    refine wpAny_bind (wpAny_bind (wpAny_onRaise ?_))
    show wpAny _ _ (Builtin.SmallTypes.nextOf (.ref i1) >>= _) _ _ _
    refine wpAny_bind (wpAny_nextOf_list_item (it1.extBut s1.extBut D.i1z) (hl1.extBut s1.extBut D.l1z) hx fun p2 n1 s2 => wpAny_pure ?_)
    have t2 : IsPair p2 TO a b := s2.extBut _ _ D.TOi1 (s1.extBut _ _ D.TOz hTO)
    apply wpAny_bind; apply wpAny_seqItems t2 rfl
    refine wpAny_bind (wpAny_updateSeq_pair t2 fun p3 t3 s3 => ?_)
    have t3 : IsPair p3 TO x b := t3
    apply wpAny_bind; apply wpAny_letGo; apply wpAny_pure
    refine wpAny_bind (wpAny_bind (wpAny_onRaise ?_))
    show wpAny _ _ (Builtin.SmallTypes.nextOf (.ref i2) >>= _) _ _ _
    have i2' := ((it2.extBut s1.extBut D.i2z).extBut s2.extBut D.i12.symm).extBut s3.extBut D.TOi2.symm
    have l2' := ((hl2.extBut s1.extBut D.l2z).extBut s2.extBut D.l2i1).extBut s3.extBut D.l2TO
    refine wpAny_bind (wpAny_nextOf_list_item i2' l2' hy fun p4 n2 s4 => wpAny_pure ?_)
    have t4 : IsPair p4 TO x b := s4.extBut _ _ D.TOi2 t3
    apply wpAny_bind; apply wpAny_seqItems t4 rfl
    refine wpAny_bind (wpAny_updateSeq_pair t4 fun p5 t5 s5 => ?_)
    have t5 : IsPair p5 TO x y := t5
    apply wpAny_bind; apply wpAny_letGo; apply wpAny_pure; apply wpAny_pure
    apply wpAny_bind; apply wpAny_seqItems t5 rfl
    refine wpAny_bind (wpAny_newTuple ?_)
    have hsz : p5.objs.size = s.heap.objs.size := by rw [s5.1, s4.1, s3.1, s2.1, s1.1]
    have z5 : ZObj p5 z TI TO .ellipsis f1 := s5.extBut _ _ (Ne.symm D.TOz) (s4.extBut _ _ (Ne.symm D.i2z) (s3.extBut _ _ (Ne.symm D.TOz) (s2.extBut _ _ (Ne.symm D.i1z) z1)))
    have keep5 : ∀ c o, c ≠ z → c ≠ TO → c ≠ i1 → c ≠ i2 → s.heap.get? c = some o → p5.get? c = some o := fun c o u1 u2 u3 u4 e =>
      s5.extBut c o u2 (s4.extBut c o u4 (s3.extBut c o u2 (s2.extBut c o u3 (s1.extBut c o u1 e))))
    have m1 := ((n1.extBut s3.extBut (Ne.symm D.TOi1)).extBut s4.extBut D.i12).extBut s5.extBut (Ne.symm D.TOi1)
    have m2 := n2.extBut s5.extBut (Ne.symm D.TOi2)
    have zl : z < p5.objs.size := Heap.lt_size z5
    show wpAny _ _ (Builtin.SmallTypes.ownedTupleHandOut (.ref z) (.ref p5.objs.size) >>= _) _ _ _
    apply wpAny_bind
    unfold Builtin.SmallTypes.ownedTupleHandOut
    have z6 : ZObj (p5.push { cls := .type "tuple", data := .seq #[x, y] }) z TI TO .ellipsis f1 := Heap.get?_push_of_some _ z5
    refine wpAny_bind (wpAny_setField_rec z6 (by simp) fun p7 z7 s7 => ?_)
    have z7 : ZObj p7 z TI TO (rawInt p5.objs.size) f1 := z7
    refine wpAny_setField_rec z7 (by simp) fun p8 z8 s8 => ?_
    have z8 : ZObj p8 z TI TO (rawInt p5.objs.size) (.bool false) := z8
    have up8 : ∀ c o, c ≠ z → p5.get? c = some o → p8.get? c = some o := fun c o u e => s8.extBut c o u (s7.extBut c o u (Heap.get?_push_of_some _ e))
    have T8 : IsPair p8 p5.objs.size x y := s8.extBut _ _ (Nat.ne_of_gt zl) (s7.extBut _ _ (Nat.ne_of_gt zl) (Heap.get?_push_size _ rfl))
    have n8 : p8.objs.size = p5.objs.size + 1 := by rw [s8.1, s7.1, Heap.size_push]
    rw [hsz] at T8 n8
    refine wpAny_pure ⟨_, rfl, ?_⟩
    show Q (.ref p5.objs.size) _
    rw [hsz]
    exact fin p8 ⟨⟨_, _, .inr ⟨_, _, rfl, rfl⟩, z8⟩, up8 _ _ D.TIz (keep5 _ _ D.TIz D.TITO D.TIi1 D.TIi2 hTI), ⟨x, y, up8 _ _ D.TOz t5⟩, m1.at fun o e => up8 _ o D.i1z e, m2.at fun o e => up8 _ o D.i2z e, T8, n8,
      fun c o u1 u2 u3 u4 e => up8 c o u1 (keep5 c o u1 u2 u3 u4 e)⟩
  case held =>
    intro p1 g0 g1 zg z1 s1
    simp only [Bool.false_eq_true, if_false]
    rw [← Array.forIn_toList]
    show wpAny _ _ (forIn [Value.ref i1, Value.ref i2] _ _ >>= _) _ _ _
    simp only [List.forIn_cons, List.forIn_nil]
    apply wpAny_bind; apply wpAny_bind; apply wpAny_bind; apply wpAny_holding
    show wpAny _ _ (Builtin.SmallTypes.nextOf (.ref i1) >>= _) _ _ _
    refine wpAny_bind (wpAny_nextOf_list_item (it1.extBut s1.extBut D.i1z) (hl1.extBut s1.extBut D.l1z) hx fun p2 n1 s2 => wpAny_pure ?_)
    apply wpAny_pure
    apply wpAny_bind; apply wpAny_bind; apply wpAny_holding
    show wpAny _ _ (Builtin.SmallTypes.nextOf (.ref i2) >>= _) _ _ _
    refine wpAny_bind (wpAny_nextOf_list_item ((it2.extBut s1.extBut D.i2z).extBut s2.extBut D.i12.symm) ((hl2.extBut s1.extBut D.l2z).extBut s2.extBut D.l2i1) hy fun p3 n2 s3 => wpAny_pure ?_)
    apply wpAny_pure
    apply wpAny_pure
    show wpAny _ _ (newTuple [x, y] >>= fun v => ret v) _ _ _
    refine wpAny_bind (wpAny_newTuple ?_)
    have hsz : p3.objs.size = s.heap.objs.size := by rw [s3.1, s2.1, s1.1]
    have keep3 : ∀ c o, c ≠ z → c ≠ i1 → c ≠ i2 → s.heap.get? c = some o → (p3.push { cls := .type "tuple", data := .seq #[x, y] }).get? c = some o := fun c o u1 u3 u4 e =>
      Heap.get?_push_of_some _ (s3.extBut c o u4 (s2.extBut c o u3 (s1.extBut c o u1 e)))
    have z3 : ZObj p3 z TI TO g0 g1 := s3.extBut _ _ (Ne.symm D.i2z) (s2.extBut _ _ (Ne.symm D.i1z) z1)
    have t4 : IsPair (p3.push { cls := .type "tuple", data := .seq #[x, y] }) p3.objs.size x y := Heap.get?_push_size _ rfl
    have n4 : (p3.push { cls := .type "tuple", data := .seq #[x, y] }).objs.size = p3.objs.size + 1 := Heap.size_push ..
    have m1 := (n1.extBut s3.extBut D.i12).at fun o e => Heap.get?_push_of_some { cls := .type "tuple", data := .seq #[x, y] } e
    refine wpAny_pure ⟨_, rfl, ?_⟩
    show Q (.ref p3.objs.size) _
    rw [hsz] at t4 n4 ⊢
    exact fin _ ⟨⟨g0, g1, zg, Heap.get?_push_of_some _ z3⟩, keep3 _ _ D.TIz D.TIi1 D.TIi2 hTI, ⟨a, b, keep3 _ _ D.TOz D.TOi1 D.TOi2 hTO⟩, m1, n2.at fun o e => Heap.get?_push_of_some _ e, t4, n4,
      fun c o u1 u2 u3 u4 e => keep3 c o u1 u3 u4 e⟩
theorem zip_end {Q : Fin → Shared → Prop} (hh : A.handled = none) (D : ZipApart z TI TO i1 i2 l1 l2) (hz : ZObj s.heap z TI TO f0 f1) (zf : ZF f0 f1) (hTI : IsPair s.heap TI (.ref i1) (.ref i2)) (hTO : IsPair s.heap TO a b)
    (it1 : s.heap.IsListIter i1 l1 k1) (it2 : s.heap.IsListIter i2 l2 k2) (hl1 : s.heap.IsList l1 xs) (hl2 : s.heap.IsList l2 ys) (hend : xs[k1]? = none ∨ ys[k2]? = none)
    (fin : ∀ h' e, (∀ c o, c ≠ z → c ≠ TO → c ≠ i1 → c ≠ i2 → s.heap.get? c = some o → h'.get? c = some o) → (∃ o, h'.get? e = some o ∧ o.cls = .type "StopIteration") → E (.ref e) { s with heap := h' }) :
    wpAny (model prog w) A (Builtin.«zip.__next__» ⟨[.ref z], []⟩) Q E s := by
  show wpAny _ _ (field (.ref z) 2 >>= _) _ _ _
  apply wpAny_bind; apply wpAny_field hz rfl (x := .bool false) rfl
  show wpAny _ _ (field (.ref z) 3 >>= _) _ _ _
  apply wpAny_bind; apply wpAny_field hz rfl (x := .ref TI) rfl
  apply wpAny_bind; apply wpAny_seqItems hTI rfl
  show wpAny _ _ (Builtin.SmallTypes.ownedTupleIsFree (.ref z) >>= _) _ _ _
  apply wpAny_bind
  refine zip_isFree hz zf ?free ?held
  case free =>
    simp only [if_true]
    apply wpAny_bind; apply wpAny_rule
    apply wpAny_bind; apply wpAny_field hz rfl (x := .ref TO) rfl
    refine wpAny_bind (wpAny_setField_rec hz (by simp) fun p1 z1 s1 => ?_)
    have z1 : ZObj p1 z TI TO .ellipsis f1 := z1
    apply wpAny_bind
    simp only [List.zipIdx_cons, List.zipIdx_nil, List.forIn_cons, List.forIn_nil]
    refine wpAny_bind (wpAny_bind (wpAny_onRaise ?_))
    show wpAny _ _ (Builtin.SmallTypes.nextOf (.ref i1) >>= _) _ _ _
    cases hx : xs[k1]? with
    | none =>
      refine wpAny_bind (wpAny_nextOf_list_end hh (it1.extBut s1.extBut D.i1z) (hl1.extBut s1.extBut D.l1z) hx fun p2 e s2 he => ?_)
      obtain ⟨oe, ge, ce⟩ := he
      have z2 : ZObj p2 z TI TO .ellipsis f1 := s2 _ _ (Ne.symm D.i1z) z1
      have ne : e ≠ z := fun q => by rw [q, z2] at ge; cases ge; simp at ce
      refine wpAny_setField_rec z2 (by simp) fun p3 _ s3 => ?_
      exact fin p3 e (fun c o u1 _ u3 _ g => s3.extBut c o u1 (s2 c o u3 (s1.extBut c o u1 g))) ⟨oe, s3.extBut _ _ ne ge, ce⟩
    | some x =>
      have hy : ys[k2]? = none := hend.resolve_left (by rw [hx]; exact fun q => nomatch q)
      refine wpAny_bind (wpAny_nextOf_list_item (it1.extBut s1.extBut D.i1z) (hl1.extBut s1.extBut D.l1z) hx fun p2 n1 s2 => wpAny_pure ?_)
      have t2 : IsPair p2 TO a b := s2.extBut _ _ D.TOi1 (s1.extBut _ _ D.TOz hTO)
      apply wpAny_bind; apply wpAny_seqItems t2 rfl
      refine wpAny_bind (wpAny_updateSeq_pair t2 fun p3 t3 s3 => ?_)
      apply wpAny_bind; apply wpAny_letGo; apply wpAny_pure
      refine wpAny_bind (wpAny_bind (wpAny_onRaise ?_))
      show wpAny _ _ (Builtin.SmallTypes.nextOf (.ref i2) >>= _) _ _ _
      have i2' := ((it2.extBut s1.extBut D.i2z).extBut s2.extBut D.i12.symm).extBut s3.extBut D.TOi2.symm
      have l2' := ((hl2.extBut s1.extBut D.l2z).extBut s2.extBut D.l2i1).extBut s3.extBut D.l2TO
      refine wpAny_bind (wpAny_nextOf_list_end hh i2' l2' hy fun p4 e s4 he => ?_)
      obtain ⟨oe, ge, ce⟩ := he
      have z4 : ZObj p4 z TI TO .ellipsis f1 := s4 _ _ (Ne.symm D.i2z) (s3.extBut _ _ (Ne.symm D.TOz) (s2.extBut _ _ (Ne.symm D.i1z) z1))
      have ne : e ≠ z := fun q => by rw [q, z4] at ge; cases ge; simp at ce
      refine wpAny_setField_rec z4 (by simp) fun p5 _ s5 => ?_
      exact fin p5 e (fun c o u1 u2 u3 u4 g => s5.extBut c o u1 (s4 c o u4 (s3.extBut c o u2 (s2.extBut c o u3 (s1.extBut c o u1 g))))) ⟨oe, s5.extBut _ _ ne ge, ce⟩
  case held =>
    intro p1 g0 g1 zg z1 s1
    simp only [Bool.false_eq_true, if_false]
    rw [← Array.forIn_toList]
    show wpAny _ _ (forIn [Value.ref i1, Value.ref i2] _ _ >>= _) _ _ _
    simp only [List.forIn_cons, List.forIn_nil]
    apply wpAny_bind; apply wpAny_bind; apply wpAny_bind; apply wpAny_holding
    show wpAny _ _ (Builtin.SmallTypes.nextOf (.ref i1) >>= _) _ _ _
    cases hx : xs[k1]? with
    | none =>
      refine wpAny_bind (wpAny_nextOf_list_end hh (it1.extBut s1.extBut D.i1z) (hl1.extBut s1.extBut D.l1z) hx fun p2 e s2 he => ?_)
      exact fin p2 e (fun c o u1 _ u3 _ g => s2 c o u3 (s1.extBut c o u1 g)) he
    | some x =>
      have hy : ys[k2]? = none := hend.resolve_left (by rw [hx]; exact fun q => nomatch q)
      refine wpAny_bind (wpAny_nextOf_list_item (it1.extBut s1.extBut D.i1z) (hl1.extBut s1.extBut D.l1z) hx fun p2 n1 s2 => wpAny_pure ?_)
      apply wpAny_pure
      apply wpAny_bind; apply wpAny_bind; apply wpAny_holding
      show wpAny _ _ (Builtin.SmallTypes.nextOf (.ref i2) >>= _) _ _ _
      refine wpAny_bind (wpAny_nextOf_list_end hh ((it2.extBut s1.extBut D.i2z).extBut s2.extBut D.i12.symm) ((hl2.extBut s1.extBut D.l2z).extBut s2.extBut D.l2i1) hy fun p3 e s3 he => ?_)
      exact fin p3 e (fun c o u1 _ u3 u4 g => s3 c o u4 (s2.extBut c o u3 (s1.extBut c o u1 g))) he
end
section
variable {prog : Program} {w : World} {A : Around} {E : Value → Shared → Prop} {s : Shared} {e z TI TO i1 i2 l1 l2 : Addr} {k : Nat} {xs ys : Array Value} {x y a b f0 f1 old : Value}
theorem zip_next {Q : Value → Shared → Prop} (D : ZipApart z TI TO i1 i2 l1 l2) (hz : ZObj s.heap z TI TO f0 f1) (zf : ZF f0 f1) (hTI : IsPair s.heap TI (.ref i1) (.ref i2)) (hTO : IsPair s.heap TO a b)
    (it1 : s.heap.IsListIter i1 l1 k) (it2 : s.heap.IsListIter i2 l2 k) (hl1 : s.heap.IsList l1 xs) (hl2 : s.heap.IsList l2 ys) (hx : xs[k]? = some x) (hy : ys[k]? = some y)
    (fin : ∀ h', ZNext s.heap s.heap.objs.size z TI TO i1 i2 l1 l2 k k x y h' → Q (.ref s.heap.objs.size) { s with heap := h' }) :
    wpAny (model prog w) A (Builtin.SmallTypes.nextOf (.ref z)) Q E s := by
  have hT : s.TypeIs (.ref z) "zip" := ⟨_, hz, rfl⟩
  unfold Builtin.SmallTypes.nextOf
  exact wpAny_bind (wpAny_callSpecial?_slot (name := Str.ofString "__next__") hT F.slot_zip_next
    (wpAny_call_entry F.slot_zip_next hT F.entry_zip_next (zip_item D hz zf hTI hTO it1 it2 hl1 hl2 hx hy fun h' q => wpAny_pure (fin h' q)) (F.args_zip_next_1 _)))
theorem zip_stop {Q : Value → Shared → Prop} (hh : A.handled = none) (D : ZipApart z TI TO i1 i2 l1 l2) (hz : ZObj s.heap z TI TO f0 f1) (zf : ZF f0 f1) (hTI : IsPair s.heap TI (.ref i1) (.ref i2)) (hTO : IsPair s.heap TO a b)
    (it1 : s.heap.IsListIter i1 l1 k) (it2 : s.heap.IsListIter i2 l2 k) (hl1 : s.heap.IsList l1 xs) (hl2 : s.heap.IsList l2 ys) (hend : xs[k]? = none ∨ ys[k]? = none)
    (fin : ∀ h' v, (∀ c o, c ≠ z → c ≠ TO → c ≠ i1 → c ≠ i2 → s.heap.get? c = some o → h'.get? c = some o) → (∃ o, h'.get? v = some o ∧ o.cls = .type "StopIteration") → E (.ref v) { s with heap := h' }) :
    wpAny (model prog w) A (Builtin.SmallTypes.nextOf (.ref z)) Q E s := by
  have hT : s.TypeIs (.ref z) "zip" := ⟨_, hz, rfl⟩
  unfold Builtin.SmallTypes.nextOf
  exact wpAny_bind (wpAny_callSpecial?_slot (name := Str.ofString "__next__") hT F.slot_zip_next
    (wpAny_call_entry F.slot_zip_next hT F.entry_zip_next (zip_end hh D hz zf hTI hTO it1 it2 hl1 hl2 hend fin) (F.args_zip_next_1 _)))
/-- enumerate gives what its inner iterator gave -/
theorem enum_over {W : Heap → Prop} {it : Addr} {i : Nat} {Q : Value → Shared → Prop} (he : IsEnum s.heap e it i old)
    (hin : ∀ R : Value → Shared → Prop, (∀ h1, h1.objs.size = s.heap.objs.size + 1 → IsEnum h1 e it i old → W h1 → R (.ref s.heap.objs.size) { s with heap := h1 }) → wpAny (model prog w) A (Builtin.SmallTypes.nextOf (.ref it)) R E s)
    (fin : ∀ h1 h', W h1 → IsEnumOut h' e it ((i : Int) + 1) (.ref s.heap.objs.size) (s.heap.objs.size + 1) → IsPair h' (s.heap.objs.size + 1) (.int i s.toks) (.ref s.heap.objs.size) → h1.objs.size = s.heap.objs.size + 1 → h'.objs.size = s.heap.objs.size + 2 →
      (∀ b o, b ≠ e → h1.get? b = some o → h'.get? b = some o) → Q (.ref (s.heap.objs.size + 1)) { s with heap := h', toks := s.toks + 1 }) :
    wpAny (model prog w) A (Builtin.«enumerate.__next__» ⟨[.ref e], []⟩) (fun fin s' => ∃ v, fin = .done (.ret v) ∧ Q v s') E s := by
  obtain ⟨hp, g, d, tk, os⟩ := s
  show wpAny _ _ (field (.ref e) 2 >>= _) _ _ _
  apply wpAny_bind; apply wpAny_field he rfl (x := .ref it) rfl
  apply wpAny_bind; apply hin
  intro p1 sz1 e1 w1
  show wpAny _ _ (field (.ref e) 3 >>= _) _ _ ⟨p1, g, d, tk, os⟩
  apply wpAny_bind; apply wpAny_field e1 rfl (x := rawInt i) rfl
  show wpAny _ _ (field (.ref e) 4 >>= _) _ _ ⟨p1, g, d, tk, os⟩
  apply wpAny_bind; apply wpAny_field e1 rfl (x := .none) rfl
  show wpAny _ _ (mkInt i >>= _) _ _ ⟨p1, g, d, tk, os⟩
  apply wpAny_bind; apply wpAny_mkInt
  show wpAny _ _ (setField (.ref e) 3 (rawInt ((i : Int) + 1)) >>= _) _ _ ⟨p1, g, d, tk + 1, os⟩
  refine wpAny_bind (wpAny_setField_rec e1 (by simp) fun p2 e2 s2 => ?_)
  have s2 : Heap.SameBut e p1 p2 := s2
  have e2 : IsEnum p2 e it ((i : Int) + 1) old := e2
  show wpAny _ _ (setField (.ref e) 4 .none >>= _) _ _ ⟨p2, g, d, tk + 1, os⟩
  refine wpAny_bind (wpAny_setField_rec e2 (by simp) fun p3 e3 s3 => ?_)
  have s3 : Heap.SameBut e p2 p3 := s3
  have e3 : IsEnum p3 e it ((i : Int) + 1) old := e3
  show wpAny _ _ (newTuple [.int i tk, .ref hp.objs.size] >>= _) _ _ ⟨p3, g, d, tk + 1, os⟩
  refine wpAny_bind (wpAny_newTuple ?_)
  have n3 : p3.objs.size = hp.objs.size + 1 := by rw [s3.1, s2.1]; exact sz1
  have e4 : IsEnum (p3.push { cls := .type "tuple", data := .seq #[.int i tk, .ref hp.objs.size] }) e it ((i : Int) + 1) old := Heap.get?_push_of_some _ e3
  have t4 : (p3.push { cls := .type "tuple", data := .seq #[.int i tk, .ref hp.objs.size] }).get? (hp.objs.size + 1) = some { cls := .type "tuple", data := .seq #[.int i tk, .ref hp.objs.size] } := by rw [← n3]; exact Heap.get?_push_size _ rfl
  have n4 : (p3.push { cls := .type "tuple", data := .seq #[.int i tk, .ref hp.objs.size] }).objs.size = hp.objs.size + 2 := by rw [Heap.size_push, n3]
  have k4 : ∀ b o, b ≠ e → p1.get? b = some o → (p3.push { cls := .type "tuple", data := .seq #[.int i tk, .ref hp.objs.size] }).get? b = some o := fun b o u q => Heap.get?_push_of_some _ (s3.extBut b o u (s2.extBut b o u q))
  have el : e < hp.objs.size := Heap.lt_size he
  show wpAny _ _ (Builtin.SmallTypes.ownedTupleIsFree (.ref e) >>= _) _ _ ⟨p3.push { cls := .type "tuple", data := .seq #[.int i tk, .ref hp.objs.size] }, g, d, tk + 1, os⟩
  show wpAny _ _ _ _ _ _
  generalize p3.push { cls := .type "tuple", data := .seq #[.int i tk, .ref hp.objs.size] } = p4 at e4 t4 n4 k4
  rw [n3]
  apply wpAny_bind
  unfold Builtin.SmallTypes.ownedTupleIsFree
  apply wpAny_bind; apply wpAny_field e4 rfl (x := .none) rfl; apply wpAny_pure
  simp only [if_true]
  apply wpAny_bind; apply wpAny_rule
  apply wpAny_bind; apply wpAny_field e4 rfl (x := old) rfl
  refine wpAny_bind (wpAny_setField_rec e4 (by simp) fun p5 e5 s5 => ?_)
  have s5 : Heap.SameBut e p4 p5 := s5
  have e5 : IsEnum p5 e it ((i : Int) + 1) (.ref hp.objs.size) := e5
  show wpAny _ _ (Builtin.SmallTypes.ownedTupleHandOut (.ref e) (.ref (hp.objs.size + 1)) >>= _) _ _ ⟨p5, g, d, tk + 1, os⟩
  apply wpAny_bind
  unfold Builtin.SmallTypes.ownedTupleHandOut
  refine wpAny_bind (wpAny_setField_rec e5 (by simp) fun p6 e6 s6 => ?_)
  have s6 : Heap.SameBut e p5 p6 := s6
  have e6 : IsEnumOut p6 e it ((i : Int) + 1) (.ref hp.objs.size) (hp.objs.size + 1) := e6
  refine wpAny_setField_rec e6 (by simp) fun p7 e7 s7 => ?_
  have s7 : Heap.SameBut e p6 p7 := s7
  have e7 : IsEnumOut p7 e it ((i : Int) + 1) (.ref hp.objs.size) (hp.objs.size + 1) := e7
  have k7 : ∀ b o, b ≠ e → p4.get? b = some o → p7.get? b = some o := fun b o u q => s7.extBut b o u (s6.extBut b o u (s5.extBut b o u q))
  refine wpAny_bind (wpAny_letGo (wpAny_pure ⟨_, rfl, ?_⟩))
  exact fin p1 p7 w1 e7 (k7 _ _ (Nat.ne_of_gt (Nat.lt_succ_of_lt el)) t4) sz1 (by rw [s7.1, s6.1, s5.1]; exact n4) fun b o u q => k7 b o u (k4 b o u q)
end

/-! enumerate(zip(xs, ys)) -/
/-- the lists at a and b side by side, each pair counted -/
def Itez (K : PySem.W.Frag) (a b : Addr) : It :=
  ⟨fun i H => ∃ (xs ys : List L2.V) (x y : L2.V), SqL K H a xs ∧ SqL K H b ys ∧ xs[i]? = some x ∧ ys[i]? = some y,
    fun i H v H' => ∃ T2 T x y, v = .ref T ∧ H T2 = none ∧ H T = none ∧ T ≠ T2 ∧ H' = upd (upd H T2 (.tup [x, y])) T (.tup [.int (i : Nat), .ref T2]) ∧ (∀ xs, SqL K H a xs → xs[i]? = some x) ∧ ∀ ys, SqL K H b ys → ys[i]? = some y,
    fun i H => ∃ xs ys : List L2.V, SqL K H a xs ∧ SqL K H b ys ∧ (xs.length ≤ i ∨ ys.length ≤ i)⟩
theorem turn_enumz {P : Program} {w : World} {K : PySem.W.Frag} {elts : List Expr} {kk : Nat} {tpos : Pos} {a b e z TI TO i1 i2 : Addr} (D : ZipApart z TI TO i1 i2 a b) (hne : e ≠ z ∧ e ≠ TI ∧ e ≠ TO ∧ e ≠ i1 ∧ e ≠ i2) :
    Turn P w K (.Tuple elts kk tpos) (Itez K a b) [e, z, TI, TO, i1, i2] e (fun i h => (∃ old, IsEnum h e z ((i : Nat) : Int) old) ∧ (∃ f0 f1, ZF f0 f1 ∧ ZObj h z TI TO f0 f1) ∧ IsPair h TI (.ref i1) (.ref i2) ∧ (∃ x y, IsPair h TO x y) ∧ h.IsListIter i1 a i ∧ h.IsListIter i2 b i) where
  mem := by simp
  obj := fun i h st c hc => by
    obtain ⟨⟨old, he⟩, ⟨f0, f1, _, hz⟩, hTI, ⟨x, y, hTO⟩, ⟨o1, e1, _, d1⟩, ⟨o2, e2, _, d2⟩⟩ := st
    have hc' : c = e ∨ c = z ∨ c = TI ∨ c = TO ∨ c = i1 ∨ c = i2 := by simpa using hc
    rcases hc' with q | q | q | q | q | q <;> subst q
    · exact ⟨_, he, fun v q => nomatch q⟩
    · exact ⟨_, hz, fun v q => nomatch q⟩
    · exact ⟨_, hTI, fun v q => nomatch q⟩
    · exact ⟨_, hTO, fun v q => nomatch q⟩
    · exact ⟨o1, e1, fun v q => by rw [d1] at q; cases q⟩
    · exact ⟨o2, e2, fun v q => by rw [d2] at q; cases q⟩
  keep := fun i h h' st k => by
    obtain ⟨⟨old, he⟩, ⟨f0, f1, zf, hz⟩, hTI, ⟨x, y, hTO⟩, h1, h2⟩ := st
    exact ⟨⟨old, k e (by simp) _ he⟩, ⟨f0, f1, zf, k z (by simp) _ hz⟩, k TI (by simp) _ hTI, ⟨x, y, k TO (by simp) _ hTO⟩, h1.at fun o q => k i1 (by simp) o q, h2.at fun o q => k i2 (by simp) o q⟩
  item := by
    intro X hP hw hK hc i pins s σ H E I hf st hg
    subst hP hw hK
    obtain ⟨⟨old, he⟩, ⟨f0, f1, zf, hz⟩, hTI, ⟨x0, y0, hTO⟩, h1, h2⟩ := st
    obtain ⟨xs, ys, x, y, hqx, hqy, hx, hy⟩ := hg
    obtain ⟨us, rv, pu, _⟩ := I.list hqx
    obtain ⟨ws, rw', pw, _⟩ := I.list hqy
    obtain ⟨u, hu, ru⟩ := rv.get hx
    obtain ⟨v, hv, rv'⟩ := rw'.get hy
    have hT : s.TypeIs (.ref e) "enumerate" := ⟨_, he, rfl⟩
    have el : e < s.heap.objs.size := Heap.lt_size he
    have zl : z < s.heap.objs.size := Heap.lt_size hz
    unfold pyNext
    refine wpAny_bind (wpAny_attempt (wpAny_callSpecial?_slot (name := Str.ofString "__next__") hT F.slot_enumerate_next (wpAny_call_entry F.slot_enumerate_next hT F.entry_enumerate_next
      (enum_over (W := fun h' => ZNext s.heap s.heap.objs.size z TI TO i1 i2 a b i i u v h') he (fun R hR => ?_) fun p1 p2 w1 e2 t2 n1 n2 k2 => wpAny_pure ?_) (F.args_enumerate_next_1 _))))
    · exact zip_next D hz zf hTI hTO h1 h2 pu.isList pw.isList (by simpa using hu) (by simpa using hv) fun p1 w1 => hR p1 w1.sz (w1.oth _ _ hne.1 hne.2.2.1 hne.2.2.2.1 hne.2.2.2.2 he) w1
    refine ⟨_, rfl, wpAny_letOwnedTupleGo_enum (s := { s with heap := p2, toks := s.toks + 1 }) e2 fun p3 e3 sb => ?_⟩
    have fe := hf e (by simp)
    have k3 : ∀ b o, b ≠ e → p1.get? b = some o → p3.get? b = some o := fun b o q g => (sb.2 b q).trans (k2 b o q g)
    -- the inner pair
    have new1 : ObjOk X.prog X.w (upd H s.heap.objs.size (.tup [x, y])) p1 s.heap.objs.size (.tup [x, y]) :=
      ⟨by show 2 ≤ sizeLine; decide, [u, v], .cons ru (.cons rv' .nil), ⟨_, w1.new, rfl, _, rfl⟩⟩
    have I1 : Inv X pins σ (upd H s.heap.objs.size (.tup [x, y])) { s with heap := p1 } :=
      I.turnedNew (t' := s.toks) (ch := [z, TI, TO, i1, i2]) (fun c o hb q => w1.oth c o (fun q' => hb (by simp [q'])) (fun q' => hb (by simp [q'])) (fun q' => hb (by simp [q'])) (fun q' => hb (by simp [q'])) q) (fun c hc => hf c (by simp at hc ⊢; exact .inr hc)) (Nat.le_refl _) new1
    have ne : s.heap.objs.size + 1 ≠ s.heap.objs.size := Nat.succ_ne_self _
    have t3 : p3.get? (s.heap.objs.size + 1) = some { cls := .type "tuple", data := .seq #[.int i s.toks, .ref s.heap.objs.size] } := (sb.2 _ (Nat.ne_of_gt (Nat.lt_succ_of_lt el))).trans t2
    have new2 : ObjOk X.prog X.w (upd (upd H s.heap.objs.size (.tup [x, y])) (s.heap.objs.size + 1) (.tup [.int (i : Nat), .ref s.heap.objs.size])) p3 (s.heap.objs.size + 1) (.tup [.int (i : Nat), .ref s.heap.objs.size]) :=
      ⟨by show 2 ≤ sizeLine; decide, [.int i s.toks, .ref s.heap.objs.size], .cons ⟨_, rfl⟩ (.cons rfl .nil), ⟨_, t3, rfl, _, rfl⟩⟩
    have I2 : Inv X pins σ (upd (upd H s.heap.objs.size (.tup [x, y])) (s.heap.objs.size + 1) (.tup [.int (i : Nat), .ref s.heap.objs.size])) { s with heap := p3, toks := s.toks + 1 } :=
      I1.turnedNew (t' := s.toks + 1) (ch := [e]) (fun c o hb q => k3 c o (fun q' => hb (by simp [q'])) q) (fun c hc => by
        rw [List.mem_singleton.mp hc]
        exact ⟨(upd_ne (Nat.ne_of_lt el)).trans fe.1, fe.2⟩) (by rw [n1]; exact Nat.le_refl _) new2
    refine ⟨.ref (s.heap.objs.size + 1), _, I2, rfl, ⟨_, _, x, y, rfl, I.hok.fresh (Nat.le_refl _), I.hok.fresh (Nat.le_succ _), ne, rfl, fun l hl => (by rw [I.list_inj hl hqx]; exact hx), fun l hl => (by rw [I.list_inj hl hqy]; exact hy)⟩, ⟨⟨.ref s.heap.objs.size, ?_⟩, ?_, ?_, ?_, ?_, ?_⟩, fun c hcm => ?_⟩
    · have q : ((i + 1 : Nat) : Int) = (i : Int) + 1 := by omega
      rw [q]; exact e3
    · obtain ⟨g0, g1, zg, g⟩ := w1.zo
      exact ⟨g0, g1, zg, k3 _ _ (Ne.symm hne.1) g⟩
    · exact k3 _ _ (Ne.symm hne.2.1) w1.ti
    · obtain ⟨c, d, g⟩ := w1.to'
      exact ⟨c, d, k3 _ _ (Ne.symm hne.2.2.1) g⟩
    · exact w1.a1.at fun o q => k3 _ o (Ne.symm hne.2.2.2.1) q
    · exact w1.a2.at fun o q => k3 _ o (Ne.symm hne.2.2.2.2) q
    · have lt : c < s.heap.objs.size := by
        have hc' : c = e ∨ c = z ∨ c = TI ∨ c = TO ∨ c = i1 ∨ c = i2 := by simpa using hcm
        rcases hc' with q | q | q | q | q | q <;> rw [q]
        · exact el
        · exact zl
        · exact Heap.lt_size hTI
        · exact Heap.lt_size hTO
        · obtain ⟨_, q1, _⟩ := h1; exact Heap.lt_size q1
        · obtain ⟨_, q1, _⟩ := h2; exact Heap.lt_size q1
      rw [upd_ne (Nat.ne_of_lt (Nat.lt_succ_of_lt lt)), upd_ne (Nat.ne_of_lt lt)]
      exact (hf c hcm).1
  done := by
    intro X hP hw hK hc i pins s σ H E I hf st hg
    subst hP hw hK
    obtain ⟨⟨old, he⟩, ⟨f0, f1, zf, hz⟩, hTI, ⟨x0, y0, hTO⟩, h1, h2⟩ := st
    obtain ⟨xs, ys, hqx, hqy, hend⟩ := hg
    obtain ⟨us, rv, pu, _⟩ := I.list hqx
    obtain ⟨ws, rw', pw, _⟩ := I.list hqy
    have q1 := rv.length
    have q2 := rw'.length
    have hh : us.toArray[i]? = none ∨ ws.toArray[i]? = none := by
      rcases hend with q | q
      · exact .inl (by simp; omega)
      · exact .inr (by simp; omega)
    have hT : s.TypeIs (.ref e) "enumerate" := ⟨_, he, rfl⟩
    unfold pyNext
    refine wpAny_bind (wpAny_attempt (wpAny_callSpecial?_slot (name := Str.ofString "__next__") hT F.slot_enumerate_next (wpAny_call_entry F.slot_enumerate_next hT F.entry_enumerate_next ?_ (F.args_enumerate_next_1 _))))
    show wpAny _ _ (field (.ref e) 2 >>= _) _ _ _
    apply wpAny_bind; apply wpAny_field he rfl (x := .ref z) rfl
    apply wpAny_bind
    refine zip_stop (I.ok.hd hc) D hz zf hTI hTO h1 h2 pu.isList pw.isList hh fun p1 v kp hv => ?_
    obtain ⟨o, go, co⟩ := hv
    refine wpAny_bind (wpAny_isInstance (T := "StopIteration") (b := true) ⟨o, go, co⟩ isSubtype_stop ?_)
    exact wpAny_pure ⟨rfl, I.turnedL (t' := s.toks) (ch := [e, z, TI, TO, i1, i2]) (fun c o hb q => kp c o (fun q' => hb (by simp [q'])) (fun q' => hb (by simp [q'])) (fun q' => hb (by simp [q'])) (fun q' => hb (by simp [q'])) q) hf⟩
  self := fun A i s Q E st h => let ⟨⟨_, he⟩, _⟩ := st; wpAny_pyIter_enum he h
end Pu

namespace Pu
open PySem PySem.Spec PyProof.Rows L2
open AutoSeq1 (wpAny_loadPart')
abbrev enZ (z : Addr) : Obj := { cls := .type "enumerate", data := .fields #[.none, .bool false, .ref z, rawInt 0, .none, .none] }
theorem meets_enumz (z TI TO : Addr) : Meets (Builtin.«enumerate.__new__» ⟨[.type "enumerate", .ref z], []⟩) (fun _ R s => ZObj s.heap z TI TO .none (.bool false) ∧ R (.ok (.ret (.ref s.heap.objs.size))) { s with heap := s.heap.push (enZ z) }) :=
  .of_wp fun prog w A R s h => by
    obtain ⟨hp, g, d, tk, os⟩ := s
    obtain ⟨hz, h⟩ := h
    have hsub := sub_enumerate
    have hZ : IsZip (Shared.heap ⟨hp, g, d, tk, os⟩) z TI TO .none := hz
    wp_walk using wpAny_loadPart' hz, wpAny_pyIter_zip hZ
    refine wpAny_stack_any fun st => wpAny_pure ?_
    split
    · rename_i c _ _ _ _ _
      cases (c == Value.type "enumerate")
      all_goals (wp_walk using wpAny_loadPart' hz, wpAny_pyIter_zip hZ; exact ⟨_, rfl, h⟩)
    · wp_walk using wpAny_loadPart' hz, wpAny_pyIter_zip hZ
      exact ⟨_, rfl, h⟩
theorem call_enumz {prog : Program} {w : World} {A : Around} {E : Value → Shared → Prop} {s : Shared} {z TI TO : Addr} {Q : Value → Shared → Prop} (hz : ZObj s.heap z TI TO .none (.bool false))
    (h : ∀ h', IsEnum h' s.heap.objs.size z 0 .none → (∀ b o, s.heap.get? b = some o → h'.get? b = some o) → Q (.ref s.heap.objs.size) { s with heap := h' }) :
    wpAny (model prog w) A (call (.type "enumerate") [.ref z]) Q E s := by
  refine callType_new F.called_enumerate (by decide) (F.typeCall_enumerate_1 _) (F.newCall_enumerate_1 _) (fun obj => F.args_object_init_2 obj _) F.entry_enumerate_new (meets_enumz z TI TO) ⟨hz, ?_⟩
  have he : IsEnum (s.heap.push (enZ z)) s.heap.objs.size z 0 .none := Heap.get?_push_size _ rfl
  exact ⟨⟨_, he, rfl⟩, h _ he fun b o x => Heap.get?_push_of_some _ x⟩
section
variable {X : Cx} {F : Fm} {G : List Sl} {Kk : D → List Sl → Prop}
def iEnumz (K : PySem.W.Frag) (ta : TA) : TI := fun σ H R => ta σ H fun vs H1 => ∃ a b xs ys, vs = [.ref a, .ref b] ∧ SqL K H1 a xs ∧ SqL K H1 b ys ∧ R (Itez K a b) H1
theorem pi_enumz {c d : Expr} {ta : TA} {p p2 p3 p4 tpos : Pos} {elts : List Expr} {kk : Nat} (hg : Gl X "enumerate") (hm : X.mg "enumerate" = none) (hgz : Gl X "zip") (hmz : X.mg "zip" = none) (ha : PA X [c, d] ta)
    (hs : starEach [.Call (.Name "zip" p) [c, d] [] p2] X.env = [(false, eval (.Call (.Name "zip" p) [c, d] [] p2) X.env)] := by rfl)
    (hz : starEach [c, d] X.env = (false, eval c X.env) :: starEach [d] X.env := by rfl) (hpl : (backTo p2 (starEach [d] X.env)).any (·.1) = false := by rfl) :
    PI X (.Tuple elts kk tpos) (.Call (.Name "enumerate" p3) [.Call (.Name "zip" p) [c, d] [] p2] [] p4) (iEnumz X.K ta) := by
  refine ⟨fun pins s σ H R I h => ?_⟩
  refine Call_ (ld_blt I hg hm boot_enumerate (PyProof.Rows.callWith_type1 ?_ hs rfl))
  rw [hs]
  refine Calls.spliced_cons ?_
  refine Call_ (ld_blt I hgz hmz PyProof.Rows.boot_zip (PyProof.Rows.callWith_type1 (thn (ha.run p2 pins s σ H _ I h) fun us s1 ⟨vs, H1, I1, r1, q1⟩ => ?_) hz hpl))
  obtain ⟨a, b, xs, ys, ex, hqx, hqy, q⟩ := q1
  subst ex
  cases r1 with
  | cons r rr =>
    cases rr with
    | cons r' rr =>
      cases rr
      cases r
      cases r'
      obtain ⟨its, rv, pa, _⟩ := I1.list hqx
      obtain ⟨its2, rv2, pb, _⟩ := I1.list hqy
      have la : a < s1.heap.objs.size := pa.lt
      have lb : b < s1.heap.objs.size := pb.lt
      refine call_zip_2 pa.isList pb.isList fun h' hz hTI hTO g1 g2 hsz hk => ?_
      have I2 : Inv X pins σ H1 { s1 with heap := h' } := I1.kept (t' := s1.toks) hk
      refine Calls.spliced_nil ?_
      refine call_enumz (s := { s1 with heap := h' }) hz fun p1 he k1 => wpAny_pyIter_enum he ?_
      have I3 : Inv X pins σ H1 { s1 with heap := p1 } := I2.kept (t' := s1.toks) k1
      have sz : ({ s1 with heap := h' } : Shared).heap.objs.size = s1.heap.objs.size + 5 := hsz
      rw [sz] at he ⊢
      have ne5 : ∀ n : Nat, n + 5 ≠ n + 4 ∧ n + 5 ≠ n + 2 ∧ n + 5 ≠ n + 3 ∧ n + 5 ≠ n ∧ n + 5 ≠ n + 1 := fun n => by omega
      have D := PySem.W.ktu_apart s1.heap.objs.size a b la lb
      refine ⟨s1.heap.objs.size + 5, [s1.heap.objs.size + 5, s1.heap.objs.size + 4, s1.heap.objs.size + 2, s1.heap.objs.size + 3, s1.heap.objs.size, s1.heap.objs.size + 1], _, _, H1, rfl, I3, turn_enumz D (ne5 _),
        ⟨⟨_, he⟩, ⟨_, _, .inl ⟨rfl, rfl⟩, k1 _ _ hz⟩, k1 _ _ hTI, ⟨_, _, k1 _ _ hTO⟩, g1.at fun o e => k1 _ o e, g2.at fun o e => k1 _ o e⟩, fun x hx => ?_, q⟩
      have hle : s1.heap.objs.size ≤ x := by
        simp only [List.mem_cons, List.not_mem_nil, or_false] at hx
        rcases hx with z | z | z | z | z | z <;> rw [z] <;> omega
      have fp := I1.fpOk hle (I1.hok.fresh hle)
      exact fp
theorem xw_enumz {Kw : List D → List Sl → Prop} {a b : Expr} {elts : List Expr} {kk : Nat} {p p2 p3 p4 tpos : Pos} (hm : X.mg "enumerate" = none) (hmz : X.mg "zip" = none) (h : XA X F [a, b] G fun vs G1 => ∃ ds es, vs = [.lst ds, .lst es] ∧ Kw ((List.range (ds.zip es).length).zip (ds.zip es) |>.map fun q => D.tup [.int (q.1 : Nat), .tup [q.2.1, q.2.2]]) G1) (hg : Gl X "enumerate" := by rfl) (hgz : Gl X "zip" := by rfl)
    (hs : starEach [.Call (.Name "zip" p) [a, b] [] p2] X.env = [(false, eval (.Call (.Name "zip" p) [a, b] [] p2) X.env)] := by rfl)
    (hz : starEach [a, b] X.env = (false, eval a X.env) :: starEach [b] X.env := by rfl) (hpl : (backTo p2 (starEach [b] X.env)).any (·.1) = false := by rfl) :
    XW' X F (.Tuple elts kk tpos) (.Call (.Name "enumerate" p3) [.Call (.Name "zip" p) [a, b] [] p2] [] p4) G Kw :=
  fun S H σ I => semI_of (pi_enumz hg hm hgz hmz pa_sem hs hz hpl) <| semA_mono (h S H σ I) fun vs H1 ⟨dd, G1, S1, I1, e1, r1, ds, es, ed, k⟩ => by
    subst ed
    cases r1 with
    | cons ra r1 =>
      cases r1 with
      | cons rb r1 =>
        cases r1
        cases ra with
        | @lst pa va _ hla r =>
          cases rb with
          | @lst pb vb _ hlb r' =>
            refine ⟨pa, pb, va, vb, rfl, SqL.of (I1.fr.ex _ _ hla), SqL.of (I1.fr.ex _ _ hlb), _, G1, S1, I1, e1, ⟨fun F G S H σ i I e hi => ?_, fun F G S H σ i d x H' I e hd y => ?_, fun F G S H σ I e => ?_⟩, k⟩
            · rw [List.length_map, List.length_zip, List.length_range, List.length_zip] at hi
              have h1 : i < va.length := by rw [r.length]; omega
              have h2 : i < vb.length := by rw [r'.length]; omega
              exact ⟨va, vb, va[i], vb[i], SqL.of (I.fr.ex _ _ (e _ _ hla)), SqL.of (I.fr.ex _ _ (e _ _ hlb)), List.getElem?_eq_getElem h1, List.getElem?_eq_getElem h2⟩
            · obtain ⟨T2, T, x1, x2, rfl, n2, n1, ne, rfl, f1, f2⟩ := y
              have g1 := f1 va (SqL.of (I.fr.ex _ _ (e _ _ hla)))
              have g2 := f2 vb (SqL.of (I.fr.ex _ _ (e _ _ hlb)))
              obtain ⟨d1, hd1, rv1⟩ := r.getV g1
              obtain ⟨d2, hd2, rv2⟩ := r'.getV g2
              have hzz : (ds.zip es)[i]? = some (d1, d2) := (List.getElem?_zip_eq_some (z := (d1, d2))).mpr ⟨hd1, hd2⟩
              have hi : i < (ds.zip es).length := (List.getElem?_eq_some_iff.mp hzz).1
              rw [List.getElem?_map, (List.getElem?_zip_eq_some (z := (i, (d1, d2)))).mpr ⟨List.getElem?_range hi, hzz⟩] at hd
              cases hd
              obtain ⟨I2, e2⟩ := I.alloc (o := .tup [x1, x2]) n2
              have n1' : upd H T2 (.tup [x1, x2]) T = none := by rw [upd_ne ne]; exact n1
              obtain ⟨I3, e3⟩ := I2.alloc (o := .tup [.int (i : Nat), .ref T2]) n1'
              exact ⟨_, I3, e2.tr e3, .tup upd_same (.cons (.int _) (.cons (.tup (e3 _ _ upd_same) (.cons (rv1.mono (e.tr (e2.tr e3))) (.cons (rv2.mono (e.tr (e2.tr e3))) .nil))) .nil))⟩
            · rw [List.length_map, List.length_zip, List.length_range, List.length_zip, Nat.min_self]
              refine ⟨va, vb, SqL.of (I.fr.ex _ _ (e _ _ hla)), SqL.of (I.fr.ex _ _ (e _ _ hlb)), ?_⟩
              rw [r.length, r'.length]; omega
end
end Pu

namespace Pu
open PySem PySem.Spec PyProof.Rows L2
/-- a locked dict with tuples as keys, as it lies -/
theorem frzT2 {X : Cx} {pins : List (Addr × Obj)} {σ : L2.St} {H : Hp} {s : Shared} {d : Addr} {o : Obj} {kvs : List (List Key × L2.V)} (I : Inv X pins σ H s) (h : H d = some (.frz o (.dT kvs))) :
    (d == sysModules) = false ∧ s.heap.get? d = some o ∧ o.ExactDict ∧ ∃ (es : Array DictEntry) (ep : Nat), o.data = .dict es ep ∧ es.size = kvs.length ∧
      ∀ (i : Nat) (k : List Key) (v : L2.V), kvs[i]? = some (k, v) → ∃ (en : DictEntry) (q : Addr), es[i]? = some en ∧ en.key = .ref q ∧ H q = some (.tup (k.map kV)) ∧ RelV v en.val := by
  obtain ⟨hd, z, ns, xs, pr, o', es, ep, ho, hx, hdt, he, _⟩ := I.hok d _ h
  rw [hd] at ho
  cases ho
  have l1 : es.size = xs.length := size_of_entries he
  have l2 : kvs.length = xs.length := Paired.length pr
  refine ⟨ns, hd, hx, es, ep, hdt, l1.trans l2.symm, fun i k v e => ?_⟩
  obtain ⟨b, hb, e1, e2, e3⟩ := paired_get pr e
  have q := entry_at he i
  rw [hb] at q
  exact ⟨_, b.2.1, q, rfl, e2, e3⟩
/-- key and value side by side, each pair a new tuple -/
def Itit (d : Addr) (o : Obj) (kvs : List (List Key × L2.V)) : It :=
  ⟨fun i H => H d = some (.frz o (.dT kvs)) ∧ i < kvs.length, fun i H x H' => ∃ T k v q, kvs[i]? = some (k, v) ∧ x = .ref T ∧ H T = none ∧ H q = some (.tup (k.map kV)) ∧ H' = upd H T (.tup [.ref q, v]), fun i H => H d = some (.frz o (.dT kvs)) ∧ kvs.length ≤ i⟩
theorem turn_itemsT {P : Program} {w : World} {K : PySem.W.Frag} {d : Addr} {o : Obj} {es : Array DictEntry} {ep : Nat} {kvs : List (List Key × L2.V)} {elts : List Expr} {kk : Nat} {tpos : Pos} (it : Addr) (hod : o.data = .dict es ep) :
    Turn P w K (.Tuple elts kk tpos) (Itit d o kvs) [it] it (fun i h => ∃ ok ov, IsItemIter h it d i es.size ep ok ov) where
  mem := by simp
  obj := fun i h st b hb => by
    have e : b = it := by simpa using hb
    subst e
    obtain ⟨ok, ov, e⟩ := st
    exact ⟨_, e, fun v z => nomatch z⟩
  keep := fun i h h' st k => by
    obtain ⟨ok, ov, e⟩ := st
    exact ⟨ok, ov, k it (by simp) _ e⟩
  item := by
    intro X hP hw hK hc i pins s σ H E I hf st hg
    subst hP hw hK
    obtain ⟨hd, hi⟩ := hg
    obtain ⟨ns, hgd, hx, es', ep', hdt, hsz, ent⟩ := frzT2 I hd
    obtain ⟨rfl, rfl⟩ := dict_ep hod hdt
    obtain ⟨⟨k, v⟩, hkv⟩ : ∃ p, kvs[i]? = some p := ⟨kvs[i], List.getElem?_eq_getElem hi⟩
    obtain ⟨en, q, hen, hkey, hq, rv⟩ := ent i k v hkv
    obtain ⟨hlt, een⟩ := Array.getElem?_eq_some_iff.mp hen
    obtain ⟨ok, ov, he⟩ := st
    have hil : it < s.heap.objs.size := Heap.lt_size he
    refine wpAny_pyNext_items_item_raw he ⟨o, hgd, hx, hdt⟩ hlt fun p1 o1 t1 z1 k1 => ?_
    rw [een] at o1 t1
    refine ⟨_, rfl, wpAny_letOwnedTupleGo_items (s := { s with heap := p1 }) o1 fun p2 o2 sb => ?_⟩
    have t2 : p2.get? s.heap.objs.size = some { cls := .type "tuple", data := .seq #[en.key, en.val] } := (sb.2 _ (Nat.ne_of_gt hil)).trans t1
    have new : ObjOk X.prog X.w (upd H s.heap.objs.size (.tup [.ref q, v])) p2 s.heap.objs.size (.tup [.ref q, v]) :=
      ⟨by show 2 ≤ sizeLine; decide, [en.key, en.val], .cons (show RelV (.ref q) en.key from hkey) (.cons rv .nil), ⟨_, t2, rfl, _, rfl⟩⟩
    have I1 : Inv X pins σ (upd H s.heap.objs.size (.tup [.ref q, v])) { s with heap := p2 } :=
      I.turnedNew (t' := s.toks) (ch := [it]) (fun b ob hb e => (sb.2 b (by simpa using hb)).trans (k1 b ob (by simpa using hb) e)) hf (Nat.le_refl _) new
    refine ⟨.ref s.heap.objs.size, _, I1, rfl, ⟨_, k, v, q, hkv, rfl, I.hok.fresh (Nat.le_refl _), hq, rfl⟩, ⟨_, _, o2⟩, fun b hb => ?_⟩
    have e : b = it := by simpa using hb
    rw [e, upd_ne (Nat.ne_of_lt hil)]
    exact (hf it (by simp)).1
  done := by
    intro X hP hw hK hc i pins s σ H E I hf st hg
    subst hP hw hK
    obtain ⟨hd, hi⟩ := hg
    obtain ⟨ns, hgd, hx, es', ep', hdt, hsz, ent⟩ := frzT2 I hd
    obtain ⟨rfl, rfl⟩ := dict_ep hod hdt
    obtain ⟨f0, f1, f2, f3, f4, f5⟩ := hf it (by simp)
    obtain ⟨ok, ov, he⟩ := st
    exact wpAny_pyNext_items_end_raw (I.ok.hd hc) he ⟨o, hgd, hx, hdt⟩ (by omega) fun p1 eb => ⟨rfl, I.turned (t' := s.toks) (fun b ob hb e => eb b ob hb e) f0 f1 f3 f4 f5⟩
  self := fun A i s Q E st h => let ⟨_, _, e⟩ := st; PySem.W.kcp_self e h
def iItemsT (td : TE) : TI := fun σ H R => td σ H fun x H1 => ∃ d o kvs, x = .ref d ∧ H1 d = some (.frz o (.dT kvs)) ∧ R (Itit d o kvs) H1
section
variable {X : Cx} {F : Fm} {G : List Sl} {e : Expr} {td : TE} {apos cpos : Pos}
theorem pi_itemsT {elts : List Expr} {kk : Nat} {tpos : Pos} (he : PE X e td) (hbase : attributeBase e "items" X.env (eval e X.env) = eval e X.env := by rfl) (hline : (apos.endLine == cpos.line) = true := by rfl) :
    PI X (.Tuple elts kk tpos) (.Call (.Attribute e "items" apos) [] [] cpos) (iItemsT td) := by
  refine ⟨fun pins s σ H R I h => ?_⟩
  refine wpAny_Call_method (T := "dict") (id := "dict.items") hbase rfl hline F.plainAttrs_dict F.slot_dict_items F.type_dict_items (thn (he.run pins s σ H _ I h) fun u s1 ⟨x, H1, I1, rx, d, o, kvs, ex, hd, q⟩ => ?_)
  subst ex
  obtain rfl : u = Value.ref d := rx
  obtain ⟨ns, hgd, hx, es, ep, hdt, hsz, ent⟩ := frzT2 I1 hd
  have raw : s1.heap.DictRaw d es ep := ⟨o, hgd, hx, hdt⟩
  refine ⟨raw.typeIs, fun b eb => (by cases eb; exact ⟨o, hgd, hx.2.1⟩), ?_⟩
  have I2 : Inv X pins σ H1 { s1 with heap := s1.heap.push { cls := .type "dict_items", data := .fields #[.ref d] } } := I1.kept (t' := s1.toks) fun b ob q => Heap.get?_push_of_some _ q
  have fin : wpAny (model X.prog X.w) X.A (pyIter (.ref s1.heap.objs.size)) (PIE X pins σ (.Tuple elts kk tpos) R) X.xe { s1 with heap := s1.heap.push { cls := .type "dict_items", data := .fields #[.ref d] } } := by
    refine wpAny_pyIter_items_raw (d := d) ⟨_, Heap.get?_push_size _ rfl, rfl, rfl⟩ (raw.at fun o q => Heap.get?_push_of_some _ q) (pi_one (tk := s1.toks) I2 _ (turn_itemsT _ hdt) ⟨.none, .none, ?_⟩ q)
    exact Heap.get?_push_size _ rfl
  show wpAny _ _ (callWith cpos (.builtin "dict.items") [.ref d] [] []) _ X.xe s1
  exact method_meetsIn F.slot_dict_items F.entry_dict_items rfl (PySem.evalArgs_none ⟨rfl, raw.typeIs, F.args_dict_items_1 _, _, meets_dict_items_raw d ns, ⟨es, ep, raw⟩, fin⟩)
def tFrz (t : TE) : TE := fun σ H Q => t σ H fun v H1 => ∃ d u, v = L2.V.ref d ∧ H1 d = some u ∧ Mut (some u) ∧ ∀ od, Q v (upd H1 d (.frz od u))
/-- what an expression gives stands locked from now on -/
theorem pe_frz (h : PE X e td) : PE X e (tFrz td) := by
  refine ⟨fun pins s σ H Q I hq => ?_⟩
  refine thn (h.run pins s σ H _ I hq) fun v s1 ⟨x, H1, I1, r, d, u, ex, hd, mu, q⟩ => ?_
  obtain ⟨od, I2⟩ := I1.lock hd mu
  exact ⟨x, _, I2, r, q od⟩
theorem kv_atG {κ : Type} {kvs : List (κ × L2.V)} {kds : List (κ × D)} {K : PySem.W.Frag} {S : Hp} (e : kvs.map (·.1) = kds.map (·.1)) (r : Reps K S (kvs.map (·.2)) (kds.map (·.2))) {i : Nat} {k : κ} {v : L2.V} (h : kvs[i]? = some (k, v)) : ∃ d, kds[i]? = some (k, d) ∧ Rep K S v d := by
  have h1 : (kvs.map (·.1))[i]? = some k := by rw [List.getElem?_map, h]; rfl
  have h2 : (kvs.map (·.2))[i]? = some v := by rw [List.getElem?_map, h]; rfl
  rw [e, List.getElem?_map] at h1
  obtain ⟨⟨k', d⟩, hk, ek⟩ := Option.map_eq_some_iff.mp h1
  have ek' : k' = k := ek
  subst ek'
  obtain ⟨d', hd, rv⟩ := r.getV h2
  rw [List.getElem?_map, hk] at hd
  cases hd
  exact ⟨d, hk, rv⟩
/-- f(..).items(), what f gives being new -/
theorem xw_itemsN {R : List D → (D → Prop) → Prop} {k : Nat} {f : Addr} {fd : FuncData} {ps : List Str} {x : Str} {e0 : Expr} {es : List Expr} {p : Pos} (Fk : FnOk X.prog X.w X.K X.mg X.base CX0 k f fd ps (SpN X.K R)) (hr : Room k X.A) (hm : X.mg x = some (.ref f)) (hk : PySem.W.keepIn X.K (.ref f) = true) (hb : Binds X.K fd ps [])
    {Kw : List D → List Sl → Prop} {elts : List Expr} {kk : Nat} {tpos cpos2 : Pos} (h : XA X F (e0 :: es) G fun ds G1 => R ds fun c => (∃ kds, c = .dt kds ∧ Kw (kds.map fun kv => D.tup [.tup (kv.1.map keyD), kv.2]) G1)) (hg : Gl X x := by rfl) (hdb : (x == ("__debug__" : Str)) = false := by decide)
    (he : starEach (e0 :: es) X.env = (false, eval e0 X.env) :: starEach es X.env := by rfl) (hpl : (backTo cpos (starEach es X.env)).any (·.1) = false := by rfl)
    (hbase : attributeBase (.Call (.Name x p) (e0 :: es) [] cpos) "items" X.env (eval (.Call (.Name x p) (e0 :: es) [] cpos) X.env) = eval (.Call (.Name x p) (e0 :: es) [] cpos) X.env := by rfl) (hline : (apos.endLine == cpos2.line) = true := by rfl) :
    XW' X F (.Tuple elts kk tpos) (.Call (.Attribute (.Call (.Name x p) (e0 :: es) [] cpos) "items" apos) [] [] cpos2) G Kw := fun S H σ I => by
  refine semI_of (pi_itemsT (pe_frz (pe_call Fk hr hg hm hk hb .nil pass0 pa_sem hdb he hpl)) hbase hline) <| semA_mono (h S H σ I) fun vs H1 ⟨ds, G1, S1, I1, e1, r1, hR⟩ => ?_
  rw [List.append_nil]
  refine ⟨S1, ds, _, I1.fr.ex, r1, hR, fun p o S' H' c a1 a2 a3 a4 hp hs ho rc ⟨kds, ec, kw⟩ => ?_⟩
  subst ec
  cases rc with
  | @dt kvs _ ek rs =>
  refine ⟨p, .dT kvs, rfl, ho, True.intro, fun od => ⟨p, od, kvs, rfl, upd_same, ?_⟩⟩
  have I2 := I1.called a1 a2 a3 a4
  have h0 := (I1.fr.free hp).2
  have no : NoOwn G1 σ p := fun j q c' hj z => by
    obtain ⟨ad, k1, _⟩ := I1.sl
    obtain ⟨ev, _, _, o', ho', _⟩ := k1 j _ hj
    rw [z] at ev
    have : p = ad j := L2.V.ref.inj (Option.some.inj ev)
    rw [← this, hp] at ho'; cases ho'
  have I3 : IV X.K F G1 S' (upd H' p (.frz od (.dT kvs))) σ := I2.wr3 hs h0 no (fun vs z => by cases z)
  have I4 := I3.frz2 hs h0 upd_same no
  have e2 : Ex S' (upd S' p (.frz od (.dT kvs))) := Ex.new hs
  have lk : kvs.length = kds.length := by
    have := congrArg List.length ek
    rwa [List.length_map, List.length_map] at this
  refine ⟨_, G1, _, I4, (e1.tr a1).tr e2, ⟨fun F G S H σ i I e hi => ?_, fun F G S H σ i d x H' I e hd y => ?_, fun F G S H σ I e => ?_⟩, kw⟩
  · rw [List.length_map] at hi
    exact ⟨I.fr.ex p _ (e p _ upd_same), by omega⟩
  · obtain ⟨T, k, v, q, hk, rfl, hT, hq, rfl⟩ := y
    obtain ⟨d', hd', rd⟩ := kv_atG ek rs hk
    rw [List.getElem?_map, hd'] at hd
    cases hd
    obtain ⟨S2, J2, f2, rq⟩ := I.keyT hq
    obtain ⟨J3, f3⟩ := J2.alloc (o := .tup [.ref q, v]) hT
    exact ⟨_, J3, f2.tr f3, .tup upd_same (.cons (rq.mono f3) (.cons (rd.mono ((e2.tr e).tr (f2.tr f3))) .nil))⟩
  · rw [List.length_map]
    exact ⟨I.fr.ex p _ (e p _ upd_same), by omega⟩
end
end Pu

namespace Pu
open PySem PySem.Spec PyProof.Rows L2
/-- x < y for pairs of ints -/
theorem op_ltL {X : Cx} : OpR X (compareOp .Lt) (fun x y H Q => ∃ l1 l2, VLx X.K H x l1 ∧ VLx X.K H y l2 ∧ l1.length = l2.length ∧ X.A.units + l1.length < cLine ∧ Q (.bl (lexLt l1 l2)) H) := by
  intro pins s σ H x y v u Q I rx ry h
  obtain ⟨l1, l2, h1, h2, e, hu, q⟩ := h
  exact HLx.lt (h1.heap I rx) (h2.heap I ry) e hu X.prog X.w X.xe (EP X pins σ Q) ⟨.bl _, H, I, rfl, q⟩
theorem xo_ltL {X : Cx} {F : Fm} {G : List Sl} {Kk : D → List Sl → Prop} {x y : D} {l1 l2 : List Int} (h1 : Lx x l1) (h2 : Lx y l2) (e : l1.length = l2.length) (hu : X.A.units + l1.length < cLine) (k : Kk (.bl (lexLt l1 l2)) G) : XO X F (compareOp .Lt) x y G Kk :=
  ⟨_, op_ltL, fun S H σ vx vy I rx ry => ⟨l1, l2, h1.val I.fr.ex rx, h2.val I.fr.ex ry, e, hu, .at I Ex.rfl' (.bl _) k⟩⟩
theorem eqv_ip (a b c d : Int) : PyData.eqv (toPy (.tup [.int a, .int b])) (toPy (.tup [.int c, .int d])) = decide ((a, b) = (c, d)) := by
  simp only [toPy, PyData.eqv]
  have := eqvAll_i [a, b] [c, d]
  rw [show toPys ([a, b].map D.int) = toPys [.int a, .int b] from rfl, show toPys ([c, d].map D.int) = toPys [.int c, .int d] from rfl] at this
  rw [this]
  simp
theorem any_ip (p : Int × Int) : ∀ ls : List (Int × Int), ((toPys (ls.map fun q => D.tup [.int q.1, .int q.2])).any fun z => PyData.eqv z (toPy (.tup [.int p.1, .int p.2]))) = decide (p ∈ ls)
  | [] => by simp [toPys]
  | l :: ls => by
    have ih := any_ip p ls
    simp only [List.map_cons, toPys, List.any_cons, eqv_ip, ih]
    by_cases h : l = p
    · subst h; simp
    · by_cases h2 : p ∈ ls
      · simp [h, h2]
      · have h3 : ¬ p = l := fun z => h z.symm
        simp [h, h2, h3]
theorem get_enumz {l m : List Int} {t : Nat} {d : D} (h : (((List.range ((l.map D.int).zip (m.map D.int)).length).zip ((l.map D.int).zip (m.map D.int))).map fun q => D.tup [.int (q.1 : Nat), .tup [q.2.1, q.2.2]])[t]? = some d) :
    ∃ x y, l[t]? = some x ∧ m[t]? = some y ∧ d = .tup [.int (t : Nat), .tup [.int x, .int y]] := by
  rw [List.getElem?_map] at h
  obtain ⟨⟨i, a, b⟩, hz, rfl⟩ := Option.map_eq_some_iff.mp h
  obtain ⟨h1, h2⟩ := List.getElem?_zip_eq_some.mp hz
  obtain ⟨h3, h4⟩ := List.getElem?_zip_eq_some.mp h2
  rw [List.getElem?_map] at h3 h4
  obtain ⟨x, hx, ex⟩ := Option.map_eq_some_iff.mp h3
  obtain ⟨y, hy, ey⟩ := Option.map_eq_some_iff.mp h4
  have hi : i = t := by
    have := List.getElem?_eq_some_iff.mp h1
    obtain ⟨_, e⟩ := this
    rw [List.getElem_range] at e; exact e.symm
  refine ⟨x, y, hx, hy, ?_⟩
  have ex' : D.int x = a := ex
  have ey' : D.int y = b := ey
  subst hi
  show D.tup [.int (i : Nat), .tup [a, b]] = _
  rw [← ex', ← ey']
theorem len_enumz {l m : List Int} : (((List.range ((l.map D.int).zip (m.map D.int)).length).zip ((l.map D.int).zip (m.map D.int))).map fun q => D.tup [.int (q.1 : Nat), .tup [q.2.1, q.2.2]]).length = min l.length m.length := by simp
end Pu

namespace Pu
open PySem PySem.Spec PyProof.Rows L2
/-- y = xs + ys, lists, the slot's own -/
theorem xs_catO {X : Cx} {F : Fm} {G : List Sl} {P : Pst} {pos : Pos} (i : Nat) {y : Str} {a b : Expr} {pp bpos : Pos} (hn : X.N.Nodup) (h : XE X F a G fun x G1 => XE X F b G1 fun z G2 => ∃ xs ys, x = .lst xs ∧ z = .lst ys ∧ xs.length + ys.length ≤ 1000000 ∧ P.nx (G2.set i (.ow false (.lst (xs ++ ys)))))
    (hi : X.N[i]? = some y := by rfl) (hx : Loc X.env.scope y := by first | exact Or.inl rfl | exact Or.inr rfl) (hs : swapsWith (.BinOp a .Add b bpos) (some (.Name y pp)) pos.line X.env = pure false := by rfl)
    (hf : X.fn y = true ∨ X.env.scope.names.lookup y = some .local := by first | exact .inl rfl | exact .inr rfl | assumption) : XS X F (.Assign [.Name y pp] (.BinOp a .Add b bpos) pos) G P := fun S H σ E I ok => by
  refine semS_of (ps_set hn hi hx (pe_op op_cat pe_sem pe_sem) hs hf) ?_
  refine semE_mono (h S H σ I) fun v1 H1 ⟨x, G1, S1, I1, e1, r1, q1⟩ => ?_
  refine semE_mono (q1 S1 H1 σ I1) fun v2 H2 ⟨z, G2, S2, I2, e2, r2, xs, ys, ex, ez, hz, k⟩ => ?_
  subst ex ez
  have r1' := r1.mono e2
  cases r1' with
  | lst h1 q1 =>
    cases r2 with
    | lst h2 q2 =>
      refine ⟨_, _, _, _, rfl, rfl, I2.fr.ex _ _ h1, I2.fr.ex _ _ h2, by rw [q1.length, q2.length]; exact Nat.le_trans hz (by decide), fun p hp => ?_⟩
      exact ok.nx _ S2 _ _ (I2.own hp (.lst (q1.append q2))) (e1.tr e2) k
end Pu

namespace Pu
open PySem PySem.Spec PyProof.Rows L2
section
variable {K : PySem.W.Frag} {F : Fm} {G : List Sl} {S H : Hp} {σ : L2.St}
theorem IV.side2 (I : IV K F G S H σ) : ∃ F', IV K F' G S H σ ∧ ∀ T S' H' σ', IV K F' T S' H' σ' → Ex S S' → IV K F T S' H' σ' ∧ (∀ a vs, H a = some (.tup vs) → H' a = some (.tup vs)) ∧ ∀ a o, Fre F G S σ a → H a = some o → (∀ vs, o ≠ .tup vs) → Fre F T S' σ' a ∧ H' a = some o := by
  classical
  let own : Addr → Prop := fun a => ∃ (i : Nat) (c : D), G[i]? = some (.ow false c) ∧ σ[i]? = some (some (.ref a))
  have ownN : ∀ a, own a → F.H0 a = none := fun a ⟨i, c, hG, hs⟩ => by
    obtain ⟨p, o, ep, n, hb, ho, rc⟩ := I.ow hG
    rw [hs] at ep; cases ep
    rcases hb with ⟨_, z⟩ | ⟨z, _⟩
    · exact z
    · cases z
  have hd1 : ∀ a, own a → (if own a then none else H a : Option HO) = none := fun a h => if_pos h
  have hd2 : ∀ a, ¬ own a → (if own a then none else H a : Option HO) = H a := fun a h => if_neg h
  refine ⟨⟨fun a => if own a then none else H a, S, F.B⟩, ?_, ?_⟩
  · obtain ⟨ad, h1, h2⟩ := I.sl
    refine ⟨⟨I.fr.ex, Ex.rfl', fun a o h _ => ?_, fun a h => .inl h, I.fr.bor⟩, I.len, ad, fun i s hs => ?_, h2⟩
    · have h' : (if own a then none else H a : Option HO) = some o := h
      by_cases ha : own a
      · rw [hd1 a ha] at h'; cases h'
      · rw [hd2 a ha] at h'; exact h'
    · have q := h1 i s hs
      cases s with
      | no => trivial
      | va d => exact q
      | ow qq c =>
        obtain ⟨ev, n, hb, o, ho, r⟩ := q
        refine ⟨ev, n, ?_, o, ho, r⟩
        rcases hb with ⟨e1, e2⟩ | e
        · subst e1
          refine .inl ⟨rfl, hd1 _ ⟨i, c, hs, ?_⟩⟩
          cases e : σ[i]? with
          | none => rw [e] at ev; cases ev
          | some y => rw [e] at ev; exact congrArg some ev
        · exact .inr e
  · intro T S' H' σ' I' e
    have back : ∀ a, (if own a then none else H a : Option HO) = none → F.H0 a = none := fun a h => by
      by_cases ha : own a
      · exact ownN a ha
      · rw [hd2 a ha] at h; exact (I.fr.free h).2
    have fwd : ∀ a o, H a = some o → ¬ own a → (if own a then none else H a : Option HO) = some o := fun a o h n => by rw [hd2 a n]; exact h
    refine ⟨?_, fun a vs ha => ?_, fun a o fa ho nt => ?_⟩
    · obtain ⟨ad, h1, h2⟩ := I'.sl
      refine ⟨⟨I'.fr.ex, I.fr.old.tr e, fun a o h hb => ?_, fun a h => ?_, I'.fr.bor⟩, I'.len, ad, fun i s hs => ?_, h2⟩
      · have hH := I.fr.fr a o h hb
        have hn : ¬ own a := fun z => by have := ownN a z; rw [h] at this; cases this
        exact I'.fr.fr a o (fwd a o hH hn) hb
      · rcases I'.fr.new a h with z | z | ⟨vs, z⟩
        · exact I.fr.new a z
        · exact .inr (.inl (back a z))
        · by_cases ha : own a
          · exact .inr (.inl (ownN a ha))
          · have z' : (if own a then none else H a : Option HO) = some (.tup vs) := z
            rw [hd2 a ha] at z'; exact I.fr.oldT z'
      · have q := h1 i s hs
        cases s with
        | no => trivial
        | va d => exact q
        | ow qq c =>
          obtain ⟨ev, n, hb, o, ho, r⟩ := q
          exact ⟨ev, n, hb.imp (fun ⟨e1, e2⟩ => ⟨e1, back _ e2⟩) id, o, ho, r⟩
    · have hn : ¬ own a := fun ⟨i, c, hG, hs⟩ => by
        obtain ⟨p, o, ep, n, hb, ho, rc⟩ := I.ow hG
        rw [hs] at ep; cases ep
        rw [ha] at ho; cases ho
        exact rc.nt vs rfl
      have hb : a ∉ F.B := fun z => by
        obtain ⟨o, e, nt⟩ := I.fr.bor a z
        rw [ha] at e
        exact nt vs (Option.some.inj e).symm
      exact I'.fr.fr a _ (fwd a _ ha hn) hb
    · have hn : ¬ own a := fun ⟨i, c, hG, hs⟩ => fa.no i false c hG (by rw [hs]; rfl)
      have hF := fwd a o ho hn
      refine ⟨⟨?_, fa.h, fa.b, fun i q c hT z => ?_⟩, I'.fr.fr a o hF fa.b⟩
      · cases hS : S' a with
        | none => rfl
        | some u =>
          rcases I'.fr.new a (by rw [hS]; intro z; cases z) with z | z | ⟨vs, z⟩
          · exact absurd fa.s z
          · have z' : (if own a then none else H a : Option HO) = none := z
            rw [hF] at z'; cases z'
          · have z' : (if own a then none else H a : Option HO) = some (.tup vs) := z
            rw [hF] at z'; exact absurd (Option.some.inj z') (nt vs)
      · obtain ⟨ad, h1, _⟩ := I'.sl
        obtain ⟨ev, _, hb, _⟩ := h1 i _ hT
        rw [z] at ev
        have eq1 : a = ad i := L2.V.ref.inj (Option.some.inj ev)
        rcases hb with ⟨_, e2⟩ | ⟨_, e2⟩
        · rw [← eq1] at e2
          have z' : (if own a then none else H a : Option HO) = none := e2
          rw [hF] at z'; cases z'
        · rw [← eq1] at e2; exact fa.b e2
end
/-! a list of lists, or of pairs of a whole number and a list, all its own -/
structure Ne where
  k : Int
  c : L2.V
  b : Addr
  vs : List L2.V
  ds : List D
def Wr (md : Bool) (H : Hp) (e : Ne) : Prop := if md = true then ∃ t, e.c = .ref t ∧ H t = some (.tup [.int e.k, .ref e.b]) else e.c = .ref e.b
theorem Wr.keep {md : Bool} {H H' : Hp} {e : Ne} (h : Wr md H e) (k : ∀ a vs, H a = some (.tup vs) → H' a = some (.tup vs)) : Wr md H' e := by
  cases md with
  | true => obtain ⟨t, e1, e2⟩ := h; exact ⟨t, e1, k _ _ e2⟩
  | false => exact h
structure NL (md : Bool) (K : PySem.W.Frag) (F : Fm) (G : List Sl) (S H : Hp) (σ : L2.St) (p : Addr) (es : List Ne) : Prop where
  hp : H p = some (.lst (es.map (·.c)))
  hb : ∀ e ∈ es, H e.b = some (.lst e.vs) ∧ Reps K S e.vs e.ds
  wr : ∀ e ∈ es, Wr md H e
  fp : Fre F G S σ p
  fb : ∀ e ∈ es, Fre F G S σ e.b
  nd : (p :: es.map (·.b)).Nodup
def kdl (es : List Ne) : List (Int × List D) := es.map fun e => (e.k, e.ds)
section
variable {md : Bool} {K : PySem.W.Frag} {F : Fm} {G : List Sl} {S H : Hp} {σ : L2.St} {p : Addr} {es : List Ne}
theorem NL.cov {T : List Sl} (n : NL md K F G S H σ p es) (c : Cov G T) : NL md K F T S H σ p es := ⟨n.hp, n.hb, n.wr, n.fp.cov c, fun e he => (n.fb e he).cov c, n.nd⟩
theorem NL.side (n : NL md K F G S H σ p es) (I : IV K F G S H σ) : ∃ F', IV K F' G S H σ ∧ ∀ T S' H' σ', IV K F' T S' H' σ' → Ex S S' → IV K F T S' H' σ' ∧ NL md K F T S' H' σ' p es := by
  obtain ⟨F', I', k⟩ := I.side2
  refine ⟨F', I', fun T S' H' σ' J e => ?_⟩
  obtain ⟨I2, tk, q⟩ := k T S' H' σ' J e
  exact ⟨I2, (q p _ n.fp n.hp fun vs z => by cases z).2, fun x hx => ⟨(q x.b _ (n.fb x hx) (n.hb x hx).1 fun vs z => by cases z).2, (n.hb x hx).2.mono e⟩, fun x hx => (n.wr x hx).keep tk, (q p _ n.fp n.hp fun vs z => by cases z).1, fun x hx => (q x.b _ (n.fb x hx) (n.hb x hx).1 fun vs z => by cases z).1, n.nd⟩
theorem kdl_len : (kdl es).length = es.length := by unfold kdl; rw [List.length_map]
variable (md)
def XNL (X : Cx) (F : Fm) (sts : List Stmt) (G : List Sl) (p : Addr) (kds : List (Int × List D)) (Kk : List Sl → List (Int × List D) → Prop) : Prop :=
  ∀ S H σ E es, IV X.K F G S H σ → NL md X.K F G S H σ p es → kdl es = kds → (∀ G' S' H' σ' es', IV X.K F G' S' H' σ' → Ex S S' → NL md X.K F G' S' H' σ' p es' → Kk G' (kdl es') → E.nx σ' H') → semSs X sts E σ H
def XNL1 (X : Cx) (F : Fm) (st : Stmt) (G : List Sl) (p : Addr) (kds : List (Int × List D)) (Kk : List Sl → List (Int × List D) → Prop) : Prop :=
  ∀ S H σ E es, IV X.K F G S H σ → NL md X.K F G S H σ p es → kdl es = kds → (∀ G' S' H' σ' es', IV X.K F G' S' H' σ' → Ex S S' → NL md X.K F G' S' H' σ' p es' → Kk G' (kdl es') → E.nx σ' H') → semS X st E σ H
variable {md}
variable {X : Cx} {st : Stmt} {rest : List Stmt} {kds : List (Int × List D)} {Kk : List Sl → List (Int × List D) → Prop} {pos : Pos}
theorem xnl_nil (k : Kk G kds) : XNL md X F [] G p kds Kk := fun S H σ E es I n e fin => semSs_of pss_nil (fin G S H σ es I Ex.rfl' n (e ▸ k))
theorem xnl_cons (h : XNL1 md X F st G p kds fun G1 kds1 => XNL md X F rest G1 p kds1 Kk) : XNL md X F (st :: rest) G p kds Kk := fun S H σ E es I n e fin => by
  refine semSs_of (pss_cons ps_sem pss_sem) ?_
  exact h S H σ _ es I n e fun G1 S1 H1 σ1 es1 I1 e1 n1 k => k S1 H1 σ1 E es1 I1 n1 rfl fun G2 S2 H2 σ2 es2 I2 e2 n2 k2 => fin G2 S2 H2 σ2 es2 I2 (e1.tr e2) n2 k2
theorem xnln {sts : List Stmt} {T : List Sl} (n : Nrm G T) (h : XNL md X F sts T p kds Kk) : XNL md X F sts G p kds Kk := by rw [n.eq]; exact h
theorem xnl_lift (h : ∀ F', XS X F' st G { nx := fun G1 => Kk G1 kds, rt := fun _ _ => False }) : XNL1 md X F st G p kds Kk := fun S H σ E es I n e fin => by
  obtain ⟨F', I', q⟩ := n.side I
  refine h F' S H σ E I' ⟨fun G1 S1 H1 σ1 I1 e1 k => ?_, fun _ _ _ _ _ _ _ _ _ z => z.elim, fun _ _ _ _ _ _ z => z.elim, fun _ _ _ _ _ _ z => z.elim, fun _ _ _ _ _ _ _ _ _ _ _ _ _ z => z.elim⟩
  obtain ⟨I2, n2⟩ := q G1 S1 H1 σ1 I1 e1
  exact fin G1 S1 H1 σ1 es I2 e1 n2 (by rw [e]; exact k)
theorem xnl_if {c : Expr} {t u : List Stmt} (h : ∀ F', XT X F' c G fun b G1 => (b = true → XNL md X F t G1 p kds Kk) ∧ (b = false → XNL md X F u G1 p kds Kk)) : XNL1 md X F (.If c t u pos) G p kds Kk := fun S H σ E es I n e fin => by
  obtain ⟨F', I', q⟩ := n.side I
  refine semS_of (ps_if pt_sem pss_sem pss_sem) ?_
  refine semT_mono (h F' S H σ I') fun b H1 ⟨G1, S1, J1, e1, k1, k2⟩ => ?_
  obtain ⟨I1, n1⟩ := q G1 S1 H1 σ J1 e1
  cases b with
  | true => exact iteT (k1 rfl S1 H1 σ E es I1 n1 e fun G2 S2 H2 σ2 es2 I2 e2 n2 k => fin G2 S2 H2 σ2 es2 I2 (e1.tr e2) n2 k)
  | false => exact iteF (k2 rfl S1 H1 σ E es I1 n1 e fun G2 S2 H2 σ2 es2 I2 e2 n2 k => fin G2 S2 H2 σ2 es2 I2 (e1.tr e2) n2 k)
theorem xnl_for {tg iter : Expr} {body : List Stmt} (h : ∀ F', XW' X F' tg iter G fun ds G1 => ∃ J : Nat → List Sl → List (Int × List D) → Prop, (∃ T, J 0 T kds ∧ Cov G1 T) ∧
      (∀ i d T kds', ds[i]? = some d → J i T kds' → ∀ F'', XG X F'' tg d T allW fun T' => XNL md X F body T' p kds' fun G' kds2 => ∃ T2, J (i + 1) T2 kds2 ∧ Cov G' T2) ∧ ∀ T kds', J ds.length T kds' → Kk T kds')
    (hpo : PassesOwn (model X.prog X.w) X.A X.env X.xe := by exact PassesOwn.never) (hc : X.calm = true := by rfl) (hs : ∀ x, foldedSetIterable iter X.env x = pure x := by intro _; rfl) : XNL1 md X F (.For tg iter body [] pos) G p kds Kk := fun S H σ E es I n e fin => by
  refine semS_of (ps_for hpo hc pi_sem pg_sem pss_sem hs) ?_
  obtain ⟨F1, I1', q1⟩ := n.side I
  refine semI_mono (h F1 S H σ I1') fun J H1 ⟨ds, G1, S1, J1, e1, wk, Jv, ⟨T0, j0, c0⟩, turn, done⟩ => ?_
  obtain ⟨I1, n1⟩ := q1 G1 S1 H1 σ J1 e1
  refine ⟨fun i m σ H => m = ds.length - i ∧ i ≤ ds.length ∧ ∃ T S2 es2, IV X.K F T S2 H σ ∧ Ex S1 S2 ∧ NL md X.K F T S2 H σ p es2 ∧ Jv i T (kdl es2), ⟨ds.length, by simp, Nat.zero_le _, T0, S1, es, I1.cov c0, Ex.rfl', n1.cov c0, e ▸ j0⟩, ?_⟩
  rintro i m σ2 H2 ⟨rfl, hi, T, S2, es2, I2, e2, n2, jv⟩
  by_cases hlt : i < ds.length
  · obtain ⟨F2, I2', q2⟩ := n2.side I2
    refine .inr ⟨wk.go F T S2 H2 σ2 i I2 e2 hlt, fun σ' H' => ∃ T S3 es3, IV X.K F T S3 H' σ' ∧ Ex S1 S3 ∧ NL md X.K F T S3 H' σ' p es3 ∧ Jv (i + 1) T (kdl es3), fun σ' H' ⟨T', S3, es3, I3, e3, n3, j3⟩ => ⟨ds.length - (i + 1), by omega, rfl, hlt, T', S3, es3, I3, e3, n3, j3⟩, fun x H' y => ?_⟩
    obtain ⟨S3, I3', e3, rx⟩ := wk.yld F2 T S2 H2 σ2 i _ x H' I2' e2 (List.getElem?_eq_getElem hlt) y
    refine semG_mono (turn i _ T _ (List.getElem?_eq_getElem hlt) jv F2 S3 H' σ2 x I3' rx) fun σ4 H4 ⟨G4, S4, I4', e4, _, k4⟩ => ?_
    obtain ⟨I4, n4⟩ := q2 G4 S4 H4 σ4 I4' (e3.tr e4)
    have ee : Ex S1 S4 := (e2.tr e3).tr e4
    exact k4 S4 H4 σ4 _ es2 I4 n4 rfl fun G5 S5 H5 σ5 es5 I5 e5 n5 ⟨T5, j5, c5⟩ => ⟨T5, S5, es5, I5.cov c5, ee.tr e5, n5.cov c5, j5⟩
  · have ei : i = ds.length := by omega
    subst ei
    exact .inl ⟨wk.stop F T S2 H2 σ2 I2 e2, fin T S2 H2 σ2 es2 I2 (e1.tr e2) n2 (done T _ jv)⟩
end
end Pu

namespace Pu
open PySem PySem.Spec PyProof.Rows L2
section
variable {md : Bool} {K : PySem.W.Frag} {F : Fm} {G : List Sl} {S H : Hp} {σ : L2.St} {p : Addr} {es : List Ne}
theorem NL.set (n : NL md K F G S H σ p es) {l r : List Ne} {e : Ne} (he : es = l ++ e :: r) {ws : List L2.V} {cs : List D} (rw' : Reps K S ws cs) :
    NL md K F G S (upd H e.b (.lst ws)) σ p (l ++ ⟨e.k, e.c, e.b, ws, cs⟩ :: r) := by
  subst he
  have hm : e ∈ l ++ e :: r := List.mem_append_right _ List.mem_cons_self
  have nd := n.nd
  rw [List.nodup_cons] at nd
  have hpe : p ≠ e.b := fun z => nd.1 (z ▸ List.mem_map_of_mem hm)
  have nd2 := nd.2
  rw [List.map_append, List.map_cons, List.nodup_append] at nd2
  obtain ⟨n1, n2, n3⟩ := nd2
  rw [List.nodup_cons] at n2
  have oth : ∀ x, x ∈ l ∨ x ∈ r → x.b ≠ e.b := fun x hx z => by
    rcases hx with hx | hx
    · exact n3 x.b (List.mem_map_of_mem hx) e.b List.mem_cons_self z
    · exact n2.1 (z ▸ List.mem_map_of_mem hx)
  have mem : ∀ {x : Ne}, x ∈ l ++ (⟨e.k, e.c, e.b, ws, cs⟩ : Ne) :: r → x = ⟨e.k, e.c, e.b, ws, cs⟩ ∨ ((x ∈ l ∨ x ∈ r) ∧ x ∈ l ++ e :: r) := fun {x} hx => by
    rcases List.mem_append.mp hx with h | h
    · exact .inr ⟨.inl h, List.mem_append_left _ h⟩
    · rcases List.mem_cons.mp h with h | h
      · exact .inl h
      · exact .inr ⟨.inr h, List.mem_append_right _ (List.mem_cons_of_mem _ h)⟩
  have tk : ∀ a vs, H a = some (.tup vs) → upd H e.b (.lst ws) a = some (.tup vs) := fun a vs h => by
    rw [upd_ne (fun z => by rw [z, (n.hb e hm).1] at h; cases h)]; exact h
  refine ⟨?_, fun x hx => ?_, fun x hx => ?_, n.fp, fun x hx => ?_, ?_⟩
  · rw [upd_ne hpe, n.hp, List.map_append, List.map_append, List.map_cons, List.map_cons]
  · rcases mem hx with rfl | ⟨h1, h2⟩
    · exact ⟨upd_same, rw'⟩
    · obtain ⟨a, b⟩ := n.hb x h2
      exact ⟨by rw [upd_ne (oth x h1)]; exact a, b⟩
  · rcases mem hx with rfl | ⟨h1, h2⟩
    · exact (show Wr md H ⟨e.k, e.c, e.b, ws, cs⟩ from n.wr e hm).keep tk
    · exact (n.wr x h2).keep tk
  · rcases mem hx with rfl | ⟨h1, h2⟩
    · exact n.fb e hm
    · exact n.fb x h2
  · have := n.nd
    rw [List.map_append, List.map_cons] at this ⊢
    exact this
theorem kdl_last {a : List (Int × List D)} {k : Int} {l : List D} (h : kdl es = a ++ [(k, l)]) : ∃ es0 e, es = es0 ++ [e] ∧ kdl es0 = a ∧ e.k = k ∧ e.ds = l := by
  unfold kdl at h
  obtain ⟨l1, l2, h1, h2, h3⟩ := List.map_eq_append_iff.mp h
  obtain ⟨e, h4, h5⟩ := List.map_eq_singleton_iff.mp h3
  subst h4
  cases h5
  exact ⟨l1, e, h1, h2, rfl, rfl⟩
theorem NL.add (n : NL md K F G S H σ p es) {H' : Hp} {e : Ne} (k : ∀ a o, H a = some o → a ≠ p → H' a = some o) (hp : H' p = some (.lst (es.map (·.c) ++ [e.c]))) (hb : H' e.b = some (.lst e.vs)) (r : Reps K S e.vs e.ds) (w : Wr md H' e) (fb : Fre F G S σ e.b) (new : H e.b = none) : NL md K F G S H' σ p (es ++ [e]) := by
  have nd := n.nd
  rw [List.nodup_cons] at nd
  have ne : ∀ x ∈ es, x.b ≠ p := fun x hx z => nd.1 (z ▸ List.mem_map_of_mem hx)
  have tk : ∀ a vs, H a = some (.tup vs) → H' a = some (.tup vs) := fun a vs h => k a _ h fun z => by rw [z, n.hp] at h; cases h
  refine ⟨by rw [List.map_append]; exact hp, fun x hx => ?_, fun x hx => ?_, n.fp, fun x hx => ?_, ?_⟩
  · rcases List.mem_append.mp hx with h | h
    · exact ⟨k _ _ (n.hb x h).1 (ne x h), (n.hb x h).2⟩
    · rw [List.mem_singleton.mp h]; exact ⟨hb, r⟩
  · rcases List.mem_append.mp hx with h | h
    · exact (n.wr x h).keep tk
    · rw [List.mem_singleton.mp h]; exact w
  · rcases List.mem_append.mp hx with h | h
    · exact n.fb x h
    · rw [List.mem_singleton.mp h]; exact fb
  · rw [List.nodup_cons, List.map_append]
    refine ⟨fun z => ?_, List.nodup_append.mpr ⟨nd.2, by simp, fun a ha b hb z => ?_⟩⟩
    · rcases List.mem_append.mp z with z | z
      · exact nd.1 z
      · have : p = e.b := by simpa using z
        rw [← this, n.hp] at new; cases new
    · obtain ⟨x, hx, rfl⟩ := List.mem_map.mp ha
      have : b = e.b := by simpa using hb
      rw [this] at z
      rw [← z, (n.hb x hx).1] at new; cases new
end
section
variable {K : PySem.W.Frag} {F : Fm} {G : List Sl} {p : Addr} {X : Cx} {kds : List (Int × List D)} {Kk : List Sl → List (Int × List D) → Prop} {pos : Pos}
/-- x.append((k, [e])) -/
theorem xnl_newP (i : Nat) {x : Str} {ke ee : Expr} {p1 p2 p3 p4 p5 : Pos} {x1} (hG : G[i]? = some (.va (.adr p)))
    (h : ∀ F', XE X F' ke G fun y G1 => ∃ k, y = .int k ∧ ∀ F'', XE X F'' ee G1 fun d G2 => kds.length < 1000000 ∧ Kk G2 (kds ++ [(k, [d])]))
    (hN : X.N[i]? = some x := by rfl) (hv : Vis X.env.scope x := by first | exact Or.inl rfl | exact Or.inr (Or.inl rfl) | exact Or.inr (Or.inr rfl)) (hd : (x == ("__debug__" : Str)) = false := by decide) (hcd : (x == ("__classdict__" : Str)) = false := by decide)
    (h1 : starEach [ee] X.env = (false, eval ee X.env) :: starEach [] X.env := by rfl) (h2 : starEach [.List [ee] p3] X.env = (false, eval (.List [ee] p3) X.env) :: starEach [] X.env := by rfl) (h3 : starEach [ke, .List [ee] p3] X.env = (false, eval ke X.env) :: starEach [.List [ee] p3] X.env := by rfl)
    (hbase : attributeBase (.Name x p1) "append" X.env (eval (.Name x p1) X.env) = eval (.Name x p1) X.env := by rfl)
    (hfew : ((backTo p5 (starEach [.Tuple [ke, .List [ee] p3] x1 p4] X.env)).all (fun x => !x.1) && (backToKw p5 (keywordEach [] X.env)).all (fun x => x.1.isSome)
      && decide (([.Tuple [ke, .List [ee] p3] x1 p4] : List Expr).length + ([] : List Keyword).length + (if ([] : List Keyword).isEmpty then 0 else 1) < 30)) = true := by rfl)
    (hline : (p2.endLine == p5.line) = true := by rfl) (hs : starEach [.Tuple [ke, .List [ee] p3] x1 p4] X.env = (false, eval (.Tuple [ke, .List [ee] p3] x1 p4) X.env) :: starEach [] X.env := by rfl) (hplain : (backTo p5 (starEach [] X.env)).any (·.1) = false := by rfl)
    (hsw : swapsWith (.Call (.Attribute (.Name x p1) "append" p2) [.Tuple [ke, .List [ee] p3] x1 p4] [] p5) none pos.line X.env = pure false := by rfl) :
    XNL1 true X F (.Expr (.Call (.Attribute (.Name x p1) "append" p2) [.Tuple [ke, .List [ee] p3] x1 p4] [] p5) pos) G p kds Kk := fun S H σ E es I n ek fin => by
  obtain ⟨v0, ev0, rv0⟩ := I.va hG
  cases rv0
  refine semS_of (ps_expr (pe_bm PySem.F.plainAttrs_list PySem.F.slot_list_append PySem.F.type_list_append mt_append (pe_var hN hv hd hcd) (pa_cons (pe_tup (pa_cons pe_sem (pa_cons (pe_lst (pa_cons pe_sem pa_nil h1)) pa_nil h2) h3)) pa_nil hs) hbase hfew hline hs hplain) hsw) ?_
  refine ⟨_, ev0, .inl ⟨rfl, _, SqL.of n.hp⟩, ?_⟩
  obtain ⟨F1, I', q1⟩ := n.side I
  refine semE_mono (h F1 S H σ I') fun y H1 ⟨dy, G1, S1, J1, e1, ry, k, hk, hee⟩ => ?_
  subst hk
  cases ry
  obtain ⟨I1, n1⟩ := q1 G1 S1 H1 σ J1 e1
  obtain ⟨F2, I1', q2⟩ := n1.side I1
  refine semE_mono (hee F2 S1 H1 σ I1') fun w H2 ⟨d, G2, S2, J2, e2, rd, hz, kk⟩ => ?_
  obtain ⟨I2, n2⟩ := q2 G2 S2 H2 σ J2 e2
  refine ⟨by show 1 ≤ sizeLine; decide, fun b hb => ?_⟩
  obtain ⟨I3, fb⟩ := I2.junk (o := .lst [w]) hb
  refine ⟨by show 2 ≤ sizeLine; decide, fun t ht => ?_⟩
  obtain ⟨I4, ft⟩ := I3.junk (o := .tup [.int k, .ref b]) ht
  have htb : t ≠ b := fun z => by rw [z, upd_same] at ht; cases ht
  have ht2 : H2 t = none := by rw [upd_ne htb] at ht; exact ht
  have npb : p ≠ b := fun z => by have := n2.hp; rw [z, hb] at this; cases this
  have npt : p ≠ t := fun z => by have := n2.hp; rw [z, ht2] at this; cases this
  have hp4 : upd (upd H2 b (.lst [w])) t (.tup [.int k, .ref b]) p = some (.lst (es.map (·.c))) := by rw [upd_ne npt, upd_ne npb]; exact n2.hp
  have hes : es.length = kds.length := by rw [← ek, kdl_len]
  refine ⟨p, es.map (·.c), .ref t, rfl, rfl, hp4, by rw [List.length_map, hes]; exact Nat.lt_trans hz (by decide), ?_⟩
  have I5 := I4.wrF (o := .lst (es.map (·.c) ++ [.ref t])) n2.fp (fun vs z => by cases z)
  refine fin G2 S2 _ σ (es ++ [⟨k, .ref t, b, [w], [d]⟩]) I5 (e1.tr e2) (n2.add (fun a o ha hap => ?_) upd_same ?_ (.cons rd .nil) ⟨t, rfl, ?_⟩ fb hb) ?_
  · rw [upd_ne hap, upd_ne (fun z => by rw [z, ht2] at ha; cases ha), upd_ne (fun z => by rw [z, hb] at ha; cases ha)]; exact ha
  · show upd _ p _ b = _
    rw [upd_ne (fun z => npb z.symm), upd_ne (fun z => htb z.symm), upd_same]
  · show upd _ p _ t = _
    rw [upd_ne (fun z => npt z.symm), upd_same]
  · have : kdl (es ++ [⟨k, .ref t, b, [w], [d]⟩]) = kds ++ [(k, [d])] := by unfold kdl at ek ⊢; rw [List.map_append, ek]; rfl
    rw [this]; exact kk
/-- x[-1][1].append(e) -/
theorem xnl_lastP (i : Nat) {x : Str} {ie je ee : Expr} {p1 p2 p3 p4 p5 : Pos} (hG : G[i]? = some (.va (.adr p)))
    (h : ∀ F', XE X F' ie G fun y G1 => y = .int (-1) ∧ ∀ F'', XE X F'' je G1 fun z G2 => z = .int 1 ∧ ∀ F3, XE X F3 ee G2 fun d G3 => ∃ a k l, kds = a ++ [(k, l)] ∧ l.length < 1000000 ∧ Kk G3 (a ++ [(k, l ++ [d])])) (hne : kds ≠ [])
    (hN : X.N[i]? = some x := by rfl) (hv : Vis X.env.scope x := by first | exact Or.inl rfl | exact Or.inr (Or.inl rfl) | exact Or.inr (Or.inr rfl)) (hd : (x == ("__debug__" : Str)) = false := by decide) (hcd : (x == ("__classdict__" : Str)) = false := by decide)
    (hi1 : PlainIx ie := by exact fun _ _ => rfl) (hi2 : PlainIx je := by exact fun _ _ => rfl)
    (hbase : attributeBase (.Subscript (.Subscript (.Name x p1) ie p2) je p3) "append" X.env (eval (.Subscript (.Subscript (.Name x p1) ie p2) je p3) X.env) = eval (.Subscript (.Subscript (.Name x p1) ie p2) je p3) X.env := by rfl)
    (hfew : ((backTo p5 (starEach [ee] X.env)).all (fun x => !x.1) && (backToKw p5 (keywordEach [] X.env)).all (fun x => x.1.isSome)
      && decide (([ee] : List Expr).length + ([] : List Keyword).length + (if ([] : List Keyword).isEmpty then 0 else 1) < 30)) = true := by rfl)
    (hline : (p4.endLine == p5.line) = true := by rfl) (hs : starEach [ee] X.env = (false, eval ee X.env) :: starEach [] X.env := by rfl) (hplain : (backTo p5 (starEach [] X.env)).any (·.1) = false := by rfl)
    (hsw : swapsWith (.Call (.Attribute (.Subscript (.Subscript (.Name x p1) ie p2) je p3) "append" p4) [ee] [] p5) none pos.line X.env = pure false := by rfl) :
    XNL1 true X F (.Expr (.Call (.Attribute (.Subscript (.Subscript (.Name x p1) ie p2) je p3) "append" p4) [ee] [] p5) pos) G p kds Kk := fun S H σ E es I n ek fin => by
  obtain ⟨v0, ev0, rv0⟩ := I.va hG
  cases rv0
  refine semS_of (ps_expr (pe_bm PySem.F.plainAttrs_list PySem.F.slot_list_append PySem.F.type_list_append mt_append (pe_ix ix_tup (pe_ix ix_list (pe_var hN hv hd hcd) pe_sem hi1) pe_sem hi2) (pa_cons pe_sem pa_nil hs) hbase hfew hline hs hplain) hsw) ?_
  obtain ⟨a0, ⟨k0, l0⟩, ekl⟩ : ∃ a q, kds = a ++ [q] := ⟨kds.dropLast, kds.getLast hne, (List.dropLast_concat_getLast hne).symm⟩
  subst ek
  obtain ⟨es0, e, he, h1, h2, h3⟩ := kdl_last ekl
  have hm : e ∈ es := by rw [he]; exact List.mem_append_right _ List.mem_cons_self
  refine ⟨_, ev0, ?_⟩
  obtain ⟨F1, I', q1⟩ := n.side I
  refine semE_mono (h F1 S H σ I') fun y H1 ⟨dy, G1, S1, J1, e1, ry, hy, hje⟩ => ?_
  subst hy
  cases ry
  obtain ⟨I1, n1⟩ := q1 G1 S1 H1 σ J1 e1
  have hat : atI (es.map (·.c)) (-1) = some e.c := by
    rw [he]
    refine atI_last ?_ ?_
    · simp
    · rw [List.map_append, List.length_append, List.length_map]
      show (es0.map (·.c) ++ [e.c])[es0.length + 1 - 1]? = _
      rw [Nat.add_sub_cancel, List.getElem?_append_right (by rw [List.length_map]; exact Nat.le_refl _), List.length_map, Nat.sub_self]; rfl
  refine ⟨p, _, -1, e.c, rfl, rfl, SqL.of n1.hp, hat, ?_⟩
  obtain ⟨F2, I1', q2⟩ := n1.side I1
  refine semE_mono (hje F2 S1 H1 σ I1') fun z H2 ⟨dz, G2, S2, J2, e2, rz, hz, hee⟩ => ?_
  subst hz
  cases rz
  obtain ⟨I2, n2⟩ := q2 G2 S2 H2 σ J2 e2
  obtain ⟨t, ec, ht⟩ : ∃ t, e.c = .ref t ∧ H2 t = some (.tup [.int e.k, .ref e.b]) := n2.wr e hm
  refine ⟨t, _, 1, .ref e.b, ec, rfl, SqT.of ht, rfl, .inl ⟨rfl, _, SqL.of (n2.hb e hm).1⟩, ?_⟩
  obtain ⟨F3, I2', q3⟩ := n2.side I2
  refine semE_mono (hee F3 S2 H2 σ I2') fun w H3 ⟨d, G3, S3, J3, e3, rd, a, k, l, ea, hl, kk⟩ => ?_
  obtain ⟨I3, n3⟩ := q3 G3 S3 H3 σ J3 e3
  rw [ekl] at ea
  obtain ⟨ea1, ea2⟩ := List.append_inj' ea rfl
  cases ea2
  subst ea1
  have hbv := n3.hb e hm
  refine ⟨e.b, e.vs, w, rfl, rfl, hbv.1, by rw [hbv.2.length, h3]; exact Nat.lt_trans hl (by decide), ?_⟩
  have n4 := n3.set (l := es0) (r := []) he (ws := e.vs ++ [w]) (cs := e.ds ++ [d]) (hbv.2.append (.cons rd .nil))
  have I4 := I3.wrF (o := .lst (e.vs ++ [w])) (n3.fb e hm) (fun vs z => by cases z)
  refine fin G3 S3 _ σ _ I4 ((e1.tr e2).tr e3) n4 ?_
  have : kdl (es0 ++ [(⟨e.k, e.c, e.b, e.vs ++ [w], e.ds ++ [d]⟩ : Ne)]) = a0 ++ [(k0, l0 ++ [d])] := by
    unfold kdl at h1 ⊢
    rw [List.map_append, h1]
    show a0 ++ [(e.k, e.ds ++ [d])] = _
    rw [h2, h3]
  rw [this]; exact kk
end
end Pu

namespace Pu
open PySem PySem.Spec PyProof.Rows L2
section
variable {md : Bool} {K : PySem.W.Frag} {F : Fm} {G : List Sl} {H : Hp} {σ : L2.St}
theorem Wr.t {md : Bool} {H : Hp} {e : Ne} (hmd : md = true) (h : Wr md H e) : ∃ t, e.c = .ref t ∧ H t = some (.tup [.int e.k, .ref e.b]) := by subst hmd; exact h
theorem Wr.mk {md : Bool} {H : Hp} {e : Ne} {t : Addr} (hmd : md = true) (h1 : e.c = .ref t) (h2 : H t = some (.tup [.int e.k, .ref e.b])) : Wr md H e := by subst hmd; exact ⟨t, h1, h2⟩
theorem Wr.f {md : Bool} {H H' : Hp} {e : Ne} (hmd : md = false) (h : Wr md H e) : Wr md H' e := by subst hmd; exact h
theorem frz_b : ∀ (es : List Ne) {S : Hp}, IV K F G S H σ → (∀ e ∈ es, H e.b = some (.lst e.vs)) → (∀ e ∈ es, Fre F G S σ e.b) → (es.map (·.b)).Nodup → ∃ S', IV K F G S' H σ ∧ Ex S S' ∧ (∀ e ∈ es, S' e.b = some (.lst e.vs)) ∧ ∀ a, a ∉ es.map (·.b) → S' a = S a
  | [], S, I, _, _, _ => ⟨S, I, Ex.rfl', fun _ h => (nomatch h), fun _ _ => rfl⟩
  | e :: es, S, I, hb, fb, nd => by
    rw [List.map_cons, List.nodup_cons] at nd
    have f := fb e List.mem_cons_self
    have I1 := I.frz2 f.s f.h (hb e List.mem_cons_self) f.no
    have e1 : Ex S (upd S e.b (.lst e.vs)) := Ex.new f.s
    have ne : ∀ x ∈ es, x.b ≠ e.b := fun x hx z => nd.1 (z ▸ List.mem_map_of_mem hx)
    obtain ⟨S', I2, e2, h1, h2⟩ := frz_b es I1 (fun x hx => hb x (List.mem_cons_of_mem _ hx)) (fun x hx => by
      have := fb x (List.mem_cons_of_mem _ hx)
      exact ⟨by rw [upd_ne (ne x hx)]; exact this.s, this.h, this.b, this.no⟩) nd.2
    refine ⟨S', I2, e1.tr e2, fun x hx => ?_, fun a ha => ?_⟩
    · rcases List.mem_cons.mp hx with rfl | hx
      · exact e2 _ _ upd_same
      · exact h1 x hx
    · rw [List.map_cons, List.mem_cons] at ha
      rw [h2 a (fun z => ha (.inr z)), upd_ne (fun z => ha (.inl z))]
theorem frz_t : ∀ (es : List Ne) {S : Hp}, IV K F G S H σ → (∀ e ∈ es, Wr md H e) → ∃ S', IV K F G S' H σ ∧ Ex S S' ∧ (∀ e ∈ es, Wr md S' e) ∧ ∀ a, (∀ vs, H a ≠ some (.tup vs)) → S' a = S a
  | [], S, I, _ => ⟨S, I, Ex.rfl', fun _ h => (nomatch h), fun _ _ => rfl⟩
  | e :: es, S, I, hw => by
    rcases (by cases md <;> simp : md = false ∨ md = true) with hmd | hmd
    · exact ⟨S, I, Ex.rfl', fun x hx => Wr.f hmd (hw x hx), fun _ _ => rfl⟩
    · obtain ⟨t, ec, ht⟩ := Wr.t hmd (hw e List.mem_cons_self)
      have one : ∃ S1, IV K F G S1 H σ ∧ Ex S S1 ∧ S1 t = some (.tup [.int e.k, .ref e.b]) ∧ ∀ a, (∀ vs, H a ≠ some (.tup vs)) → S1 a = S a := by
        cases hS : S t with
        | none =>
          refine ⟨_, I.frzT hS ht, Ex.new hS, upd_same, fun a ha => upd_ne fun z => ?_⟩
          rw [z] at ha; exact ha _ ht
        | some o =>
          have := I.fr.ex t o hS
          rw [ht] at this
          exact ⟨S, I, Ex.rfl', by rw [hS, ← this], fun _ _ => rfl⟩
      obtain ⟨S1, I1, e1, h1, k1⟩ := one
      obtain ⟨S2, I2, e2, h2, k2⟩ := frz_t es I1 fun x hx => hw x (List.mem_cons_of_mem _ hx)
      refine ⟨S2, I2, e1.tr e2, fun x hx => ?_, fun a ha => (k2 a ha).trans (k1 a ha)⟩
      rcases List.mem_cons.mp hx with rfl | hx
      · exact Wr.mk hmd ec (e2 _ _ h1)
      · exact h2 x hx
def frD (md : Bool) (kds : List (Int × List D)) : D := .lst (kds.map fun q => if md = true then .tup [.int q.1, .lst q.2] else .lst q.2)
theorem NL.freeze {S : Hp} {p : Addr} {es : List Ne} (n : NL md K F G S H σ p es) (I : IV K F G S H σ) {i : Nat} (hG : G[i]? = some (.va (.adr p))) : ∃ S', IV K F (G.set i (.va (frD md (kdl es)))) S' H σ ∧ Ex S S' := by
  obtain ⟨v0, ev0, rv0⟩ := I.va hG
  cases rv0
  have nd := n.nd
  rw [List.nodup_cons] at nd
  obtain ⟨S1, I1, e1, h1, k1⟩ := frz_b es I (fun e he => (n.hb e he).1) n.fb nd.2
  obtain ⟨S2, I2, e2, h2, k2⟩ := frz_t es I1 n.wr
  have sp : S2 p = none := by rw [k2 p (fun vs z => by rw [n.hp] at z; cases z), k1 p nd.1]; exact n.fp.s
  have I3 := I2.frz2 sp n.fp.h n.hp n.fp.no
  have e3 : Ex S2 (upd S2 p (.lst (es.map (·.c)))) := Ex.new sp
  refine ⟨_, I3.know ev0 ?_, (e1.tr e2).tr e3⟩
  refine .lst upd_same ?_
  have key : ∀ l : List Ne, (∀ e ∈ l, e ∈ es) → Reps K (upd S2 p (.lst (es.map (·.c)))) (l.map (·.c)) ((kdl l).map fun q => if md = true then D.tup [.int q.1, .lst q.2] else .lst q.2) := fun l => by
    induction l with
    | nil => intro _; exact .nil
    | cons x l ih =>
      intro hl
      have hx := hl x List.mem_cons_self
      have r1 : Rep K (upd S2 p (.lst (es.map (·.c)))) (.ref x.b) (.lst x.ds) := .lst (e3 _ _ (e2 _ _ (h1 x hx))) ((n.hb x hx).2.mono ((e1.tr e2).tr e3))
      refine .cons ?_ (ih fun y hy => hl y (List.mem_cons_of_mem _ hy))
      have w := h2 x hx
      cases md with
      | true =>
        obtain ⟨t, ec, ht⟩ := w
        show Rep K _ x.c (.tup [.int x.k, .lst x.ds])
        rw [ec]
        exact .tup (e3 _ _ ht) (.cons (.int _) (.cons r1 .nil))
      | false =>
        show Rep K _ x.c (.lst x.ds)
        rw [show x.c = .ref x.b from w]
        exact r1
  exact key es fun _ h => h
/-- x = [], then two statements: the second fills it -/
theorem xss_nl2 {X : Cx} {G : List Sl} {P : Pst} {st1 st2 : Stmt} {rest : List Stmt} (md : Bool) (i : Nat) {x : Str} {p1 p2 p3 : Pos} (hn : X.N.Nodup) (hil : i < G.length) (h : ∀ p, XNL1 md X F st1 (G.set i (.va (.adr p))) p [] fun G1 kds1 => XNL1 md X F st2 G1 p kds1 fun G' kds => G'[i]? = some (.va (.adr p)) ∧ XSs X F rest (G'.set i (.va (frD md kds))) P)
    (hi : X.N[i]? = some x := by rfl) (hx : Loc X.env.scope x := by first | exact Or.inl rfl | exact Or.inr rfl) (hs : swapsWith (.List [] p1) (some (.Name x p2)) p3.line X.env = pure false := by rfl)
    (hf : X.fn x = true ∨ X.env.scope.names.lookup x = some .local := by first | exact .inl rfl | exact .inr rfl | assumption) : XSs X F (.Assign [.Name x p2] (.List [] p1) p3 :: st1 :: st2 :: rest) G P := fun S H σ E I ok => by
  refine semSs_of (pss_cons (ps_set hn hi hx (pe_lst pa_nil) hs hf) (pss_cons ps_sem (pss_cons ps_sem pss_sem))) ?_
  refine ⟨by show 0 ≤ sizeLine; exact Nat.zero_le _, fun p hp => ?_⟩
  obtain ⟨I1, fp⟩ := I.junk (o := .lst []) hp
  have I2 := I1.set (i := i) (v := .ref p) (d := .adr p) (.adr p)
  have no : NoOwn (G.set i (.va (.adr p))) (σ.set i (some (.ref p))) p := fun j q c hG hz => by
    by_cases hij : i = j
    · subst hij
      rw [List.getElem?_set_self hil] at hG; cases hG
    · rw [List.getElem?_set_ne hij] at hG hz
      exact fp.no j q c hG hz
  have n : NL md X.K F (G.set i (.va (.adr p))) S (upd H p (.lst [])) (σ.set i (some (.ref p))) p [] := ⟨upd_same, fun _ h => (nomatch h), fun _ h => (nomatch h), ⟨fp.s, fp.h, fp.b, no⟩, fun _ h => (nomatch h), by simp⟩
  refine h p S _ _ _ [] I2 n rfl fun G1 S1 H1 σ1 es1 J1 e1 n1 h1 => ?_
  refine h1 S1 H1 σ1 _ es1 J1 n1 rfl fun G' S' H' σ' es' I' e' n' ⟨hG, k⟩ => ?_
  obtain ⟨S2, I3, e3⟩ := n'.freeze I' hG
  exact k S2 H' σ' E I3 (ok.later ((e1.tr e').tr e3))
end
end Pu

namespace Pu
open PySem PySem.Spec PyProof.Rows L2
section
variable {K : PySem.W.Frag} {F : Fm} {G : List Sl} {p : Addr} {X : Cx} {kds : List (Int × List D)} {Kk : List Sl → List (Int × List D) → Prop} {pos : Pos}
theorem last_at {es es0 : List Ne} {e : Ne} (he : es = es0 ++ [e]) : atI (es.map (·.c)) (-1) = some e.c := by
  rw [he]
  refine atI_last ?_ ?_
  · simp
  · rw [List.map_append, List.length_append, List.length_map]
    show (es0.map (·.c) ++ [e.c])[es0.length + 1 - 1]? = _
    rw [Nat.add_sub_cancel, List.getElem?_append_right (by rw [List.length_map]; exact Nat.le_refl _), List.length_map, Nat.sub_self]; rfl
/-- x.append([]) -/
theorem xnl_new0 (i : Nat) {x : Str} {p1 p2 p3 p5 : Pos} (hG : G[i]? = some (.va (.adr p))) (hz : kds.length < 1000000) (k : Kk G (kds ++ [(0, [])]))
    (hN : X.N[i]? = some x := by rfl) (hv : Vis X.env.scope x := by first | exact Or.inl rfl | exact Or.inr (Or.inl rfl) | exact Or.inr (Or.inr rfl)) (hd : (x == ("__debug__" : Str)) = false := by decide) (hcd : (x == ("__classdict__" : Str)) = false := by decide)
    (hbase : attributeBase (.Name x p1) "append" X.env (eval (.Name x p1) X.env) = eval (.Name x p1) X.env := by rfl)
    (hfew : ((backTo p5 (starEach [.List [] p3] X.env)).all (fun x => !x.1) && (backToKw p5 (keywordEach [] X.env)).all (fun x => x.1.isSome)
      && decide (([.List [] p3] : List Expr).length + ([] : List Keyword).length + (if ([] : List Keyword).isEmpty then 0 else 1) < 30)) = true := by rfl)
    (hline : (p2.endLine == p5.line) = true := by rfl) (hs : starEach [.List [] p3] X.env = (false, eval (.List [] p3) X.env) :: starEach [] X.env := by rfl) (hplain : (backTo p5 (starEach [] X.env)).any (·.1) = false := by rfl)
    (hsw : swapsWith (.Call (.Attribute (.Name x p1) "append" p2) [.List [] p3] [] p5) none pos.line X.env = pure false := by rfl) :
    XNL1 false X F (.Expr (.Call (.Attribute (.Name x p1) "append" p2) [.List [] p3] [] p5) pos) G p kds Kk := fun S H σ E es I n ek fin => by
  obtain ⟨v0, ev0, rv0⟩ := I.va hG
  cases rv0
  refine semS_of (ps_expr (pe_bm PySem.F.plainAttrs_list PySem.F.slot_list_append PySem.F.type_list_append mt_append (pe_var hN hv hd hcd) (pa_cons (pe_lst pa_nil) pa_nil hs) hbase hfew hline hs hplain) hsw) ?_
  refine ⟨_, ev0, .inl ⟨rfl, _, SqL.of n.hp⟩, ?_⟩
  refine ⟨by show 0 ≤ sizeLine; exact Nat.zero_le _, fun b hb => ?_⟩
  obtain ⟨I3, fb⟩ := I.junk (o := .lst []) hb
  have npb : p ≠ b := fun z => by have := n.hp; rw [z, hb] at this; cases this
  have hes : es.length = kds.length := by rw [← ek, kdl_len]
  refine ⟨p, es.map (·.c), .ref b, rfl, rfl, by rw [upd_ne npb]; exact n.hp, by rw [List.length_map, hes]; exact Nat.lt_trans hz (by decide), ?_⟩
  have I5 := I3.wrF (o := .lst (es.map (·.c) ++ [.ref b])) n.fp (fun vs z => by cases z)
  refine fin G S _ σ (es ++ [⟨0, .ref b, b, [], []⟩]) I5 Ex.rfl' (n.add (fun a o ha hap => ?_) upd_same ?_ .nil ?_ fb hb) ?_
  · rw [upd_ne hap, upd_ne (fun z => by rw [z, hb] at ha; cases ha)]; exact ha
  · show upd _ p _ b = _
    rw [upd_ne (fun z => npb z.symm), upd_same]
  · exact (rfl : L2.V.ref b = L2.V.ref b)
  · have : kdl (es ++ [⟨0, .ref b, b, [], []⟩]) = kds ++ [(0, [])] := by unfold kdl at ek ⊢; rw [List.map_append, ek]; rfl
    rw [this]; exact k
/-- x[-1].append(e) -/
theorem xnl_last (i : Nat) {x : Str} {ie ee : Expr} {p1 p2 p4 p5 : Pos} (hG : G[i]? = some (.va (.adr p)))
    (h : ∀ F', XE X F' ie G fun y G1 => y = .int (-1) ∧ ∀ F3, XE X F3 ee G1 fun d G3 => ∃ a k l, kds = a ++ [(k, l)] ∧ l.length < 1000000 ∧ Kk G3 (a ++ [(k, l ++ [d])])) (hne : kds ≠ [])
    (hN : X.N[i]? = some x := by rfl) (hv : Vis X.env.scope x := by first | exact Or.inl rfl | exact Or.inr (Or.inl rfl) | exact Or.inr (Or.inr rfl)) (hd : (x == ("__debug__" : Str)) = false := by decide) (hcd : (x == ("__classdict__" : Str)) = false := by decide)
    (hi1 : PlainIx ie := by exact fun _ _ => rfl)
    (hbase : attributeBase (.Subscript (.Name x p1) ie p2) "append" X.env (eval (.Subscript (.Name x p1) ie p2) X.env) = eval (.Subscript (.Name x p1) ie p2) X.env := by rfl)
    (hfew : ((backTo p5 (starEach [ee] X.env)).all (fun x => !x.1) && (backToKw p5 (keywordEach [] X.env)).all (fun x => x.1.isSome)
      && decide (([ee] : List Expr).length + ([] : List Keyword).length + (if ([] : List Keyword).isEmpty then 0 else 1) < 30)) = true := by rfl)
    (hline : (p4.endLine == p5.line) = true := by rfl) (hs : starEach [ee] X.env = (false, eval ee X.env) :: starEach [] X.env := by rfl) (hplain : (backTo p5 (starEach [] X.env)).any (·.1) = false := by rfl)
    (hsw : swapsWith (.Call (.Attribute (.Subscript (.Name x p1) ie p2) "append" p4) [ee] [] p5) none pos.line X.env = pure false := by rfl) :
    XNL1 false X F (.Expr (.Call (.Attribute (.Subscript (.Name x p1) ie p2) "append" p4) [ee] [] p5) pos) G p kds Kk := fun S H σ E es I n ek fin => by
  obtain ⟨v0, ev0, rv0⟩ := I.va hG
  cases rv0
  refine semS_of (ps_expr (pe_bm PySem.F.plainAttrs_list PySem.F.slot_list_append PySem.F.type_list_append mt_append (pe_ix ix_list (pe_var hN hv hd hcd) pe_sem hi1) (pa_cons pe_sem pa_nil hs) hbase hfew hline hs hplain) hsw) ?_
  obtain ⟨a0, ⟨k0, l0⟩, ekl⟩ : ∃ a q, kds = a ++ [q] := ⟨kds.dropLast, kds.getLast hne, (List.dropLast_concat_getLast hne).symm⟩
  subst ek
  obtain ⟨es0, e, he, h1, h2, h3⟩ := kdl_last ekl
  have hm : e ∈ es := by rw [he]; exact List.mem_append_right _ List.mem_cons_self
  refine ⟨_, ev0, ?_⟩
  obtain ⟨F1, I', q1⟩ := n.side I
  refine semE_mono (h F1 S H σ I') fun y H1 ⟨dy, G1, S1, J1, e1, ry, hy, hee⟩ => ?_
  subst hy
  cases ry
  obtain ⟨I1, n1⟩ := q1 G1 S1 H1 σ J1 e1
  have ec : e.c = .ref e.b := n1.wr e hm
  refine ⟨p, _, -1, e.c, rfl, rfl, SqL.of n1.hp, last_at he, ?_⟩
  rw [ec]
  refine ⟨.inl ⟨rfl, _, SqL.of (n1.hb e hm).1⟩, ?_⟩
  obtain ⟨F3, I2', q3⟩ := n1.side I1
  refine semE_mono (hee F3 S1 H1 σ I2') fun w H3 ⟨d, G3, S3, J3, e3, rd, a, k, l, ea, hl, kk⟩ => ?_
  obtain ⟨I3, n3⟩ := q3 G3 S3 H3 σ J3 e3
  rw [ekl] at ea
  obtain ⟨ea1, ea2⟩ := List.append_inj' ea rfl
  cases ea2
  subst ea1
  have hbv := n3.hb e hm
  refine ⟨e.b, e.vs, w, rfl, rfl, hbv.1, by rw [hbv.2.length, h3]; exact Nat.lt_trans hl (by decide), ?_⟩
  have n4 := n3.set (l := es0) (r := []) he (ws := e.vs ++ [w]) (cs := e.ds ++ [d]) (hbv.2.append (.cons rd .nil))
  have I4 := I3.wrF (o := .lst (e.vs ++ [w])) (n3.fb e hm) (fun vs z => by cases z)
  refine fin G3 S3 _ σ _ I4 (e1.tr e3) n4 ?_
  have : kdl (es0 ++ [(⟨e.k, e.c, e.b, e.vs ++ [w], e.ds ++ [d]⟩ : Ne)]) = a0 ++ [(k0, l0 ++ [d])] := by
    unfold kdl at h1 ⊢
    rw [List.map_append, h1]
    show a0 ++ [(e.k, e.ds ++ [d])] = _
    rw [h2, h3]
  rw [this]; exact kk
/-- tg = x[-1][-1] -/
theorem xnl_item (i : Nat) {x : Str} {ie je tg : Expr} {p1 p2 p3 : Pos} (hG : G[i]? = some (.va (.adr p)))
    (h : ∀ F', XE X F' ie G fun y G1 => y = .int (-1) ∧ ∀ F3, XE X F3 je G1 fun z G2 => z = .int (-1) ∧ ∃ a k l d, kds = a ++ [(k, l ++ [d])] ∧ ∀ F4, XG X F4 tg d G2 allW fun G3 => Kk G3 kds)
    {a0 : List (Int × List D)} {k0 : Int} {l0 : List D} {d0 : D} (ekl : kds = a0 ++ [(k0, l0 ++ [d0])])
    (hN : X.N[i]? = some x := by rfl) (hv : Vis X.env.scope x := by first | exact Or.inl rfl | exact Or.inr (Or.inl rfl) | exact Or.inr (Or.inr rfl)) (hd : (x == ("__debug__" : Str)) = false := by decide) (hcd : (x == ("__classdict__" : Str)) = false := by decide)
    (hi1 : PlainIx ie := by exact fun _ _ => rfl) (hi2 : PlainIx je := by exact fun _ _ => rfl)
    (hs : swapsWithSole [tg] (.Subscript (.Subscript (.Name x p1) ie p2) je p3) pos.line X.env = pure false := by rfl) (hw : swappedStores [tg] (.Subscript (.Subscript (.Name x p1) ie p2) je p3) X.env = pure none := by rfl)
    (h1 : (assignEach [tg] X.env).map (·.2) = [assign tg X.env] := by rfl) : XNL1 false X F (.Assign [tg] (.Subscript (.Subscript (.Name x p1) ie p2) je p3) pos) G p kds Kk := fun S H σ E es I n ek fin => by
  obtain ⟨v0, ev0, rv0⟩ := I.va hG
  cases rv0
  refine semS_of (ps_asg (pe_ix ix_list (pe_ix ix_list (pe_var hN hv hd hcd) pe_sem hi1) pe_sem hi2) pg_sem hs hw h1) ?_
  subst ek
  obtain ⟨es0, e, he, g1, g2, g3⟩ := kdl_last ekl
  have hm : e ∈ es := by rw [he]; exact List.mem_append_right _ List.mem_cons_self
  refine ⟨_, ev0, ?_⟩
  obtain ⟨F1, I', q1⟩ := n.side I
  refine semE_mono (h F1 S H σ I') fun y H1 ⟨dy, G1, S1, J1, e1, ry, hy, hje⟩ => ?_
  subst hy
  cases ry
  obtain ⟨I1, n1⟩ := q1 G1 S1 H1 σ J1 e1
  have ec : e.c = .ref e.b := n1.wr e hm
  refine ⟨p, _, -1, e.c, rfl, rfl, SqL.of n1.hp, last_at he, ?_⟩
  rw [ec]
  obtain ⟨F3, I2', q3⟩ := n1.side I1
  refine semE_mono (hje F3 S1 H1 σ I2') fun z H2 ⟨dz, G2, S2, J2, e2, rz, hz, a, k, l, d, ea, hg⟩ => ?_
  subst hz
  cases rz
  obtain ⟨I2, n2⟩ := q3 G2 S2 H2 σ J2 e2
  rw [ekl] at ea
  obtain ⟨ea1, ea2⟩ := List.append_inj' ea rfl
  have ea3 := (Prod.mk.inj (List.singleton_inj.mp ea2)).2
  obtain ⟨_, ed⟩ := List.append_inj' ea3 rfl
  have ed : d0 = d := List.singleton_inj.mp ed
  subst ed
  have hbv := n2.hb e hm
  have hlast : atI e.ds (-1) = some d0 := by
    rw [g3]
    exact atI_last (by simp) (by simp)
  obtain ⟨v, hv1, rv⟩ := hbv.2.atI hlast
  refine ⟨e.b, e.vs, -1, v, rfl, rfl, SqL.of hbv.1, hv1, ?_⟩
  obtain ⟨F4, I4', q4⟩ := n2.side I2
  refine semG_mono (hg F4 S2 H2 σ v I4' rv) fun σ2 H3 ⟨G3, S3, J3, e3, _, k2⟩ => ?_
  obtain ⟨I3, n3⟩ := q4 G3 S3 H3 σ2 J3 e3
  exact fin G3 S3 H3 σ2 es I3 ((e1.tr e2).tr e3) n3 k2
/-- x[-1][-1] = e -/
theorem xnl_setl (i : Nat) {x : Str} {ie je e0 : Expr} {p1 p2 p3 : Pos} (hG : G[i]? = some (.va (.adr p)))
    (h : ∀ F', XE X F' e0 G fun d1 G0 => ∀ F1, XE X F1 ie G0 fun y G1 => y = .int (-1) ∧ ∀ F3, XE X F3 je G1 fun z G2 => z = .int (-1) ∧ ∃ a k l d, kds = a ++ [(k, l ++ [d])] ∧ Kk G2 (a ++ [(k, l ++ [d1])]))
    {a0 : List (Int × List D)} {k0 : Int} {l0 : List D} {d0 : D} (ekl : kds = a0 ++ [(k0, l0 ++ [d0])])
    (hN : X.N[i]? = some x := by rfl) (hv : Vis X.env.scope x := by first | exact Or.inl rfl | exact Or.inr (Or.inl rfl) | exact Or.inr (Or.inr rfl)) (hd : (x == ("__debug__" : Str)) = false := by decide) (hcd : (x == ("__classdict__" : Str)) = false := by decide)
    (hi1 : PlainIx ie := by exact fun _ _ => rfl)
    (ha : ∀ v, assign (.Subscript (.Subscript (.Name x p1) ie p2) je p3) X.env v = (do
      let ov ← holding [v] (eval (.Subscript (.Name x p1) ie p2) X.env)
      let iv ← holding [v, ov] (eval je X.env)
      standAt p3
      holding [v, ov, iv] (setItem ov iv v)
      release [v, ov, iv] []) := by intro _; rfl)
    (hs : swapsWithSole [.Subscript (.Subscript (.Name x p1) ie p2) je p3] e0 pos.line X.env = pure false := by rfl) (hw : swappedStores [.Subscript (.Subscript (.Name x p1) ie p2) je p3] e0 X.env = pure none := by rfl)
    (h1 : (assignEach [.Subscript (.Subscript (.Name x p1) ie p2) je p3] X.env).map (·.2) = [assign (.Subscript (.Subscript (.Name x p1) ie p2) je p3) X.env] := by rfl) :
    XNL1 false X F (.Assign [.Subscript (.Subscript (.Name x p1) ie p2) je p3] e0 pos) G p kds Kk := fun S H σ E es I n ek fin => by
  obtain ⟨v0, ev0, rv0⟩ := I.va hG
  cases rv0
  refine semS_of (ps_asg pe_sem (pg_sub (pe_ix ix_list (pe_var hN hv hd hcd) pe_sem hi1) pe_sem set_list ha) hs hw h1) ?_
  subst ek
  obtain ⟨es0, e, he, g1, g2, g3⟩ := kdl_last ekl
  have hm : e ∈ es := by rw [he]; exact List.mem_append_right _ List.mem_cons_self
  obtain ⟨F0, I0, q0⟩ := n.side I
  refine semE_mono (h F0 S H σ I0) fun w H0 ⟨d1, G0, S0, J0, f0, rd, hie⟩ => ?_
  obtain ⟨I0', n0⟩ := q0 G0 S0 H0 σ J0 f0
  refine ⟨_, ev0, ?_⟩
  obtain ⟨F1, I', q1⟩ := n0.side I0'
  refine semE_mono (hie F1 S0 H0 σ I') fun y H1 ⟨dy, G1, S1, J1, e1, ry, hy, hje⟩ => ?_
  subst hy
  cases ry
  obtain ⟨I1, n1⟩ := q1 G1 S1 H1 σ J1 e1
  have ec : e.c = .ref e.b := n1.wr e hm
  refine ⟨p, _, -1, e.c, rfl, rfl, SqL.of n1.hp, last_at he, ?_⟩
  rw [ec]
  obtain ⟨F3, I2', q3⟩ := n1.side I1
  refine semE_mono (hje F3 S1 H1 σ I2') fun z H2 ⟨dz, G2, S2, J2, e2, rz, hz, a, k, l, d, ea, kk⟩ => ?_
  subst hz
  cases rz
  obtain ⟨I2, n2⟩ := q3 G2 S2 H2 σ J2 e2
  rw [ekl] at ea
  obtain ⟨ea1, ea2⟩ := List.append_inj' ea rfl
  have eab := Prod.mk.inj (List.singleton_inj.mp ea2)
  obtain ⟨el, _⟩ := List.append_inj' eab.2 rfl
  have hbv := n2.hb e hm
  have hlen : e.vs.length = l0.length + 1 := by rw [hbv.2.length, g3]; simp
  have hix : ixN e.vs.length (-1) = some l0.length := by
    rw [hlen]
    unfold ixN
    rw [if_neg (by omega), if_pos (by omega)]
    congr 1; omega
  refine ⟨e.b, e.vs, -1, l0.length, rfl, rfl, hbv.1, hix, ?_⟩
  have rset : Reps X.K S2 (e.vs.set l0.length w) (l0 ++ [d1]) := by
    have := Reps.set (rd.mono (e1.tr e2)) l0.length hbv.2
    rw [g3] at this
    have e3 : (l0 ++ [d0]).set l0.length d1 = l0 ++ [d1] := by simp
    rw [e3] at this; exact this
  have n4 := n2.set (l := es0) (r := []) he rset
  have I4 := I2.wrF (o := .lst (e.vs.set l0.length w)) (n2.fb e hm) (fun vs z => by cases z)
  refine fin G2 S2 _ σ _ I4 ((f0.tr e1).tr e2) n4 ?_
  have : kdl (es0 ++ [(⟨e.k, e.c, e.b, e.vs.set l0.length w, l0 ++ [d1]⟩ : Ne)]) = a ++ [(k, l ++ [d1])] := by
    unfold kdl at g1 ⊢
    rw [List.map_append, g1, ← ea1, ← eab.1, ← el]
    show a0 ++ [(e.k, l0 ++ [d1])] = _
    rw [g2]
  rw [this]; exact kk
/-- x = [[]], then two statements -/
theorem xss_nl2n {P : Pst} {st1 st2 : Stmt} {rest : List Stmt} (i : Nat) {x : Str} {p0 p1 p2 p3 : Pos} (hn : X.N.Nodup) (hil : i < G.length) (h : ∀ p, XNL1 false X F st1 (G.set i (.va (.adr p))) p [(0, [])] fun G1 kds1 => XNL1 false X F st2 G1 p kds1 fun G' kds => G'[i]? = some (.va (.adr p)) ∧ XSs X F rest (G'.set i (.va (frD false kds))) P)
    (hi : X.N[i]? = some x := by rfl) (hx : Loc X.env.scope x := by first | exact Or.inl rfl | exact Or.inr rfl) (hs : swapsWith (.List [.List [] p0] p1) (some (.Name x p2)) p3.line X.env = pure false := by rfl) (hst : starEach [.List [] p0] X.env = (false, eval (.List [] p0) X.env) :: starEach [] X.env := by rfl)
    (hf : X.fn x = true ∨ X.env.scope.names.lookup x = some .local := by first | exact .inl rfl | exact .inr rfl | assumption) : XSs X F (.Assign [.Name x p2] (.List [.List [] p0] p1) p3 :: st1 :: st2 :: rest) G P := fun S H σ E I ok => by
  refine semSs_of (pss_cons (ps_set hn hi hx (pe_lst (pa_cons (pe_lst pa_nil) pa_nil hst)) hs hf) (pss_cons ps_sem (pss_cons ps_sem pss_sem))) ?_
  refine ⟨by show 0 ≤ sizeLine; exact Nat.zero_le _, fun b hb => ⟨by show 1 ≤ sizeLine; decide, fun p hp => ?_⟩⟩
  obtain ⟨I1, fb⟩ := I.junk (o := .lst []) hb
  obtain ⟨I2, fp⟩ := I1.junk (o := .lst [.ref b]) hp
  have npb : p ≠ b := fun z => by rw [z, upd_same] at hp; cases hp
  have I3 := I2.set (i := i) (v := .ref p) (d := .adr p) (.adr p)
  have no : ∀ {a : Addr}, NoOwn G σ a → NoOwn (G.set i (.va (.adr p))) (σ.set i (some (.ref p))) a := fun {a} fp j q c hG hz => by
    by_cases hij : i = j
    · subst hij
      rw [List.getElem?_set_self hil] at hG; cases hG
    · rw [List.getElem?_set_ne hij] at hG hz
      exact fp j q c hG hz
  have n : NL false X.K F (G.set i (.va (.adr p))) S (upd (upd H b (.lst [])) p (.lst [.ref b])) (σ.set i (some (.ref p))) p [⟨0, .ref b, b, [], []⟩] := by
    refine ⟨upd_same, fun e h => ?_, fun e h => ?_, ⟨fp.s, fp.h, fp.b, no fp.no⟩, fun e h => ?_, by simp [npb]⟩
    · rw [List.mem_singleton.mp h]
      exact ⟨by show upd _ p _ b = _; rw [upd_ne (fun z => npb z.symm), upd_same], .nil⟩
    · rw [List.mem_singleton.mp h]
      exact (rfl : L2.V.ref b = L2.V.ref b)
    · rw [List.mem_singleton.mp h]
      exact ⟨fb.s, fb.h, fb.b, no fb.no⟩
  refine h p S _ _ _ _ I3 n rfl fun G1 S1 H1 σ1 es1 J1 e1 n1 h1 => ?_
  refine h1 S1 H1 σ1 _ es1 J1 n1 rfl fun G' S' H' σ' es' I' e' n' ⟨hG, k⟩ => ?_
  obtain ⟨S2, I4, e3⟩ := n'.freeze I' hG
  exact k S2 H' σ' E I4 (ok.later ((e1.tr e').tr e3))
end
end Pu

namespace Pu
open PySem PySem.Spec PyProof.Rows L2
section
variable {X : Cx} {F : Fm} {G : List Sl} {pos : Pos}
theorem noOwn_outC {K : PySem.W.Frag} {S H : Hp} {σ : L2.St} {G T : List Sl} (I : IV K F G S H σ) {a : Addr} (h : H a = none) : NoOwn (outC G T) σ a := fun k q c hk z => by
  obtain ⟨ad, h1, h2⟩ := I.sl
  rcases outC_at hk with e | ⟨d, e, _⟩ | ⟨q1, c0, q2, c2, _, g, _⟩
  · cases e
  · cases e
  · obtain ⟨ev, _, _, o, ho, _⟩ := h1 k _ g
    rw [z] at ev
    have ea : a = ad k := L2.V.ref.inj (Option.some.inj ev)
    rw [← ea, h] at ho; cases ho
theorem semTs_nil {σ : L2.St} {H : Hp} {Q : Bool → Hp → Prop} (h : Q true H) : semTs X [] σ H Q := h
/-- [[] for ..]: a list of lists all its own -/
theorem lc_nl {Kd : Nat → List Sl → Prop} {tg iter : Expr} {p0 : Pos} {scope : Scope} (own : List (Str × Nat)) (h : XW' X F tg iter G fun ds G1 => ∃ J : Nat → List Sl → Prop, J 0 (inC (own.map (·.2)) 0 G1) ∧ ds.length < 1000000 ∧
      (∀ i T, J i T → okC (own.map (·.2)) 0 T) ∧
      (∀ i d T, ds[i]? = some d → J i T → ∀ F' s0 H0 C cl fp, XG (X.blk s0 H0 scope (compEnvC scope cl C X.env) fp) F' tg d T (fun j => (own.map (·.2)).contains j) fun T' => ∃ T4, J (i + 1) T4 ∧ Cov T' T4) ∧
      ∀ T, J ds.length T → Kd ds.length (outC G1 T)) : ∀ S H σ, IV X.K F G S H σ → ∀ Q : VK, (∀ Dl m es G' S2 H2, IV X.K F G' S2 H2 σ → Ex S S2 → NL false X.K F G' S2 H2 σ Dl es → kdl es = List.replicate m (0, []) → Kd m G' → Q (.ref Dl) H2) →
      tLc (semI X tg iter) (fun v σ H Q => ∀ s0 H0 C cl fp, semG (X.blk s0 H0 scope (compEnvC scope cl C X.env) fp) tg v σ H Q) (fun σ H Q => ∀ s0 H0 C cl fp, semTs (X.blk s0 H0 scope (compEnvC scope cl C X.env) fp) [] σ H Q) (fun σ H Q => ∀ s0 H0 C cl fp, semE (X.blk s0 H0 scope (compEnvC scope cl C X.env) fp) (.List [] p0) σ H Q) (own.map (·.2)) σ H Q := by
  intro S H σ Iv Q kq
  let Y : Shared → Hp → Addr → List (Str × Addr) → List Addr → Cx := fun s0 H0 C cl fp => X.blk s0 H0 scope (compEnvC scope cl C X.env) fp
  refine semI_mono (h S H σ Iv) fun It H1 ⟨ds, G1, S1, I1, e1, wk, J, j0, hlen, hok, turn, done⟩ => ?_
  intro Dl hD
  obtain ⟨ad, h1, h2⟩ := I1.sl
  have Iin : IV X.K ⟨H1, S1, bsOf ad G1⟩ (inC (own.map (·.2)) 0 G1) S1 H1 (wipe σ (own.map (·.2))) := I1.inC h1 h2
  obtain ⟨I0, f0⟩ := Iin.junk (o := .lst []) hD
  refine ⟨fun i m H2 => m = ds.length - i ∧ i ≤ ds.length ∧ ∃ T S2 es, IV X.K ⟨H1, S1, bsOf ad G1⟩ T S2 H2 (wipe σ (own.map (·.2))) ∧ J i T ∧ NL false X.K ⟨H1, S1, bsOf ad G1⟩ T S2 H2 (wipe σ (own.map (·.2))) Dl es ∧ kdl es = List.replicate i (0, []),
    ⟨ds.length, by simp, Nat.zero_le _, _, S1, [], I0, j0, ⟨upd_same, fun _ h => (nomatch h), fun _ h => (nomatch h), f0, fun _ h => (nomatch h), by simp⟩, rfl⟩, ?_⟩
  rintro i m H2 ⟨rfl, hi, T, S2, es, I2, j, n2, k2⟩
  have e2 : Ex S1 S2 := I2.fr.old
  by_cases hlt : i < ds.length
  · refine .inr ⟨wk.go _ _ S2 H2 _ i I2 e2 hlt, fun H3 => ∃ T S3 es, IV X.K ⟨H1, S1, bsOf ad G1⟩ T S3 H3 (wipe σ (own.map (·.2))) ∧ J (i + 1) T ∧ NL false X.K ⟨H1, S1, bsOf ad G1⟩ T S3 H3 (wipe σ (own.map (·.2))) Dl es ∧ kdl es = List.replicate (i + 1) (0, []),
      fun H3 hN => ⟨ds.length - (i + 1), by omega, rfl, hlt, hN⟩, fun x H3 y => ?_⟩
    have hd := List.getElem?_eq_getElem hlt
    obtain ⟨F2, I2', q2⟩ := n2.side I2
    obtain ⟨S3, I3, e3, rx⟩ := wk.yld _ _ S2 H2 _ i _ x H3 I2' e2 hd y
    refine fun s0 H0 C cl fp => ?_
    refine semG_mono (turn i _ T hd j _ s0 H0 C cl fp S3 H3 _ x I3 rx) fun σ4 H4 ⟨G4, S4, I4, e4, kp, T4, j4, c4⟩ => ?_
    have hw4 : wipe σ4 (own.map (·.2)) = wipe σ (own.map (·.2)) := keeps_wipe kp (fun j h => List.contains_iff_mem.mp h)
    obtain ⟨I5, n5⟩ := q2 G4 S4 H4 σ4 I4 (e3.tr e4)
    refine ⟨hw4, fun s0 H0 C cl fp => ?_⟩
    refine semTs_nil ?_
    refine iteT fun s0 H0 C cl fp => ?_
    refine semE_of (pe_lst pa_nil) ?_
    refine ⟨by show 0 ≤ sizeLine; exact Nat.zero_le _, fun b hb => ?_⟩
    obtain ⟨I6, fb⟩ := I5.junk (o := .lst []) hb
    have hbD : Dl ≠ b := fun z => by rw [← z, n5.hp] at hb; cases hb
    have hl : es.length = i := by rw [← kdl_len (es := es), k2, List.length_replicate]
    have I7 := I6.wrF (o := .lst (es.map (·.c) ++ [.ref b])) n5.fp (fun vs z => by cases z)
    have n7 := (n5.add (H' := upd (upd H4 b (.lst [])) Dl (.lst (es.map (·.c) ++ [.ref b]))) (e := ⟨0, .ref b, b, [], []⟩)
      (fun a o ha hne => by rw [upd_ne hne, upd_ne (fun z => by rw [z, hb] at ha; cases ha)]; exact ha) upd_same (by show upd _ Dl _ b = _; rw [upd_ne (fun z => hbD z.symm), upd_same]) .nil (rfl : L2.V.ref b = L2.V.ref b) fb hb).cov c4
    have no : ∀ {a : Addr}, NoOwn T4 σ4 a → NoOwn T4 (wipe σ (own.map (·.2))) a := fun {a} no k q c hk => by
      by_cases hm : k ∈ own.map (·.2)
      · have z := (okC_at (hok _ _ j4) hk).1 (by rw [Nat.zero_add]; exact hm)
        cases z
      · rw [← hw4, wipe_out hm]; exact no k q c hk
    have I8 : IV X.K ⟨H1, S1, bsOf ad G1⟩ T4 S4 (upd (upd H4 b (.lst [])) Dl (.lst (es.map (·.c) ++ [.ref b]))) (wipe σ (own.map (·.2))) := by
      have a1 := I7.cov c4
      obtain ⟨ad', k1, k2⟩ := a1.sl
      refine ⟨a1.fr, by rw [← hw4, wipe_length]; exact a1.len, ad', fun k s hs => ?_, k2⟩
      by_cases hk : k ∈ own.map (·.2)
      · have z := (okC_at (hok _ _ j4) hs).1 (by rw [Nat.zero_add]; exact hk)
        subst z; trivial
      · have q := k1 k s hs
        rw [← hw4, wipe_out hk]
        exact q
    refine ⟨es.map (·.c), by rw [upd_ne hbD]; exact n5.hp, by rw [List.length_map, hl]; exact Nat.lt_trans hlt (Nat.lt_trans hlen (by decide)), T4, S4, es ++ [⟨0, .ref b, b, [], []⟩], I8, j4, ⟨n7.hp, n7.hb, n7.wr, ⟨n7.fp.s, n7.fp.h, n7.fp.b, no n7.fp.no⟩, fun e he => ⟨(n7.fb e he).s, (n7.fb e he).h, (n7.fb e he).b, no (n7.fb e he).no⟩, n7.nd⟩, ?_⟩
    unfold kdl at k2 ⊢
    rw [List.map_append, k2, List.replicate_succ']
    rfl
  · have e : i = ds.length := by omega
    subst e
    refine .inl ⟨wk.stop _ _ S2 H2 _ I2 e2, ?_⟩
    have I4 := I1.outC h1 h2 I2 (keeps_wipe (ws := fun _ => false) .refl (by intro j h; cases h)) (fun k hk q c z => by
      have := (okC_at (hok _ T j) z).1 (by rw [Nat.zero_add]; exact hk)
      cases this)
    have fre : ∀ a, Fre ⟨H1, S1, bsOf ad G1⟩ T S2 (wipe σ (own.map (·.2))) a → Fre F (outC G1 T) S2 σ a := fun a f => ⟨f.s, (I1.fr.free f.h).2, fun z => (by obtain ⟨o', e', _⟩ := I1.fr.bor a z; rw [show H1 a = none from f.h] at e'; cases e'), noOwn_outC I1 f.h⟩
    exact kq Dl _ es _ S2 H2 I4 (e1.tr e2) ⟨n2.hp, n2.hb, n2.wr, fre _ n2.fp, fun e he => fre _ (n2.fb e he), n2.nd⟩ k2 (done T j)
/-- x = [[] for ..], then a statement that fills it -/
theorem xss_nlc {P : Pst} {tg iter : Expr} {p0 : Pos} {scope : Scope} {st1 : Stmt} {rest : List Stmt} {y : Str} {py spos : Pos} (i : Nat) (own : List (Str × Nat)) (hn : X.N.Nodup) (N : List Str) (sc : Scope) (ok : blkC N sc scope own = true)
    (h : XW' X F tg iter G fun ds G1 => ∃ J : Nat → List Sl → Prop, J 0 (inC (own.map (·.2)) 0 G1) ∧ ds.length < 1000000 ∧
      (∀ i T, J i T → okC (own.map (·.2)) 0 T) ∧
      (∀ i d T, ds[i]? = some d → J i T → ∀ F' s0 H0 C cl fp, XG (X.blk s0 H0 scope (compEnvC scope cl C X.env) fp) F' tg d T (fun j => (own.map (·.2)).contains j) fun T' => ∃ T4, J (i + 1) T4 ∧ Cov T' T4) ∧
      ∀ T, J ds.length T → i < (outC G1 T).length ∧ ∀ p, XNL1 false X F st1 ((outC G1 T).set i (.va (.adr p))) p (List.replicate ds.length (0, [])) fun G' kds => G'[i]? = some (.va (.adr p)) ∧ XSs X F rest (G'.set i (.va (frD false kds))) P)
    (hc : X.calm = true := by rfl) (eN : X.N = N := by rfl) (eS : X.env.scope = sc := by rfl) (hs : ∀ x, foldedSetIterable iter X.env x = pure x := by intro _; rfl) (hy : X.N[i]? = some y := by rfl) (hyl : X.env.scope.names.lookup y = some .local := by rfl)
    (hsw : swapsWith (.ListComp (.List [] p0) [⟨tg, iter, [], 0⟩] scope pos) (some (.Name y py)) spos.line X.env = pure true := by exact sw_true rfl rfl rfl (by decide +kernel)) :
    XSs X F (.Assign [.Name y py] (.ListComp (.List [] p0) [⟨tg, iter, [], 0⟩] scope pos) spos :: st1 :: rest) G P := fun S H σ E Iv eok => by
  refine semSs_of (pss_cons (ps_setLc hc hn hy hyl hsw pi_sem (by rw [eN, eS]; exact blkOk_by ok) (g := fun v σ H Q => ∀ s0 H0 C cl fp, semG (X.blk s0 H0 scope (compEnvC scope cl C X.env) fp) tg v σ H Q) (tt := fun σ H Q => ∀ s0 H0 C cl fp, semTs (X.blk s0 H0 scope (compEnvC scope cl C X.env) fp) [] σ H Q) (te := fun σ H Q => ∀ s0 H0 C cl fp, semE (X.blk s0 H0 scope (compEnvC scope cl C X.env) fp) (.List [] p0) σ H Q)
    (fun s0 H0 C cl fp => ⟨fun pins s σ H v u Q I r h => h s0 H0 C cl fp pins s u I r⟩) (fun s0 H0 C cl fp => ⟨fun pins s σ H Q I h => (pts_sem (ifs := []) (Nat.zero_le 1)).run pins s σ H Q I (h s0 H0 C cl fp)⟩) (fun s0 H0 C cl fp => ⟨fun pins s σ H Q I h => h s0 H0 C cl fp pins s I⟩) hs) (pss_cons ps_sem pss_sem)) ?_
  unfold tSeq tAsg
  refine lc_nl (p0 := p0) (Kd := fun m G1 => i < G1.length ∧ ∀ p, XNL1 false X F st1 (G1.set i (.va (.adr p))) p (List.replicate m (0, [])) fun G' kds => G'[i]? = some (.va (.adr p)) ∧ XSs X F rest (G'.set i (.va (frD false kds))) P) own h S H σ Iv _ fun p m es G1 S2 H2 I2 e2 n2 k2 ⟨hil, kk⟩ => ?_
  have I3 := I2.set (i := i) (v := .ref p) (d := .adr p) (.adr p)
  have no : ∀ {a : Addr}, NoOwn G1 σ a → NoOwn (G1.set i (.va (.adr p))) (σ.set i (some (.ref p))) a := fun {a} fp j q c hG hz => by
    by_cases hij : i = j
    · subst hij
      rw [List.getElem?_set_self hil] at hG; cases hG
    · rw [List.getElem?_set_ne hij] at hG hz
      exact fp j q c hG hz
  have n3 : NL false X.K F (G1.set i (.va (.adr p))) S2 H2 (σ.set i (some (.ref p))) p es := ⟨n2.hp, n2.hb, n2.wr, ⟨n2.fp.s, n2.fp.h, n2.fp.b, no n2.fp.no⟩, fun e he => ⟨(n2.fb e he).s, (n2.fb e he).h, (n2.fb e he).b, no (n2.fb e he).no⟩, n2.nd⟩
  refine kk p S2 _ _ _ es I3 n3 k2 fun G' S' H' σ' es' I' e' n' ⟨hG, k⟩ => ?_
  obtain ⟨S5, I5, e5⟩ := n'.freeze I' hG
  exact k S5 H' σ' E I5 (eok.later ((e2.tr e').tr e5))
theorem kdl_mid : ∀ {es : List Ne} {a : List (Int × List D)} {k : Int} {l : List D} {r}, kdl es = a ++ (k, l) :: r → ∃ es0 e es1, es = es0 ++ e :: es1 ∧ kdl es0 = a ∧ e.k = k ∧ e.ds = l ∧ kdl es1 = r
  | [], a, k, l, r, h => by cases a <;> cases h
  | e :: es, [], k, l, r, h => by
    cases h
    exact ⟨[], e, es, rfl, rfl, rfl, rfl, rfl⟩
  | e :: es, x :: a, k, l, r, h => by
    obtain ⟨h1, h2⟩ := List.cons.inj h
    obtain ⟨es0, e', es1, he, q1, q2⟩ := kdl_mid h2
    exact ⟨e :: es0, e', es1, by rw [he]; rfl, by rw [← h1, ← q1]; rfl, q2⟩
/-- row = x[e]; row.extend(f) -/
theorem xnl_ext {kds : List (Int × List D)} {p : Addr} {Kk : List Sl → List (Int × List D) → Prop} (i j : Nat) {x row : Str} {ie ee : Expr} {rest : List Stmt} {p1 p2 p3 py q1 q2 q3 : Pos} (hn : X.N.Nodup) (hG : G[i]? = some (.va (.adr p)))
    (h : ∀ F', XE X F' ie G fun y G1 => ∃ a k l r, y = .int (a.length : Nat) ∧ kds = a ++ (k, l) :: r ∧ j < G1.length ∧ ∀ F3 b, XE X F3 ee (G1.set j (.va (.adr b))) fun d G3 => ∃ ds, d = .lst ds ∧ l.length + ds.length < 1000000 ∧ XNL false X F rest G3 p (a ++ (k, l ++ ds) :: r) Kk)
    (hN : X.N[i]? = some x := by rfl) (hv : Vis X.env.scope x := by first | exact Or.inl rfl | exact Or.inr (Or.inl rfl) | exact Or.inr (Or.inr rfl)) (hd : (x == ("__debug__" : Str)) = false := by decide) (hcd : (x == ("__classdict__" : Str)) = false := by decide)
    (hi1 : PlainIx ie := by exact fun _ _ => rfl)
    (hi : X.N[j]? = some row := by rfl) (hx : Loc X.env.scope row := by first | exact Or.inl rfl | exact Or.inr rfl) (hs0 : swapsWith (.Subscript (.Name x p1) ie p2) (some (.Name row py)) p3.line X.env = pure false := by rfl)
    (hf : X.fn row = true ∨ X.env.scope.names.lookup row = some .local := by first | exact .inl rfl | exact .inr rfl | assumption)
    (hv2 : Vis X.env.scope row := by first | exact Or.inl rfl | exact Or.inr (Or.inl rfl) | exact Or.inr (Or.inr rfl)) (hd2 : (row == ("__debug__" : Str)) = false := by decide) (hcd2 : (row == ("__classdict__" : Str)) = false := by decide)
    (hbase : attributeBase (.Name row q1) "extend" X.env (eval (.Name row q1) X.env) = eval (.Name row q1) X.env := by rfl)
    (hfew : ((backTo q3 (starEach [ee] X.env)).all (fun x => !x.1) && (backToKw q3 (keywordEach [] X.env)).all (fun x => x.1.isSome)
      && decide (([ee] : List Expr).length + ([] : List Keyword).length + (if ([] : List Keyword).isEmpty then 0 else 1) < 30)) = true := by rfl)
    (hline : (q2.endLine == q3.line) = true := by rfl) (hs : starEach [ee] X.env = (false, eval ee X.env) :: starEach [] X.env := by rfl) (hplain : (backTo q3 (starEach [] X.env)).any (·.1) = false := by rfl)
    (hsw : swapsWith (.Call (.Attribute (.Name row q1) "extend" q2) [ee] [] q3) none pos.line X.env = pure false := by rfl) :
    XNL false X F (.Assign [.Name row py] (.Subscript (.Name x p1) ie p2) p3 :: .Expr (.Call (.Attribute (.Name row q1) "extend" q2) [ee] [] q3) pos :: rest) G p kds Kk := fun S H σ E es I n ek fin => by
  obtain ⟨v0, ev0, rv0⟩ := I.va hG
  cases rv0
  refine semSs_of (pss_cons (ps_set hn hi hx (pe_ix ix_list (pe_var hN hv hd hcd) pe_sem hi1) hs0 hf) (pss_cons (ps_expr (pe_bm PySem.F.plainAttrs_list PySem.F.slot_list_extend PySem.F.type_list_extend (mt_extend) (pe_var hi hv2 hd2 hcd2) (pa_cons pe_sem pa_nil hs) hbase hfew hline hs hplain) hsw) pss_sem)) ?_
  refine ⟨_, ev0, ?_⟩
  obtain ⟨F1, I', q1⟩ := n.side I
  refine semE_mono (h F1 S H σ I') fun y H1 ⟨dy, G1, S1, J1, e1, ry, a, k, l, r, hy, ekl, hj, hee⟩ => ?_
  subst hy
  cases ry
  obtain ⟨I1, n1⟩ := q1 G1 S1 H1 σ J1 e1
  subst ek
  obtain ⟨es0, e, es1, he, h1, h2, h3, h4⟩ := kdl_mid ekl
  have hm : e ∈ es := by rw [he]; exact List.mem_append_right _ List.mem_cons_self
  have ec : e.c = .ref e.b := n1.wr e hm
  have hat : atI (es.map (·.c)) ((a.length : Nat) : Int) = some e.c := by
    have hl : es0.length = a.length := by rw [← h1, kdl_len]
    have hg : es[a.length]? = some e := by rw [he, ← hl]; simp
    exact atI_nat (by rw [List.getElem?_map, hg]; rfl)
  refine ⟨p, _, _, e.c, rfl, rfl, SqL.of n1.hp, hat, ?_⟩
  rw [ec]
  have I2 := I1.set (i := j) (v := .ref e.b) (d := .adr e.b) (.adr e.b)
  have no : ∀ {a : Addr}, NoOwn G1 σ a → NoOwn (G1.set j (.va (.adr e.b))) (σ.set j (some (.ref e.b))) a := fun {a} fp m q c hG hz => by
    by_cases hij : j = m
    · subst hij
      rw [List.getElem?_set_self hj] at hG; cases hG
    · rw [List.getElem?_set_ne hij] at hG hz
      exact fp m q c hG hz
  have n2 : NL false X.K F (G1.set j (.va (.adr e.b))) S1 H1 (σ.set j (some (.ref e.b))) p es := ⟨n1.hp, n1.hb, n1.wr, ⟨n1.fp.s, n1.fp.h, n1.fp.b, no n1.fp.no⟩, fun e he => ⟨(n1.fb e he).s, (n1.fb e he).h, (n1.fb e he).b, no (n1.fb e he).no⟩, n1.nd⟩
  obtain ⟨v2, ev2, rv2⟩ := I2.va (i := j) (List.getElem?_set_self hj)
  cases rv2
  refine ⟨_, ev2, .inl ⟨rfl, _, SqL.of (n2.hb e hm).1⟩, ?_⟩
  obtain ⟨F3, I2', q3⟩ := n2.side I2
  refine semE_mono (hee F3 e.b S1 H1 _ I2') fun w H3 ⟨d, G3, S3, J3, e3, rd, ds, ed, hl, kk⟩ => ?_
  subst ed
  obtain ⟨I3, n3⟩ := q3 G3 S3 H3 _ J3 e3
  have hbv := n3.hb e hm
  cases rd with
  | @lst b ws _ hw r' =>
    refine ⟨_, _, e.vs, ws, rfl, rfl, hbv.1, I3.fr.ex _ _ hw, by rw [hbv.2.length, r'.length, h3]; exact Nat.le_trans (Nat.le_of_lt hl) (by decide), ?_⟩
    have n4 := n3.set (l := es0) (r := es1) he (ws := e.vs ++ ws) (cs := e.ds ++ ds) (hbv.2.append r')
    have I4 := I3.wrF (o := .lst (e.vs ++ ws)) (n3.fb e hm) (fun vs z => by cases z)
    refine kk S3 _ _ _ _ I4 n4 ?_ fun G' S' H' σ' es' I' e' => fin G' S' H' σ' es' I' ((e1.tr e3).tr e')
    unfold kdl at h1 h4 ⊢
    rw [List.map_append, List.map_cons, h1, h4, h2, h3]
end
end Pu

namespace Pu
open PySem PySem.Spec PyProof.Rows L2

/-! ### errors -/
/-- an error's fields (none: it has no dict of its own) -/
abbrev Fs := Option (List (Str × D))
def ErRep (K : PySem.W.Frag) (S : Hp) (d : Option Addr) (fs : Fs) : Prop := (d = none ∧ fs = none) ∨ ∃ (dd : Addr) (gs : List (Str × D)) (vs : List (Str × L2.V)), d = some dd ∧ fs = some gs ∧ S dd = some (.xd vs) ∧ vs.map (·.1) = gs.map (·.1) ∧ Reps K S (vs.map (·.2)) (gs.map (·.2))
theorem ErRep.mono {K : PySem.W.Frag} {S S' : Hp} {d : Option Addr} {fs : Fs} (e : Ex S S') (h : ErRep K S d fs) : ErRep K S' d fs := by
  rcases h with h | ⟨dd, gs, vs, h1, h2, h3, h4, h5⟩
  · exact .inl h
  · exact .inr ⟨dd, gs, vs, h1, h2, e _ _ h3, h4, h5.mono e⟩
/-- what is let out, if Ψ is true of it -/
def TkX (X : Cx) (F : Fm) (Ψ : Value → Fs → List Sl → Prop) : Prop := ∃ W : WX, L2.Takes X W ∧ ∀ cls d fs G S H σ, IV X.K F G S H σ → ErRep X.K S d fs → Ψ cls fs G → W cls d σ H
theorem TkX.imp {X : Cx} {F : Fm} {Ψ Ψ' : Value → Fs → List Sl → Prop} (t : TkX X F Ψ) (h : ∀ c f G, Ψ' c f G → Ψ c f G) : TkX X F Ψ' := by
  obtain ⟨W, t1, t2⟩ := t
  exact ⟨W, t1, fun cls d fs G S H σ I e q => t2 cls d fs G S H σ I e (h _ _ _ q)⟩
theorem tk_none {X : Cx} {F : Fm} : TkX X F fun _ _ _ => False := ⟨_, takes0, fun _ _ _ _ _ _ _ _ _ z => z.elim⟩
/-- the promise of a def that may raise -/
def SpX (K : PySem.W.Frag) (R : List D → (D → Prop) → (Value → Fs → Prop) → Prop) : Sp := fun vs H Q E => ∃ S ds Φ Ψ, Ex S H ∧ Reps K S vs ds ∧ R ds Φ Ψ ∧
  (∀ v S' H' d, Ex S S' → Ex S' H' → Ex H H' → (∀ a, S' a ≠ none → S a ≠ none ∨ H a = none ∨ ∃ vs, H a = some (.tup vs)) → Rep K S' v d → Φ d → Q v H') ∧
  ∀ cls d fs S' H', Ex S S' → Ex S' H' → Ex H H' → (∀ a, S' a ≠ none → S a ≠ none ∨ H a = none ∨ ∃ vs, H a = some (.tup vs)) → ErRep K S' d fs → Ψ cls fs → E cls d H'
section
variable {X : Cx} {F : Fm} {G : List Sl} {Kk : D → List Sl → Prop} {pos : Pos}
theorem xe_callX {R : List D → (D → Prop) → (Value → Fs → Prop) → Prop} {Ψ : Value → Fs → List Sl → Prop} {k : Nat} {f : Addr} {fd : FuncData} {ps : List Str} {x : Str} {e0 : Expr} {es : List Expr} {p : Pos} (Fk : FnOk X.prog X.w X.K X.mg X.base (L2.CX X.prog X.w) k f fd ps (SpX X.K R)) (hr : Room k X.A) (hm : X.mg x = some (.ref f)) (hk : PySem.W.keepIn X.K (.ref f) = true) (hb : Binds X.K fd ps []) (tk : TkX X F Ψ)
    (h : XA X F (e0 :: es) G fun ds G1 => R ds (fun d => Kk d G1) fun cls fs => Ψ cls fs G1) (hg : Gl X x := by rfl) (hdb : (x == ("__debug__" : Str)) = false := by decide)
    (he : starEach (e0 :: es) X.env = (false, eval e0 X.env) :: starEach es X.env := by rfl) (hpl : (backTo pos (starEach es X.env)).any (·.1) = false := by rfl) : XE X F (.Call (.Name x p) (e0 :: es) [] pos) G Kk := by
  intro S H σ I
  obtain ⟨W, t, hW⟩ := tk
  refine semE_of (pe_callS (E := WE W) Fk hr hg hm hk hb (fun σ => passAt t σ) pa_sem hdb he hpl) ?_
  refine semA_mono (h S H σ I) fun vs H1 ⟨ds, G1, S1, I1, e1, r1, hR⟩ => ?_
  exact ⟨S1, ds, _, _, I1.fr.ex, r1, hR, fun v S' H' d a1 a2 a3 a4 rv hd => .at (I1.called a1 a2 a3 a4) (e1.tr a1) rv hd, fun cls d fs S' H' a1 a2 a3 a4 er hψ => hW cls d fs G1 S' H' σ (I1.called a1 a2 a3 a4) er hψ⟩
end
abbrev CXx (P : Program) (w : World) (K : PySem.W.Frag) (mg : Str → Option Value) (base : Heap) (N : List Str) (nm : Str) (st : Stmt) (f : Addr) (cdv : Value) (A : Around) (outer : List Env) (s : Shared) (H : Hp) (E : XK) : Cx :=
  cxOf (L2.CX P w) P w K mg base N nm (defScope st) f cdv A outer s H E
section
variable {P : Program} {w : World} {K : PySem.W.Frag} {mg : Str → Option Value} {base : Heap}
theorem fn_okX {N ps : List Str} {nm : Str} {st : Stmt} {f : Addr} {fd : FuncData} {k : Nat} {R : List D → (D → Prop) → (Value → Fs → Prop) → Prop} (Fn : Fun K nm nm st f fd) (Sc : FnScope N ps (defScope st)) (len : ∀ ds Φ Ψ, R ds Φ Ψ → ds.length = ps.length)
    (body : ∀ cdv A outer s H E F, Room k (A.deeper (envOfC nm (defScope st) s.heap.objs.size f cdv)) → ∀ ds Φ Ψ, R ds Φ Ψ → PassesOwn (model (CXx P w K mg base N nm st f cdv A outer s H E).prog (CXx P w K mg base N nm st f cdv A outer s H E).w) (CXx P w K mg base N nm st f cdv A outer s H E).A (CXx P w K mg base N nm st f cdv A outer s H E).env (CXx P w K mg base N nm st f cdv A outer s H E).xe →
      TkX (CXx P w K mg base N nm st f cdv A outer s H E) F (fun cls fs _ => Ψ cls fs) →
      XSs (CXx P w K mg base N nm st f cdv A outer s H E) F (defBody st) (ds.map Sl.va ++ List.replicate (N.length - ds.length) .no) { nx := fun _ => Φ .non, rt := fun d' _ => Φ d' }) : FnOk P w K mg base (L2.CX P w) (k + 1) f fd ps (SpX K R) := by
  refine Fn.okX Sc (fun vs H Q E h => ?_) (fun cdv A outer s H vs Q E hr h => ?_)
  · obtain ⟨S, ds, Φ, Ψ, _, r, hR, _⟩ := h
    rw [r.length, len ds Φ Ψ hR]
  · obtain ⟨S, ds, Φ, Ψ, e, r, hR, q, qx⟩ := h
    refine ⟨_, pss_sem, ?_⟩
    have fr : Frame ⟨H, S, []⟩ S H := ⟨e, Ex.rfl', fun a o h _ => h, fun a h => .inl h, fun b hb => nomatch hb⟩
    refine body cdv A outer s H E ⟨H, S, []⟩ hr ds Φ Ψ hR (passes_of rfl) ⟨fun cls d _ H => E cls d H, takes_of rfl rfl rfl rfl, fun cls d fs G S' H' σ I er hψ => ?_⟩ S H (L2.start N vs) _ ?_ ⟨fun G S' H' σ I _ ed => ?_, fun d' v G S' H' σ I _ rv ed => ?_, fun _ _ _ _ _ _ z => z.elim, fun _ _ _ _ _ _ z => z.elim, fun _ _ _ _ _ _ _ _ _ _ _ _ _ z => z.elim⟩
    · exact qx cls d fs S' H' I.fr.old I.fr.ex (fun a o h => I.fr.fr a o h (by intro z; cases z)) I.fr.new er hψ
    · have := Reps.start (F := ⟨H, S, []⟩) fr (N.length - ds.length) r
      rw [← r.length] at this ⊢
      exact this
    · exact q .non S' H' .non I.fr.old I.fr.ex (fun a o h => I.fr.fr a o h (by intro z; cases z)) I.fr.new .non ed
    · exact q v S' H' d' I.fr.old I.fr.ex (fun a o h => I.fr.fr a o h (by intro z; cases z)) I.fr.new rv ed
end

/-! ### frames taken anew from where one stands -/
def Fm.at (F : Fm) (S : Hp) : Fm := ⟨F.H0, S, F.B⟩
section
variable {K : PySem.W.Frag} {F : Fm} {G : List Sl} {S S1 H : Hp} {σ : L2.St}
theorem IV.here (I : IV K F G S H σ) : IV K (F.at S) G S H σ := by
  obtain ⟨fr, len, ad, a1, a2⟩ := I
  exact ⟨⟨fr.ex, Ex.rfl', fr.fr, fun a h => .inl h, fr.bor⟩, len, ad, a1, a2⟩
theorem IV.there {G0 : List Sl} {H0 : Hp} {σ0 : L2.St} (I0 : IV K F G0 S1 H0 σ0) (I : IV K (F.at S1) G S H σ) : IV K F G S H σ := by
  obtain ⟨fr, len, ad, a1, a2⟩ := I
  exact ⟨⟨fr.ex, I0.fr.old.tr fr.old, fr.fr, fun a h => (fr.new a h).elim (fun z => I0.fr.new a z) .inr, fr.bor⟩, len, ad, a1, a2⟩
/-- a slot is emptied -/
theorem IV.clr (I : IV K F G S H σ) (i : Nat) : IV K F (G.set i .no) S H (σ.set i none) := by
  obtain ⟨fr, len, ad, a1, a2⟩ := I
  refine ⟨fr, by rw [List.length_set, List.length_set]; exact len, ad, fun j s hs => ?_, fun j k q c q2 e hj hk z => ?_⟩
  · by_cases hij : i = j
    · subst hij
      have hl : i < G.length := by
        have := (List.getElem?_eq_some_iff.mp hs).1
        rwa [List.length_set] at this
      rw [List.getElem?_set_self hl] at hs
      cases hs
      trivial
    · rw [List.getElem?_set_ne hij] at hs
      rw [List.getElem?_set_ne hij]
      exact a1 j s hs
  · have up : ∀ {j : Nat} {q : Bool} {c : D}, (G.set i .no)[j]? = some (.ow q c) → G[j]? = some (.ow q c) := fun {j q c} hj => by
      by_cases hij : i = j
      · subst hij
        have hl : i < G.length := by
          have := (List.getElem?_eq_some_iff.mp hj).1
          rwa [List.length_set] at this
        rw [List.getElem?_set_self hl] at hj; cases hj
      · rw [List.getElem?_set_ne hij] at hj; exact hj
    exact a2 j k q c q2 e (up hj) (up hk) z
end

/-! ### try: .. except x as n: .. -/
section
variable {X : Cx} {F : Fm} {G : List Sl} {P : Pst} {pos : Pos}
theorem xs_try_as (i : Nat) {x n : Str} {c : Value} {body suite : List Stmt} {b₀ : Stmt} {np pos' : Pos} {Ψ : Value → Fs → List Sl → Prop} (hN : X.N.Nodup) (hc : Names X x c) (tk : TkX X F Ψ)
    (h : ∀ F1 pn xe, PassesOwn (model X.prog X.w) X.A X.env xe →
      TkX (X.tr pn xe) F1 (fun cls fs G' => ∃ b, PySem.W.exmOne X.K cls c = some b ∧ (b = true → ∀ F2 a oe d pn, Zc cls d oe → (∃ vs, oe.data = .fields vs) → ErRep X.K F2.S0 d fs →
        XSs (X.suite a ((a, oe) :: pn)) F2 (b₀ :: suite) (G'.set i (.va (.adr a))) { nx := fun T => P.nx (T.set i .no), rt := fun d T => P.rt d (T.set i .no), bk := fun T => P.bk (T.set i .no), ct := fun T => P.ct (T.set i .no) }) ∧ (b = false → Ψ cls fs G')) →
      XSs (X.tr pn xe) F1 body G P)
    (hs : X.stack = X.env :: X.outer := by rfl) (hf : X.env.frame = some X.env.locals := by rfl) (hi : X.N[i]? = some n := by rfl) (hln : X.env.kindOf n = some .local := by rfl) :
    XS X F (.Try body [.ExceptHandler (some (.Name x np)) (some n) (b₀ :: suite) pos'] [] [] pos) G P := fun S H σ E I ok => by
  obtain ⟨Wo, to, hWo⟩ := tk
  refine semS_of (ps_try_as (i := i) (tb := fun W D σ H => ∀ pn xe, L2.Takes (X.tr pn xe) W → PassesOwn (model X.prog X.w) X.A X.env xe → semSs (X.tr pn xe) body D σ H)
    (ts := fun a cls d D σ H => ∀ oe pn, Zc cls d oe → (∃ vs, oe.data = .fields vs) → semSs (X.suite a ((a, oe) :: pn)) (b₀ :: suite) D σ H) hs hf hN hi hln hc to
    (fun W pn xe t hp => ⟨fun pins s σ H D I h => h pn xe t hp pins s I⟩) (fun a oe cls d pn hz hf => ⟨fun pins s σ H D I h => h oe pn hz hf pins s I⟩)) ?_
  intro pn xe t hp
  refine h (F.at S) pn xe hp ⟨_, t, fun cls d fs G' S' H' σ' I' er ⟨b, hb, k1, k2⟩ => ?_⟩ S H σ E I.here ⟨fun G1 S1 H1 σ1 I1 e1 k => ok.nx G1 S1 H1 σ1 (I.there I1) e1 k, fun d v G1 S1 H1 σ1 I1 e1 r k => ok.rt d v G1 S1 H1 σ1 (I.there I1) e1 r k, fun G1 S1 H1 σ1 I1 e1 k => ok.bk G1 S1 H1 σ1 (I.there I1) e1 k, fun G1 S1 H1 σ1 I1 e1 k => ok.ct G1 S1 H1 σ1 (I.there I1) e1 k, fun c p o G1 S1 H1 σ1 I1 e1 n h0 ho rc k => ok.ro c p o G1 S1 H1 σ1 (I.there I1) e1 n h0 ho rc k⟩
  have IF := I.there I'
  have eS : Ex S S' := I'.fr.old
  refine ⟨b, hb, fun hbt a na => fun oe pn2 hz hfl => ?_, fun hbf => hWo cls d fs G' S' H' σ' IF er (k2 hbf)⟩
  have J : IV X.K (F.at S') (G'.set i (.va (.adr a))) S' H' (σ'.set i (some (.ref a))) := (IF.set (i := i) (v := .ref a) (d := .adr a) (.adr a)).here
  exact k1 hbt (F.at S') a oe d pn2 hz hfl er S' H' _ _ J ⟨fun T S2 H2 σ2 I2 e2 k => ok.nx _ S2 H2 _ ((IF.there I2).clr i) (eS.tr e2) k, fun d v T S2 H2 σ2 I2 e2 r k => ok.rt d v _ S2 H2 _ ((IF.there I2).clr i) (eS.tr e2) r k, fun T S2 H2 σ2 I2 e2 k => ok.bk _ S2 H2 _ ((IF.there I2).clr i) (eS.tr e2) k, fun T S2 H2 σ2 I2 e2 k => ok.ct _ S2 H2 _ ((IF.there I2).clr i) (eS.tr e2) k, fun _ _ _ _ _ _ _ _ _ _ _ _ _ z => z.elim⟩
/-- try: .. except x: .. -/
theorem xs_try_only {x : Str} {c : Value} {body suite : List Stmt} {b₀ : Stmt} {np pos' : Pos} {Ψ : Value → Fs → List Sl → Prop} (hc : Names X x c) (tk : TkX X F Ψ)
    (h : ∀ F1 pn xe, PassesOwn (model X.prog X.w) X.A X.env xe →
      TkX (X.tr pn xe) F1 (fun cls fs G' => ∃ b, PySem.W.exmOne X.K cls c = some b ∧ (b = true → ∀ F2 a oe d pn, Zc cls d oe → (∃ vs, oe.data = .fields vs) → ErRep X.K F2.S0 d fs →
        XSs (X.suite a ((a, oe) :: pn)) F2 (b₀ :: suite) G' { nx := P.nx, rt := P.rt, bk := P.bk, ct := P.ct }) ∧ (b = false → Ψ cls fs G')) →
      XSs (X.tr pn xe) F1 body G P)
    (hs : X.stack = X.env :: X.outer := by rfl) (hf : X.env.frame = some X.env.locals := by rfl) :
    XS X F (.Try body [.ExceptHandler (some (.Name x np)) none (b₀ :: suite) pos'] [] [] pos) G P := fun S H σ E I ok => by
  obtain ⟨Wo, to, hWo⟩ := tk
  refine semS_of (ps_try_only (tb := fun W D σ H => ∀ pn xe, L2.Takes (X.tr pn xe) W → PassesOwn (model X.prog X.w) X.A X.env xe → semSs (X.tr pn xe) body D σ H)
    (ts := fun a cls d D σ H => ∀ oe pn, Zc cls d oe → (∃ vs, oe.data = .fields vs) → semSs (X.suite a ((a, oe) :: pn)) (b₀ :: suite) D σ H) hs hf hc to
    (fun W pn xe t hp => ⟨fun pins s σ H D I h => h pn xe t hp pins s I⟩) (fun a oe cls d pn hz hf => ⟨fun pins s σ H D I h => h oe pn hz hf pins s I⟩)) ?_
  intro pn xe t hp
  refine h (F.at S) pn xe hp ⟨_, t, fun cls d fs G' S' H' σ' I' er ⟨b, hb, k1, k2⟩ => ?_⟩ S H σ E I.here ⟨fun G1 S1 H1 σ1 I1 e1 k => ok.nx G1 S1 H1 σ1 (I.there I1) e1 k, fun d v G1 S1 H1 σ1 I1 e1 r k => ok.rt d v G1 S1 H1 σ1 (I.there I1) e1 r k, fun G1 S1 H1 σ1 I1 e1 k => ok.bk G1 S1 H1 σ1 (I.there I1) e1 k, fun G1 S1 H1 σ1 I1 e1 k => ok.ct G1 S1 H1 σ1 (I.there I1) e1 k, fun c p o G1 S1 H1 σ1 I1 e1 n h0 ho rc k => ok.ro c p o G1 S1 H1 σ1 (I.there I1) e1 n h0 ho rc k⟩
  have IF := I.there I'
  have eS : Ex S S' := I'.fr.old
  refine ⟨b, hb, fun hbt a na => fun oe pn2 hz hfl => ?_, fun hbf => hWo cls d fs G' S' H' σ' IF er (k2 hbf)⟩
  exact k1 hbt (F.at S') a oe d pn2 hz hfl er S' H' _ _ IF.here ⟨fun T S2 H2 σ2 I2 e2 k => ok.nx _ S2 H2 _ (IF.there I2) (eS.tr e2) k, fun d v T S2 H2 σ2 I2 e2 r k => ok.rt d v _ S2 H2 _ (IF.there I2) (eS.tr e2) r k, fun T S2 H2 σ2 I2 e2 k => ok.bk _ S2 H2 _ (IF.there I2) (eS.tr e2) k, fun T S2 H2 σ2 I2 e2 k => ok.ct _ S2 H2 _ (IF.there I2) (eS.tr e2) k, fun _ _ _ _ _ _ _ _ _ _ _ _ _ z => z.elim⟩

/-! ### in the suite: e.f, isinstance(e, C) -/
theorem look_at {K : PySem.W.Frag} {S : Hp} {f : Str} {d : D} : ∀ {vs : List (Str × L2.V)} {gs : List (Str × D)}, vs.map (·.1) = gs.map (·.1) → Reps K S (vs.map (·.2)) (gs.map (·.2)) → gs.lookup f = some d → ∃ v, vs.lookup f = some v ∧ Rep K S v d
  | [], [], _, _, h => by cases h
  | [], _ :: _, e, _, _ => by cases e
  | _ :: _, [], e, _, _ => by cases e
  | (a, v) :: vs, (b, g) :: gs, e, .cons h r, hl => by
    obtain ⟨e1, e2⟩ := List.cons.inj e
    have e1' : a = b := e1
    subst e1'
    by_cases hf : f = a
    · subst hf
      have : some g = some d := by simpa [List.lookup] using hl
      cases this
      exact ⟨v, by simp [List.lookup], h⟩
    · have hb : (f == a) = false := by simpa using hf
      have hl' : gs.lookup f = some d := by simpa [List.lookup, hb] using hl
      obtain ⟨w, h1, h2⟩ := look_at e2 r hl'
      exact ⟨w, by simpa [List.lookup, hb] using h1, h2⟩
theorem xe_errf {a C : Addr} {oe : Obj} {d : Option Addr} {gs : List (Str × D)} {pn : List (Addr × Obj)} {y : D} {Kk : D → List Sl → Prop} (i : Nat) {n f : Str} {p1 : Pos} (T : XfC X.K C) (hno : PySem.W.findIn X.K (.ref C) f = some none) (hz : Zc (.ref C) d oe) (hfl : ∃ vs, oe.data = .fields vs) (er : ErRep X.K F.S0 d (some gs))
    (hG : G[i]? = some (.va (.adr a))) (hy : gs.lookup f = some y) (k : Kk y G)
    (hN : X.N[i]? = some n := by rfl) (hv : Vis X.env.scope n := by first | exact Or.inl rfl | exact Or.inr (Or.inl rfl) | exact Or.inr (Or.inr rfl)) (hd : (n == ("__debug__" : Str)) = false := by decide) (hcd : (n == ("__classdict__" : Str)) = false := by decide)
    (hb : attributeBase (.Name n p1) f X.env (eval (.Name n p1) X.env) = eval (.Name n p1) X.env := by rfl) : XE (X.suite a ((a, oe) :: pn)) F (.Attribute (.Name n p1) f pos) G Kk := fun S H σ I => by
  obtain ⟨v, ev, rv⟩ := I.va hG
  cases rv
  rcases er with ⟨_, z⟩ | ⟨dd, gs', vs, hd1, hg1, h3, h4, h5⟩
  · cases z
  cases hg1
  subst hd1
  obtain ⟨u, hu, ru⟩ := look_at h4 h5 hy
  refine semE_of (pe_xf (X := X) T hno hz hfl (pe_var (X := X.suite a ((a, oe) :: pn)) hN hv hd hcd) hb) ?_
  exact ⟨_, ev, rfl, rfl, dd, vs, u, rfl, I.fr.ex _ _ (I.fr.old _ _ h3), hu, .at I Ex.rfl' (ru.mono I.fr.old) k⟩
/-- what isinstance wants of an error's class -/
structure ErC (K : PySem.W.Frag) (C : Addr) : Prop where
  cl : (PySem.W.clsIn K C).isSome = true
  ga : PySem.W.findIn K (.ref C) "__getattribute__" = some (some (.builtin "BaseException.__getattribute__"))
  gt : PySem.W.findIn K (.ref C) "__getattr__" = some none
  sb : PySem.W.subIn K (.ref C) (.type "BaseException") = some true
  ha : PySem.W.findIn K (.ref C) "__class__" = some (some (.builtin "object.__class__"))
  hn : PySem.W.specialIn K (.builtin "object.__class__") "__get__" = some (some (.builtin "getset_descriptor.__get__"))
  ht : PySem.W.takesIn K (.builtin "object.__class__") = some true
  hm : PySem.W.mroIn K C (.type "object") = some true
theorem call_isErr {a C : Addr} {oe : Obj} {d : Option Addr} {pn : List (Addr × Obj)} (T : ErC X.K C) (hz : Zc (.ref C) d oe) (hf : ∃ vs, oe.data = .fields vs) (R : Hp → Prop) (hR : ∀ H, R H → ∀ dd, d = some dd → ∃ vs, H dd = some (.xd vs)) :
    CallR (X.suite a ((a, oe) :: pn)) (.builtin "isinstance") (fun xs H Q => R H ∧ rIsE X.K C a xs H Q) := by
  intro pins s σ H xs us Q I r ⟨hRH, h⟩
  obtain ⟨c, cv, b, rfl, hcv, e, q⟩ := h
  cases r with
  | cons rx rr =>
    cases rr with
    | cons rt rr =>
      cases rr
      cases rx
      have ec := hcv _ rt
      subst ec
      obtain ⟨hget, _⟩ := I.pin (a, oe) (List.mem_append.mpr (.inl List.mem_cons_self))
      obtain ⟨vs, hv⟩ := hf
      obtain ⟨oc, od, oda, osl⟩ := oe
      obtain ⟨h1, h2⟩ := hz
      dsimp only at h1 h2 hv
      subst h1 h2 hv
      have fin : ∀ {odd : Option Obj}, PySem.W.InstAt s.heap a { cls := .ref C, dict := od, data := .fields vs, slots := osl } C odd → wpAny (model X.prog X.w) (X.A.mark (some (.ref a))) (call (.builtin "isinstance") [.ref a, _]) (EP (X.suite a ((a, _) :: pn)) pins σ Q) (fun _ _ => False) s := fun J =>
        PySem.W.kia_one (PySem.W.kitx_exc T.cl T.ga T.gt T.sb T.ha T.hn T.ht T.hm) I.kIn J e (fun z => nomatch z) fun tk => ⟨.bl b, H, I.kept (t' := tk) fun _ _ z => z, rfl, q⟩
      cases od with
      | none => exact fin (odd := none) ⟨hget, rfl, rfl, trivial⟩
      | some dd =>
        obtain ⟨vs2, hx⟩ := hR H hRH dd rfl
        have hx : ObjOk X.prog X.w H s.heap dd (.xd vs2) := I.hok dd _ hx
        obtain ⟨mA, hns, _⟩ := hx
        obtain ⟨odd, ho, _⟩ := lookIn_ns hns
        exact fin (odd := some odd) ⟨hget, rfl, rfl, ho⟩
theorem xe_isErr {a C C2 : Addr} {oe : Obj} {d : Option Addr} {fs : Fs} {pn : List (Addr × Obj)} {Kk : D → List Sl → Prop} {b : Bool} (i : Nat) {n y : Str} {p1 p2 p3 : Pos} (T : ErC X.K C) (hz : Zc (.ref C) d oe) (hfl : ∃ vs, oe.data = .fields vs) (er : ErRep X.K F.S0 d fs)
    (hG : G[i]? = some (.va (.adr a))) (hm : X.mg "isinstance" = none) (h2 : X.mg y = some (.ref C2)) (hb : PySem.W.kitOne X.K (.ref C) (.ref C2) = some b) (k : Kk (.bl b) G)
    (hg : Gl X "isinstance" := by rfl) (hg2 : Gl X y := by rfl) (hd2 : (y == ("__debug__" : Str)) = false := by decide)
    (hN : X.N[i]? = some n := by rfl) (hv : Vis X.env.scope n := by first | exact Or.inl rfl | exact Or.inr (Or.inl rfl) | exact Or.inr (Or.inr rfl)) (hd : (n == ("__debug__" : Str)) = false := by decide) (hcd : (n == ("__classdict__" : Str)) = false := by decide)
    (he : starEach [.Name n p1, .Name y p2] X.env = (false, eval (.Name n p1) X.env) :: starEach [.Name y p2] X.env := by rfl) (he2 : starEach [.Name y p2] X.env = (false, eval (.Name y p2) X.env) :: starEach [] X.env := by rfl) (hpl : (backTo pos (starEach [.Name y p2] X.env)).any (·.1) = false := by rfl) :
    XE (X.suite a ((a, oe) :: pn)) F (.Call (.Name "isinstance" p3) [.Name n p1, .Name y p2] [] pos) G Kk := fun S H σ I => by
  obtain ⟨v, ev, rv⟩ := I.va hG
  cases rv
  have hd1 : ∀ dd, d = some dd → ∃ vs, H dd = some (.xd vs) := fun dd e => by
    rcases er with ⟨z, _⟩ | ⟨dd', gs', vs, hd1, hg1, h3, h4, h5⟩
    · rw [z] at e; cases e
    · rw [hd1] at e; cases e
      exact ⟨vs, I.fr.ex _ _ (I.fr.old _ _ h3)⟩
  refine semE_of (pe_callB (X := X.suite a ((a, oe) :: pn)) (call_isErr (X := X) T hz hfl (fun H' => ∀ dd, d = some dd → ∃ vs, H' dd = some (.xd vs)) (fun _ h => h)) hg hm boot_isinstance (pa_cons (pe_var (X := X.suite a ((a, oe) :: pn)) hN hv hd hcd) (pa_cons (pe_glob (X := X.suite a ((a, oe) :: pn)) (v := .ref C2) hg2 h2 rfl hd2) pa_nil he2) he) (by decide) (by decide) he hpl) ?_
  refine ⟨_, ev, hd1, .ref C2, .ref C2, b, rfl, fun u r => r, hb, .at I Ex.rfl' (.bl b) k⟩
end
end Pu

namespace Pu
open PySem PySem.Spec PyProof.Rows L2
theorem isSome_dict {K : PySem.W.Frag} {C : Addr} (h : PySem.W.hasDictIn K C = true) : (PySem.W.clsIn K C).isSome = true := by
  obtain ⟨cd, hc, _⟩ := PySem.W.any_some h
  rw [hc]; rfl
/-- the promise of an error's __init__ that keeps its arguments under these names -/
def SpI (K : PySem.W.Frag) (C : Addr) (ns : List Str) : Sp := fun vs H Q _ => ∃ (a : Addr) (ws : List L2.V), vs = .ref a :: ws ∧ ws.length = ns.length ∧ H a = some (exo a C none) ∧
  ∀ d H', H d = none → d ≠ a → H' a = some (exo a C (some d)) → H' d = some (exd d (ns.zip ws).reverse) → (∀ b, b ≠ a → b ≠ d → H' b = H b) → Q .non H'
theorem zip_fst {α β : Type} : ∀ {ns : List Str} {vs : List α} {ds : List β}, vs.length = ds.length → (ns.zip vs).map (·.1) = (ns.zip ds).map (·.1)
  | [], _, _, _ => rfl
  | _ :: _, [], [], _ => rfl
  | n :: ns, v :: vs, d :: ds, h => by
    simp only [List.zip_cons_cons, List.map_cons]
    rw [zip_fst (ns := ns) (vs := vs) (ds := ds) (by simpa using h)]
theorem zip_reps {K : PySem.W.Frag} {S : Hp} : ∀ {ns : List Str} {vs : List L2.V} {ds : List D}, Reps K S vs ds → Reps K S ((ns.zip vs).map (·.2)) ((ns.zip ds).map (·.2))
  | [], _, _, _ => .nil
  | _ :: _, _, _, .nil => .nil
  | _ :: ns, _, _, .cons h r => .cons h (zip_reps (ns := ns) r)
theorem Reps.reverse {K : PySem.W.Frag} {S : Hp} : ∀ {vs : List L2.V} {ds : List D}, Reps K S vs ds → Reps K S vs.reverse ds.reverse
  | _, _, .nil => .nil
  | _, _, .cons h r => by rw [List.reverse_cons, List.reverse_cons]; exact (Reps.reverse r).append (.cons h .nil)
section
variable {X : Cx} {F : Fm} {G : List Sl} {P : Pst} {pos : Pos}
/-- raise C(e, ..), C with an own __init__ -/
theorem xs_raise {x : Str} {C fI : Addr} {k : Nat} {fd : FuncData} {ps ns : List Str} {e : Expr} {es : List Expr} {p1 p2 : Pos} {Ψ : Value → Fs → List Sl → Prop} (T : OexC X.K C) (iC : PySem.W.findIn X.K (.ref C) "__init__" = some (some (.ref fI))) (tI : PySem.W.typeIn X.K (.ref fI) = some (.type "function"))
    (F1 : FnOk X.prog X.w X.K X.mg X.base CX0 k fI fd ps (SpI X.K C ns)) (hr : Room (k + 1) X.A) (hb : Binds X.K fd ps []) (hm : X.mg x = some (.ref C)) (tk : TkX X F Ψ)
    (h : XA X F (e :: es) G fun ds G1 => ds.length = ns.length ∧ ds.length ≤ 1000 ∧ Ψ (.ref C) (some (ns.zip ds).reverse) G1) (hc : X.calm = true := by rfl) (hg : Gl X x := by rfl) (hdb : (x == ("__debug__" : Str)) = false := by decide)
    (he : starEach (e :: es) X.env = (false, eval e X.env) :: starEach es X.env := by rfl) (hpl : (backTo p2 (starEach es X.env)).any (·.1) = false := by rfl) :
    XS X F (.Raise (some (.Call (.Name x p1) (e :: es) [] p2)) none pos) G P := fun S H σ E I ok => by
  obtain ⟨W, t, hW⟩ := tk
  refine semS_of (ps_raise hc t (pmk_oex T iC tI F1 hr hb .nil pass0 hg hm pa_sem hdb he hpl)) ?_
  refine semA_mono (h S H σ I) fun vs H1 ⟨ds, G1, S1, I1, e1, r1, hl, hz, hψ⟩ => ?_
  refine ⟨by rw [r1.length]; exact hz, fun a ha => ?_⟩
  rw [List.append_nil]
  refine ⟨a, vs, rfl, by rw [r1.length]; exact hl, upd_same, fun d H' hd hda h1 h2 h3 => ⟨rfl, d, _, h1, h2, ?_, ?_⟩⟩
  · rw [upd_ne hda] at hd; exact hd
  · have hd1 : H1 d = none := by rw [upd_ne hda] at hd; exact hd
    have eH : upd (L2.del H' a) d (.xd (ns.zip vs).reverse) = upd H1 d (.xd (ns.zip vs).reverse) := by
      funext b
      by_cases hbd : b = d
      · subst hbd; rw [upd_same, upd_same]
      · rw [upd_ne hbd, upd_ne hbd]
        by_cases hba : b = a
        · subst hba; rw [L2.del_same, ha]
        · rw [L2.del_ne hba, h3 b hba hbd, upd_ne hba]
    rw [eH]
    obtain ⟨I2, e2⟩ := I1.alloc (o := .xd (ns.zip vs).reverse) hd1
    refine hW _ _ _ G1 _ _ σ I2 (.inr ⟨d, (ns.zip ds).reverse, _, rfl, rfl, upd_same, ?_, ?_⟩) hψ
    · rw [List.map_reverse, List.map_reverse, zip_fst r1.length]
    · rw [List.map_reverse, List.map_reverse]
      exact (zip_reps (r1.mono e2)).reverse
/-- raise C('..'), C without an own __init__ -/
theorem xs_raise0 {x m : Str} {C : Addr} {j : Nat} {bmB : List Value} {B newId initId : String} {p1 p2 p3 : Pos} {Ψ : Value → Fs → List Sl → Prop} (Fx : ExcBaseFacts B newId initId bmB) (q : PySem.W.excIn X.K C bmB newId = true) (hm : X.mg x = some (.ref C)) (kC : PySem.W.keepIn X.K (.ref C) = true) (r : Raises X (.ref C)) (tk : TkX X F Ψ)
    (h : Ψ (.ref C) none G) (hc : X.calm = true := by rfl) (hg : Gl X x := by rfl) (hdb : (x == ("__debug__" : Str)) = false := by decide) :
    XS X F (.Raise (some (.Call (.Name x p1) [.Constant (.str m) j p3] [] p2)) none pos) G P := fun S H σ E I ok => by
  obtain ⟨W, t, hW⟩ := tk
  exact semS_of (ps_raise hc t (pmk_own Fx q hm kC r hg hdb)) (hW _ _ _ G S H σ I (.inl ⟨rfl, rfl⟩) h)
end

section
variable {X : Cx} {F : Fm} {G : List Sl} {Kk : D → List Sl → Prop} {pos : Pos}
theorem xo_mulW {i j : Int} (hc : CMulW i j) (k : Kk (.int (i * j)) G) : XO X F (binaryOp .Mult) (.int i) (.int j) G Kk := xo_I op_mulW hc (fun _ => .int _) k
theorem wk_rev {K : PySem.W.Frag} {S1 : Hp} {a : Addr} {vs : List L2.V} {ds : List D} (h : S1 a = some (.lst vs)) (r : Reps K S1 vs ds) : Wk K (Itv K a vs.length) ds.reverse S1 where
  go := fun F G S H σ i I e hi => by
    rw [List.length_reverse] at hi
    have hs : SqL K H a vs := SqL.of (I.fr.ex _ _ (e _ _ h))
    have hv : i < vs.length := by rw [r.length]; exact hi
    exact ⟨hv, vs, vs[vs.length - 1 - i], hs, List.getElem?_eq_getElem (by omega)⟩
  yld := fun F G S H σ i d x H' I e hd y => by
    obtain ⟨rfl, y⟩ := y
    have hi := (List.getElem?_eq_some_iff.mp hd).1
    rw [List.length_reverse] at hi
    rw [List.getElem?_reverse hi] at hd
    obtain ⟨v, ev, rv⟩ := r.get hd
    have := y vs (SqL.of (I.fr.ex _ _ (e _ _ h)))
    rw [r.length, ev] at this
    cases this
    exact ⟨S, I, Ex.rfl', rv.mono e⟩
  stop := fun F G S H σ I e => by
    rw [List.length_reverse]
    show vs.length ≤ ds.length
    rw [r.length]; exact Nat.le_refl _
theorem xw_rev {Kw : List D → List Sl → Prop} {e tg : Expr} {p cpos : Pos} (hm : X.mg "reversed" = none) (h : XE X F e G fun d G1 => ∃ ds, d = .lst ds ∧ Kw ds.reverse G1) (hg : Gl X "reversed" := by rfl)
    (hs : starEach [e] X.env = (false, eval e X.env) :: starEach [] X.env := by rfl) : XW' X F tg (.Call (.Name "reversed" p) [e] [] cpos) G Kw :=
  fun S H σ I => by
    have h' : XA X F [e] G fun ds G1 => ∃ d, ds = [d] ∧ ∃ xs, d = .lst xs ∧ Kw xs.reverse G1 := xa_cons (h.mono fun d G1 q => xa_nil ⟨d, rfl, q⟩) hs
    refine semI_of (pi_reversed hg hm pa_sem hs) (semA_mono (h' S H σ I) fun vs H1 ⟨ds, G1, S1, I1, e1, r1, d, ed, xs, ex, k⟩ => ?_)
    subst ed ex
    cases r1 with
    | cons hv ht =>
      cases ht
      cases hv with
      | lst hl r => exact ⟨_, _, rfl, SqL.of (I1.fr.ex _ _ hl), _, G1, S1, I1, e1, wk_rev hl r, k⟩
end
end Pu

namespace Pu
open PySem PySem.Spec PyProof.Rows L2
/-! ### instances of own classes, owned by a slot -/
def putD (f : Str) (d : D) : List (Str × D) → List (Str × D)
  | [] => [(f, d)]
  | (g, x) :: r => if g = f then (g, d) :: r else (g, x) :: putD f d r
theorem putF_keys {f : Str} {v : L2.V} {d : D} : ∀ {fs : List (Str × L2.V)} {gs : List (Str × D)}, fs.map (·.1) = gs.map (·.1) → (putF f v fs).map (·.1) = (putD f d gs).map (·.1)
  | [], [], _ => rfl
  | [], _ :: _, h => by cases h
  | _ :: _, [], h => by cases h
  | (a, x) :: fs, (b, y) :: gs, h => by
    obtain ⟨e1, e2⟩ := List.cons.inj h
    have e1' : a = b := e1
    subst e1'
    unfold putF putD
    by_cases hf : a = f
    · rw [if_pos hf, if_pos hf, List.map_cons, List.map_cons, e2]
    · rw [if_neg hf, if_neg hf, List.map_cons, List.map_cons, putF_keys e2]
theorem putF_reps {K : PySem.W.Frag} {S : Hp} {f : Str} {v : L2.V} {d : D} (hv : Rep K S v d) : ∀ {fs : List (Str × L2.V)} {gs : List (Str × D)}, fs.map (·.1) = gs.map (·.1) → Reps K S (fs.map (·.2)) (gs.map (·.2)) → Reps K S ((putF f v fs).map (·.2)) ((putD f d gs).map (·.2))
  | [], [], _, _ => .cons hv .nil
  | [], _ :: _, h, _ => by cases h
  | _ :: _, [], h, _ => by cases h
  | (a, x) :: fs, (b, y) :: gs, h, .cons hx r => by
    obtain ⟨e1, e2⟩ := List.cons.inj h
    have e1' : a = b := e1
    subst e1'
    unfold putF putD
    by_cases hf : a = f
    · rw [if_pos hf, if_pos hf]; exact .cons hv r
    · rw [if_neg hf, if_neg hf]; exact .cons hx (putF_reps hv e2 r)
theorem look_none {f : Str} : ∀ {vs : List (Str × L2.V)} {gs : List (Str × D)}, vs.map (·.1) = gs.map (·.1) → gs.lookup f = none → vs.lookup f = none
  | [], _, _, _ => rfl
  | _ :: _, [], e, _ => by cases e
  | (a, v) :: vs, (b, g) :: gs, e, hl => by
    obtain ⟨e1, e2⟩ := List.cons.inj e
    have e1' : a = b := e1
    subst e1'
    by_cases hf : f = a
    · subst hf
      have : some g = none := by simpa [List.lookup] using hl
      cases this
    · have hb : (f == a) = false := by simpa using hf
      have hl' : gs.lookup f = none := by simpa [List.lookup, hb] using hl
      simpa [List.lookup, hb] using look_none e2 hl'
theorem keys_len {α β : Type} {fs : List (Str × α)} {gs : List (Str × β)} (h : fs.map (·.1) = gs.map (·.1)) : fs.length = gs.length := by
  have := congrArg List.length h
  rwa [List.length_map, List.length_map] at this
section
variable {X : Cx} {F : Fm} {G : List Sl} {P : Pst} {Kk : D → List Sl → Prop} {pos : Pos} {C : Addr}
/-- x.f, x the slot's own instance -/
theorem xe_fldo (i : Nat) {x f : Str} {p1 : Pos} {q : Bool} {gs : List (Str × D)} {d : D} (cl : Cls X.K C) (na : NoAttr X.K C f) (hG : G[i]? = some (.ow q (.ins C gs))) (hl : gs.lookup f = some d) (k : Kk d G)
    (hN : X.N[i]? = some x := by rfl) (hv : Vis X.env.scope x := by first | exact Or.inl rfl | exact Or.inr (Or.inl rfl) | exact Or.inr (Or.inr rfl)) (hd : (x == ("__debug__" : Str)) = false := by decide) (hcd : (x == ("__classdict__" : Str)) = false := by decide)
    (hb : attributeBase (.Name x p1) f X.env (eval (.Name x p1) X.env) = eval (.Name x p1) X.env := by rfl) : XE X F (.Attribute (.Name x p1) f pos) G Kk := fun S H σ I => by
  obtain ⟨p, o, ep, n, hb', ho, rc⟩ := I.ow hG
  cases rc with
  | @ins _ dx fs _ e r =>
    obtain ⟨v, hv', rv⟩ := look_at e r hl
    exact semE_of (pe_fld (pe_var hN hv hd hcd) hb) ⟨_, ep, p, C, dx, fs, v, rfl, ho, cl, na, hv', .at I Ex.rfl' rv k⟩
/-- x.f = e -/
theorem xs_flds (i : Nat) {x f : Str} {e : Expr} {p1 pos' : Pos} (cl : Cls X.K C) (na : NoAttr X.K C f) (hG : ∃ q c, G[i]? = some (.ow q c)) (h : XE X F e G fun d G1 => ∃ q gs, G1[i]? = some (.ow q (.ins C gs)) ∧ gs.length < 900 ∧ P.nx (G1.set i (.ow q (.ins C (putD f d gs)))))
    (hN : X.N[i]? = some x := by rfl) (hv : Vis X.env.scope x := by first | exact Or.inl rfl | exact Or.inr (Or.inl rfl) | exact Or.inr (Or.inr rfl)) (hd : (x == ("__debug__" : Str)) = false := by decide) (hcd : (x == ("__classdict__" : Str)) = false := by decide)
    (hs : swapsWith e (some (.Attribute (.Name x p1) f pos')) pos.line X.env = pure false := by rfl) : XS X F (.Assign [.Attribute (.Name x p1) f pos'] e pos) G P := fun S H σ E I ok => by
  obtain ⟨_, c0, hc0⟩ := hG
  obtain ⟨p0, _, ep0, _⟩ := I.ow hc0
  refine semS_of (ps_fld (pe_var hN hv hd hcd) pe_sem hs) ?_
  refine semE_mono (h S H σ I) fun v H1 ⟨d, G1, S1, I1, e1, r1, q, gs, g1, hz, k⟩ => ?_
  obtain ⟨p, o, ep, n, hb', ho, rc⟩ := I1.ow g1
  rw [ep0] at ep; cases ep
  cases rc with
  | @ins _ dx fs _ ek r =>
    refine ⟨_, ep0, _, C, dx, fs, rfl, ho, cl, na, by rw [keys_len ek]; omega, ?_⟩
    exact ok.nx _ S1 _ σ (I1.write g1 ep0 (.ins (putF_keys ek) (putF_reps r1 ek r))) e1 k
/-- x.f += e, an int -/
theorem xs_flda (i : Nat) {x f : Str} {e : Expr} {p1 pos' : Pos} {q : Bool} {gs : List (Str × D)} {a : Int} (cl : Cls X.K C) (na : NoAttr X.K C f) (hG : G[i]? = some (.ow q (.ins C gs))) (hl : gs.lookup f = some (.int a))
    (h : XE X F e G fun d G1 => ∃ q gs b, d = .int b ∧ G1[i]? = some (.ow q (.ins C gs)) ∧ gs.length < 900 ∧ P.nx (G1.set i (.ow q (.ins C (putD f (.int (a + b)) gs)))))
    (hN : X.N[i]? = some x := by rfl) (hv : Vis X.env.scope x := by first | exact Or.inl rfl | exact Or.inr (Or.inl rfl) | exact Or.inr (Or.inr rfl)) (hd : (x == ("__debug__" : Str)) = false := by decide) (hcd : (x == ("__classdict__" : Str)) = false := by decide) :
    XS X F (.AugAssign (.Attribute (.Name x p1) f pos') .Add e pos) G P := fun S H σ E I ok => by
  obtain ⟨p, o, ep, n, hb', ho, rc⟩ := I.ow hG
  cases rc with
  | @ins _ dx fs _ ek r =>
    obtain ⟨v, hv', rv⟩ := look_at ek r hl
    cases rv
    refine semS_of (ps_fldaug (pe_var hN hv hd hcd) pe_sem in_add) ⟨_, ep, p, C, dx, fs, _, rfl, ho, cl, na, hv', ?_⟩
    refine semE_mono (h S H σ I) fun v1 H1 ⟨d, G1, S1, I1, e1, r1, q1, gs1, b, ed, g1, hz, k⟩ => ?_
    subst ed
    cases r1
    obtain ⟨p2, o2, ep2, n2, hb2, ho2, rc2⟩ := I1.ow g1
    rw [ep] at ep2; cases ep2
    cases rc2 with
    | @ins _ dx2 fs2 _ ek2 r2 =>
      refine ⟨a, b, rfl, rfl, dx2, fs2, ho2, by rw [keys_len ek2]; omega, ?_⟩
      exact ok.nx _ S1 _ σ (I1.write g1 ep (.ins (putF_keys ek2) (putF_reps (.int (a + b)) ek2 r2))) e1 k
/-- what a call leaves of a box that it changes -/
theorem IV.boxed {K : PySem.W.Frag} {S H S' H' : Hp} {σ : L2.St} {i : Nat} {q : Bool} {c c' : D} {b : Addr} {o o' : HO} (I : IV K F G S H σ) (g : G[i]? = some (.ow q c)) (eb : σ[i]? = some (some (.ref b))) (ho : H b = some o) (a1 : Ex S S') (a2 : Ex S' H') (a3 : ∀ a u, a ≠ b → H a = some u → H' a = some u)
    (a4 : ∀ a, S' a ≠ none → S a ≠ none ∨ H a = none ∨ ∃ vs, H a = some (.tup vs)) (a5 : S' b = none) (a6 : H' b = some o') (a7 : CRep K S' o' c') : IV K F (G.set i (.ow q c')) S' H' σ := by
  have hb2 : H' = upd (fun a => if a = b then some o else H' a) b o' := by
    funext a
    by_cases ha : a = b
    · subst ha; rw [upd_same]; exact a6
    · rw [upd_ne ha]; exact (if_neg ha).symm
  have I2 : IV K F G S' (fun a => if a = b then some o else H' a) σ := by
    refine I.called a1 (fun a u q => ?_) (fun a u q => ?_) a4
    · show (if a = b then some o else H' a) = some u
      rw [if_neg (fun z => by subst z; rw [a5] at q; cases q)]
      exact a2 a u q
    · show (if a = b then some o else H' a) = some u
      by_cases ha : a = b
      · subst ha; rw [if_pos rfl]; rw [ho] at q; exact q
      · rw [if_neg ha]; exact a3 a u ha q
  rw [hb2]
  exact I2.write g eb a7
/-- x.m(e, ..), x the slot's own instance -/
theorem xe_metho (i : Nat) {R : D → List D → (D → D → Prop) → Prop} {k : Nat} {f : Addr} {fd : FuncData} {ps : List Str} {x m : Str} {e0 : Expr} {es : List Expr} {p1 apos : Pos} {pl : Sem Bool} {q0 : Bool} {gs0 : List (Str × D)} (cl : Cls X.K C) (hm : Meth X.K C m f) (Fk : FnOk X.prog X.w X.K X.mg X.base CX0 k f fd ps (SpB X.K R)) (hr : Room k X.A) (hb : Binds X.K fd ps [])
    (hG : G[i]? = some (.ow q0 (.ins C gs0))) (hl : gs0.lookup m = none) (h : XA X F (e0 :: es) G fun ds G1 => ∃ q c, G1[i]? = some (.ow q c) ∧ R c ds fun d c' => Kk d (G1.set i (.ow q c')))
    (hN : X.N[i]? = some x := by rfl) (hv : Vis X.env.scope x := by first | exact Or.inl rfl | exact Or.inr (Or.inl rfl) | exact Or.inr (Or.inr rfl)) (hd : (x == ("__debug__" : Str)) = false := by decide) (hcd : (x == ("__classdict__" : Str)) = false := by decide)
    (hst : starEach (e0 :: es) X.env = (false, eval e0 X.env) :: starEach es X.env := by rfl) (hpl : (backTo pos (starEach es X.env)).any (·.1) = false := by rfl)
    (ht : eval (.Call (.Attribute (.Name x p1) m apos) (e0 :: es) [] pos) X.env = (do
      let ov ← eval (.Name x p1) X.env
      standAt apos.atName
      let (f, first) ← holding [ov] (getMethod ov m pl)
      callWith pos f first (backTo pos (starEach (e0 :: es) X.env)) (backToKw pos (keywordEach [] X.env))) := by rfl) : XE X F (.Call (.Attribute (.Name x p1) m apos) (e0 :: es) [] pos) G Kk := fun S H σ I => by
  obtain ⟨b, o0, eb, _, _, ho0, rc0⟩ := I.ow hG
  cases rc0 with
  | @ins _ dx0 fs0 _ ek0 r0 =>
    refine semE_of (pe_meth (pl := pl) (pe_var hN hv hd hcd) cl hm Fk hr hb .nil pass0 pa_sem hst hpl ht) ⟨_, eb, b, dx0, fs0, rfl, ho0, look_none ek0 hl, ?_⟩
    refine semA_mono (h S H σ I) fun vs H1 ⟨ds, G1, S1, I1, e1, r1, q, c, g1, hR⟩ => ?_
    show SpB X.K R (L2.V.ref b :: (vs ++ [])) H1 _ E0
    rw [List.append_nil]
    obtain ⟨b', o, eb', n, hb', ho, rc⟩ := I1.ow g1
    rw [eb] at eb'; cases eb'
    exact ⟨S1, b, o, c, vs, ds, _, rfl, I1.fr.ex, n, ho, rc, r1, hR, fun v S' H' o' d c' a1 a2 a3 a4 a5 a6 a7 rv hk => .at (I1.boxed g1 eb ho a1 a2 a3 a4 a5 a6 a7) (e1.tr a1) rv hk⟩
theorem xe_metho0 (i : Nat) {R : D → List D → (D → D → Prop) → Prop} {k : Nat} {f : Addr} {fd : FuncData} {ps : List Str} {x m : Str} {p1 apos : Pos} {pl : Sem Bool} {q : Bool} {gs : List (Str × D)} (cl : Cls X.K C) (hm : Meth X.K C m f) (Fk : FnOk X.prog X.w X.K X.mg X.base CX0 k f fd ps (SpB X.K R)) (hr : Room k X.A) (hb : Binds X.K fd ps [])
    (hG : G[i]? = some (.ow q (.ins C gs))) (hl : gs.lookup m = none) (h : R (.ins C gs) [] fun d c' => Kk d (G.set i (.ow q c')))
    (hN : X.N[i]? = some x := by rfl) (hv : Vis X.env.scope x := by first | exact Or.inl rfl | exact Or.inr (Or.inl rfl) | exact Or.inr (Or.inr rfl)) (hd : (x == ("__debug__" : Str)) = false := by decide) (hcd : (x == ("__classdict__" : Str)) = false := by decide)
    (ht : eval (.Call (.Attribute (.Name x p1) m apos) [] [] pos) X.env = (do
      let ov ← eval (.Name x p1) X.env
      standAt apos.atName
      let (f, first) ← holding [ov] (getMethod ov m pl)
      callWith pos f first (backTo pos (starEach [] X.env)) (backToKw pos (keywordEach [] X.env))) := by rfl) : XE X F (.Call (.Attribute (.Name x p1) m apos) [] [] pos) G Kk := fun S H σ I => by
  obtain ⟨b, o, eb, n, hb', ho, rc⟩ := I.ow hG
  have rc' := rc
  cases rc' with
  | @ins _ dx0 fs0 _ ek0 r0 =>
    refine semE_of (pe_meth0 (pl := pl) (pe_var hN hv hd hcd) cl hm Fk hr hb .nil pass0 ht) ⟨_, eb, b, dx0, fs0, rfl, ho, look_none ek0 hl, ?_⟩
    exact ⟨S, b, _, _, [], [], _, rfl, I.fr.ex, n, ho, rc, .nil, h, fun v S' H' o' d c' a1 a2 a3 a4 a5 a6 a7 rv hk => .at (I.boxed hG eb ho a1 a2 a3 a4 a5 a6 a7) a1 rv hk⟩
/-- x = C(e, ..), the slot's own -/
theorem xs_mko (i : Nat) {R : D → List D → (D → D → Prop) → Prop} {k : Nat} {f : Addr} {fd : FuncData} {ps : List Str} {x y : Str} {e0 : Expr} {es : List Expr} {p pp cpos : Pos} (hn : X.N.Nodup) (M : Mk X.K C f) (Fk : FnOk X.prog X.w X.K X.mg X.base CX0 k f fd ps (SpB X.K R)) (hr : Room (k + 1) X.A) (hm : X.mg x = some (.ref C)) (hb : Binds X.K fd ps [])
    (h : XA X F (e0 :: es) G fun ds G1 => i < G1.length ∧ R (.ins C []) ds fun d c' => d = .non ∧ P.nx (G1.set i (.ow false c')))
    (hi : X.N[i]? = some y := by rfl) (hx : Loc X.env.scope y := by first | exact Or.inl rfl | exact Or.inr rfl) (hg : Gl X x := by rfl) (hdb : (x == ("__debug__" : Str)) = false := by decide)
    (he : starEach (e0 :: es) X.env = (false, eval e0 X.env) :: starEach es X.env := by rfl) (hpl : (backTo cpos (starEach es X.env)).any (·.1) = false := by rfl)
    (hs : swapsWith (.Call (.Name x p) (e0 :: es) [] cpos) (some (.Name y pp)) pos.line X.env = pure false := by rfl) (hf : X.fn y = true ∨ X.env.scope.names.lookup y = some .local := by first | exact .inl rfl | exact .inr rfl | assumption) : XS X F (.Assign [.Name y pp] (.Call (.Name x p) (e0 :: es) [] cpos) pos) G P := fun S H σ E I ok => by
  refine semS_of (ps_set hn hi hx (pe_make M Fk hr hg hm hb .nil pass0 pa_sem hdb he hpl) hs hf) ?_
  refine semA_mono (h S H σ I) fun vs H1 ⟨ds, G1, S1, I1, e1, r1, hil, hR⟩ => ?_
  intro p0 dx hp0 hdx hne
  show SpB X.K R (L2.V.ref p0 :: (vs ++ [])) _ _ E0
  rw [List.append_nil]
  obtain ⟨I2, _⟩ := I1.junk (o := .own p0) hdx
  have hp2 : upd H1 dx (.own p0) p0 = none := by rw [upd_ne (Ne.symm hne)]; exact hp0
  have I3 := I2.own (i := i) (o := .ins C dx []) (c := .ins C []) hp2 (.ins rfl .nil)
  have g3 : (G1.set i (.ow false (.ins C [])))[i]? = some (.ow false (.ins C [])) := List.getElem?_set_self hil
  obtain ⟨b', o3, eb, n3, hb3, ho3, rc3⟩ := I3.ow g3
  have es0 : (σ.set i (some (L2.V.ref p0)))[i]? = some (some (.ref p0)) := List.getElem?_set_self (by rw [I1.len]; exact hil)
  rw [es0] at eb; cases eb
  rw [upd_same] at ho3; cases ho3
  refine ⟨S1, p0, _, _, vs, ds, _, rfl, I3.fr.ex, n3, upd_same, rc3, r1, hR, fun v S' H' o' d c' a1 a2 a3 a4 a5 a6 a7 rv hk => ?_⟩
  obtain ⟨ed, hk⟩ := hk
  subst ed
  cases rv
  have I4 := I3.boxed g3 es0 upd_same a1 a2 a3 a4 a5 a6 a7
  rw [List.set_set] at I4
  exact ⟨rfl, ok.nx _ S' H' _ I4 (e1.tr a1) hk⟩
end
section
variable {P : Program} {w : World} {K : PySem.W.Frag} {mg : Str → Option Value} {base : Heap}
/-- as fn_okB, for a method -/
theorem fn_okM {N ps : List Str} {x nm : Str} {st : Stmt} {f : Addr} {fd : FuncData} {k : Nat} {R : D → List D → (D → D → Prop) → Prop} (Fn : Fun K x nm st f fd) (Sc : FnScope N ps (defScope st)) (len : ∀ c ds Φ, R c ds Φ → ds.length + 1 = ps.length)
    (body : ∀ cdv A outer s H E F, Room k (A.deeper (envOfC nm (defScope st) s.heap.objs.size f cdv)) → ∀ c ds Φ, R c ds Φ →
      XSs (CXf P w K mg base N nm st f cdv A outer s H E) F (defBody st) (.ow true c :: (ds.map Sl.va ++ List.replicate (N.length - (ds.length + 1)) .no)) { nx := fun G => ∃ c', G[0]? = some (.ow true c') ∧ Φ .non c', rt := fun d' G => ∃ c', G[0]? = some (.ow true c') ∧ Φ d' c' }) : FnOk P w K mg base CX0 (k + 1) f fd ps (SpB K R) := by
  refine Fn.ok Sc (fun vs H Q E h => ?_) (fun cdv A outer s H vs Q E hr h => ?_)
  · obtain ⟨S, b, o, c, ws, ds, Φ, rfl, _, _, _, _, r, hR, _⟩ := h
    rw [List.length_cons, r.length, len c ds Φ hR]
  · obtain ⟨S, b, o, c, ws, ds, Φ, rfl, e, hb, ho, rc, r, hR, q⟩ := h
    refine ⟨_, pss_sem, ?_⟩
    have fr : Frame ⟨H, S, [b]⟩ S H := ⟨e, Ex.rfl', fun a o h _ => h, fun a h => .inl h, fun a ha => by
      have ea : a = b := by simpa using ha
      subst ea; exact ⟨o, ho, rc.nt⟩⟩
    have fin : ∀ (v : L2.V) (d' c' : D) G S' H' σ, IV K ⟨H, S, [b]⟩ G S' H' σ → Rep K S' v d' → Φ d' c' → G[0]? = some (.ow true c') → Q v H' := fun v d' c' G S' H' σ I rv ed eg => by
      obtain ⟨p, o', ep, n, hb', ho', rc'⟩ := I.ow eg
      have epb : p = b := by
        rcases hb' with ⟨z, _⟩ | ⟨_, z⟩
        · cases z
        · simpa using z
      subst epb
      exact q v S' H' o' d' c' I.fr.old I.fr.ex (fun a u hne h => I.fr.fr a u h (by simpa using hne)) I.fr.new n ho' rc' rv ed
    refine body cdv A outer s H E ⟨H, S, [b]⟩ hr c ds Φ hR S H (L2.start N (.ref b :: ws)) _ ?_ ⟨fun G S' H' σ I _ ed => ?_, fun d' v G S' H' σ I _ rv ed => ?_, fun _ _ _ _ _ _ z => z.elim, fun _ _ _ _ _ _ z => z.elim, fun _ _ _ _ _ _ _ _ _ _ _ _ _ z => z.elim⟩
    · have I0 := Reps.start (F := ⟨H, S, [b]⟩) fr (N.length - (ds.length + 1)) r
      obtain ⟨ad, h1, h2⟩ := I0.sl
      have nov : ∀ (i : Nat) q c, (ds.map Sl.va ++ List.replicate (N.length - (ds.length + 1)) Sl.no)[i]? ≠ some (.ow q c) := fun i q c z => by
        have hm := List.mem_of_getElem? z
        rcases List.mem_append.mp hm with m | m
        · obtain ⟨_, _, e⟩ := List.mem_map.mp m; cases e
        · have := List.eq_of_mem_replicate m; cases this
      have es : L2.start N (.ref b :: ws) = some (.ref b) :: (ws.map some ++ List.replicate (N.length - (ds.length + 1)) none) := by
        unfold L2.start
        rw [List.length_cons, r.length]; rfl
      rw [es]
      refine ⟨fr, by simp [r.length], fun i => if i = 0 then b else ad (i - 1), fun i s hs => ?_, fun i j q1 c1 q2 c2 hi hj _ => ?_⟩
      · cases i with
        | zero =>
          cases hs
          exact ⟨rfl, hb, .inr ⟨rfl, by simp⟩, o, ho, rc⟩
        | succ i => exact h1 i s (by simpa using hs)
      · cases i with
        | zero =>
          cases j with
          | zero => rfl
          | succ j => exact absurd (by simpa using hj) (nov j q2 c2)
        | succ i => exact absurd (by simpa using hi) (nov i q1 c1)
    · obtain ⟨c', e1, e2⟩ := ed
      exact fin .non .non c' G S' H' σ I .non e2 e1
    · obtain ⟨c', e1, e2⟩ := ed
      exact fin v d' c' G S' H' σ I rv e2 e1
end
end Pu

namespace Pu
open PySem PySem.Spec PyProof.Rows L2
/-- a def that may raise, where it doesn't -/
theorem fn_cx0 {P : Program} {w : World} {K : PySem.W.Frag} {mg : Str → Option Value} {base : Heap} {k : Nat} {f : Addr} {fd : FuncData} {ps : List Str} {R : List D → (D → Prop) → (Value → Fs → Prop) → Prop}
    (Fk : FnOk P w K mg base (L2.CX P w) k f fd ps (SpX K R)) : FnOk P w K mg base CX0 k f fd ps (SpD K fun ds Φ => R ds Φ fun _ _ => False) := by
  have up : ∀ vs H Q E, SpD K (fun ds Φ => R ds Φ fun _ _ => False) vs H Q E → SpX K R vs H Q (fun _ _ _ => False) := fun vs H Q E ⟨S, ds, Φ, e, r, hR, q⟩ =>
    ⟨S, ds, Φ, fun _ _ => False, e, r, hR, q, fun _ _ _ _ _ _ _ _ _ _ z => z⟩
  refine ⟨fun vs H Q E h => Fk.len vs H Q _ (up _ _ _ _ h), fun A outer s H args us vs Q E hr he hb hv hs => ?_⟩
  refine codeAny_mono (Fk.run A outer s H args us vs Q (fun _ _ _ => False) hr he hb hv (up _ _ _ _ hs)) fun r s' hq => ?_
  cases r with
  | error e =>
    obtain ⟨_, _, _, _, _, _, _, _, _, _, _, _, z⟩ := hq
    exact z.elim
  | ok fl => cases fl <;> exact hq
section
variable {X : Cx} {F : Fm} {G : List Sl} {P : Pst} {pos : Pos}
/-- try: .. where nothing is raised -/
theorem xs_try0 {body : List Stmt} {h₀ : ExceptHandler} {hs : List ExceptHandler} (h : XSs X.nox F body G P) : XS X F (.Try body (h₀ :: hs) [] [] pos) G P := fun S H σ E I ok =>
  semS_of (ps_try_thru0 (t := fun D σ H => semSs X.nox body D σ H) ⟨fun pins s σ H D I h => h pins s I⟩) (h S H σ E I ok)
end
end Pu

namespace NS
open PySem PySem.Spec PyProof.Rows
open L2 hiding XE atI_last del_ne putK_new PK get_map
open Pu
def topS (i : Nat) : Stmt := PySem.Challenge.pw_corpuskeep_k53_volumes_damage_is_seen.main.body.getD i (.Pass ⟨0, 0, 0, 0⟩)
abbrev s_law_number : Stmt := topS 19
abbrev s_law_body : Stmt := topS 22
abbrev s_law_cell : Stmt := topS 17
abbrev s_wall : Stmt := topS 0
abbrev s_read_number : Stmt := topS 10
abbrev s_check_sum : Stmt := topS 12
abbrev s_write_four : Stmt := topS 11
abbrev s_sum_bytes : Stmt := topS 13
abbrev s_read_volume : Stmt := topS 15
abbrev s_law_is_refused : Stmt := topS 23
abbrev s_law_digits : Stmt := topS 18
abbrev s_law_pages : Stmt := topS 21
abbrev s_law_sum : Stmt := topS 20
abbrev s_law : Stmt := topS 24
abbrev n_law_number : List Str := ["n", "data", "turn"]
theorem sc_law_number : FnScope n_law_number ["n"] (defScope s_law_number) := ⟨rfl, rfl, rfl, by decide +kernel, rfl, by decide +kernel, by decide +kernel⟩
abbrev n_law_body : List Str := ["pages", "data", "page", "code"]
theorem sc_law_body : FnScope n_law_body ["pages"] (defScope s_law_body) := ⟨rfl, rfl, rfl, by decide +kernel, rfl, by decide +kernel, by decide +kernel⟩
abbrev n_law_cell : List Str := ["script", "k"]
theorem sc_law_cell : FnScope n_law_cell ["script", "k"] (defScope s_law_cell) := ⟨rfl, rfl, rfl, by decide +kernel, rfl, by decide +kernel, by decide +kernel⟩
abbrev n_wall : List Str := ["k"]
theorem sc_wall : FnScope n_wall ["k"] (defScope s_wall) := ⟨rfl, rfl, rfl, by decide +kernel, rfl, by decide +kernel, by decide +kernel⟩
abbrev n_read_number : List Str := ["data", "at", "end", "number", "byte"]
theorem sc_read_number : FnScope n_read_number ["data", "at"] (defScope s_read_number) := ⟨rfl, rfl, rfl, by decide +kernel, rfl, by decide +kernel, by decide +kernel⟩
abbrev n_check_sum : List Str := ["data", "total", "byte"]
theorem sc_check_sum : FnScope n_check_sum ["data"] (defScope s_check_sum) := ⟨rfl, rfl, rfl, by decide +kernel, rfl, by decide +kernel, by decide +kernel⟩
abbrev n_write_four : List Str := ["n"]
theorem sc_write_four : FnScope n_write_four ["n"] (defScope s_write_four) := ⟨rfl, rfl, rfl, by decide +kernel, rfl, by decide +kernel, by decide +kernel⟩
abbrev n_sum_bytes : List Str := ["data"]
theorem sc_sum_bytes : FnScope n_sum_bytes ["data"] (defScope s_sum_bytes) := ⟨rfl, rfl, rfl, by decide +kernel, rfl, by decide +kernel, by decide +kernel⟩
abbrev n_read_volume : List Str := ["data", "body", "reader", "pages", "_", "source"]
theorem sc_read_volume : FnScope n_read_volume ["data"] (defScope s_read_volume) := ⟨rfl, rfl, rfl, by decide +kernel, rfl, by decide +kernel, by decide +kernel⟩
abbrev n_law_is_refused : List Str := ["data", "e"]
theorem sc_law_is_refused : FnScope n_law_is_refused ["data"] (defScope s_law_is_refused) := ⟨rfl, rfl, rfl, by decide +kernel, rfl, by decide +kernel, by decide +kernel⟩
abbrev n_law_digits : List Str := ["cell", "k", "most", "digits", "turn", "seed"]
theorem sc_law_digits : FnScope n_law_digits ["cell", "k", "most"] (defScope s_law_digits) := ⟨rfl, rfl, rfl, by decide +kernel, rfl, by decide +kernel, by decide +kernel⟩
abbrev n_law_pages : List Str := ["script", "pages", "k", "cell", "codes", "digit"]
theorem sc_law_pages : FnScope n_law_pages ["script"] (defScope s_law_pages) := ⟨rfl, rfl, rfl, by decide +kernel, rfl, by decide +kernel, by decide +kernel⟩
abbrev n_law_sum : List Str := ["data", "total", "byte", "four", "turn"]
theorem sc_law_sum : FnScope n_law_sum ["data"] (defScope s_law_sum) := ⟨rfl, rfl, rfl, by decide +kernel, rfl, by decide +kernel, by decide +kernel⟩
abbrev n_law : List Str := ["script", "pages", "body", "data", "at", "changed", "short", "long"]
theorem sc_law : FnScope n_law ["script"] (defScope s_law) := ⟨rfl, rfl, rfl, by decide +kernel, rfl, by decide +kernel, by decide +kernel⟩
abbrev s_InvalidBytes_init__ : Stmt := inClass (topS 3) 0
abbrev n_InvalidBytes_init__ : List Str := ["self", "at"]
theorem sc_InvalidBytes_init__ : FnScope n_InvalidBytes_init__ ["self", "at"] (defScope s_InvalidBytes_init__) := ⟨rfl, rfl, rfl, by decide +kernel, rfl, by decide +kernel, by decide +kernel⟩
abbrev s_ByteReader_init__ : Stmt := inClass (topS 14) 0
abbrev n_ByteReader_init__ : List Str := ["self", "data"]
theorem sc_ByteReader_init__ : FnScope n_ByteReader_init__ ["self", "data"] (defScope s_ByteReader_init__) := ⟨rfl, rfl, rfl, by decide +kernel, rfl, by decide +kernel, by decide +kernel⟩
abbrev s_ByteReader_take_byte : Stmt := inClass (topS 14) 1
abbrev n_ByteReader_take_byte : List Str := ["self", "least", "most"]
theorem sc_ByteReader_take_byte : FnScope n_ByteReader_take_byte ["self", "least", "most"] (defScope s_ByteReader_take_byte) := ⟨rfl, rfl, rfl, by decide +kernel, rfl, by decide +kernel, by decide +kernel⟩
abbrev s_ByteReader_take_number : Stmt := inClass (topS 14) 2
abbrev n_ByteReader_take_number : List Str := ["self", "number", "behind"]
theorem sc_ByteReader_take_number : FnScope n_ByteReader_take_number ["self"] (defScope s_ByteReader_take_number) := ⟨rfl, rfl, rfl, by decide +kernel, rfl, by decide +kernel, by decide +kernel⟩
abbrev s_ByteReader_take_numbers : Stmt := inClass (topS 14) 3
abbrev n_ByteReader_take_numbers : List Str := ["self", "numbers", "_"]
theorem sc_ByteReader_take_numbers : FnScope n_ByteReader_take_numbers ["self"] (defScope s_ByteReader_take_numbers) := ⟨rfl, rfl, rfl, by decide +kernel, rfl, by decide +kernel, by decide +kernel⟩
abbrev s_ByteReader_take_end : Stmt := inClass (topS 14) 4
abbrev n_ByteReader_take_end : List Str := ["self"]
theorem sc_ByteReader_take_end : FnScope n_ByteReader_take_end ["self"] (defScope s_ByteReader_take_end) := ⟨rfl, rfl, rfl, by decide +kernel, rfl, by decide +kernel, by decide +kernel⟩
structure Tx (K : PySem.W.Frag) (mg : Str → Option Value) where
  f_law_number : Addr
  d_law_number : FuncData
  F_law_number : Fun K "_law_number" "_law_number" s_law_number f_law_number d_law_number
  b_law_number : Binds K d_law_number ["n"] []
  m_law_number : mg "_law_number" = some (.ref f_law_number)
  f_law_body : Addr
  d_law_body : FuncData
  F_law_body : Fun K "_law_body" "_law_body" s_law_body f_law_body d_law_body
  b_law_body : Binds K d_law_body ["pages"] []
  m_law_body : mg "_law_body" = some (.ref f_law_body)
  f_law_cell : Addr
  d_law_cell : FuncData
  F_law_cell : Fun K "_law_cell" "_law_cell" s_law_cell f_law_cell d_law_cell
  b_law_cell : Binds K d_law_cell ["script", "k"] []
  m_law_cell : mg "_law_cell" = some (.ref f_law_cell)
  f_wall : Addr
  d_wall : FuncData
  F_wall : Fun K "_wall" "_wall" s_wall f_wall d_wall
  b_wall : Binds K d_wall ["k"] []
  m_wall : mg "_wall" = some (.ref f_wall)
  f_read_number : Addr
  d_read_number : FuncData
  F_read_number : Fun K "read_number" "read_number" s_read_number f_read_number d_read_number
  b_read_number : Binds K d_read_number ["data", "at"] []
  m_read_number : mg "read_number" = some (.ref f_read_number)
  f_check_sum : Addr
  d_check_sum : FuncData
  F_check_sum : Fun K "check_sum" "check_sum" s_check_sum f_check_sum d_check_sum
  b_check_sum : Binds K d_check_sum ["data"] []
  m_check_sum : mg "check_sum" = some (.ref f_check_sum)
  f_write_four : Addr
  d_write_four : FuncData
  F_write_four : Fun K "write_four" "write_four" s_write_four f_write_four d_write_four
  b_write_four : Binds K d_write_four ["n"] []
  m_write_four : mg "write_four" = some (.ref f_write_four)
  f_sum_bytes : Addr
  d_sum_bytes : FuncData
  F_sum_bytes : Fun K "sum_bytes" "sum_bytes" s_sum_bytes f_sum_bytes d_sum_bytes
  b_sum_bytes : Binds K d_sum_bytes ["data"] []
  m_sum_bytes : mg "sum_bytes" = some (.ref f_sum_bytes)
  f_read_volume : Addr
  d_read_volume : FuncData
  F_read_volume : Fun K "read_volume" "read_volume" s_read_volume f_read_volume d_read_volume
  b_read_volume : Binds K d_read_volume ["data"] []
  m_read_volume : mg "read_volume" = some (.ref f_read_volume)
  f_law_is_refused : Addr
  d_law_is_refused : FuncData
  F_law_is_refused : Fun K "_law_is_refused" "_law_is_refused" s_law_is_refused f_law_is_refused d_law_is_refused
  b_law_is_refused : Binds K d_law_is_refused ["data"] []
  m_law_is_refused : mg "_law_is_refused" = some (.ref f_law_is_refused)
  f_law_digits : Addr
  d_law_digits : FuncData
  F_law_digits : Fun K "_law_digits" "_law_digits" s_law_digits f_law_digits d_law_digits
  b_law_digits : Binds K d_law_digits ["cell", "k", "most"] []
  m_law_digits : mg "_law_digits" = some (.ref f_law_digits)
  f_law_pages : Addr
  d_law_pages : FuncData
  F_law_pages : Fun K "_law_pages" "_law_pages" s_law_pages f_law_pages d_law_pages
  b_law_pages : Binds K d_law_pages ["script"] []
  m_law_pages : mg "_law_pages" = some (.ref f_law_pages)
  f_law_sum : Addr
  d_law_sum : FuncData
  F_law_sum : Fun K "_law_sum" "_law_sum" s_law_sum f_law_sum d_law_sum
  b_law_sum : Binds K d_law_sum ["data"] []
  m_law_sum : mg "_law_sum" = some (.ref f_law_sum)
  f_law : Addr
  d_law : FuncData
  F_law : Fun K "law" "law" s_law f_law d_law
  b_law : Binds K d_law ["script"] []
  m_law : mg "law" = some (.ref f_law)
  z_int : mg "int" = none
  z_isinstance : mg "isinstance" = none
  z_len : mg "len" = none
  z_list : mg "list" = none
  z_range : mg "range" = none
  z_reversed : mg "reversed" = none
  t_BASE : Tok
  c_BASE : mg "BASE" = some (.int 128 t_BASE)
  t_FOUR : Tok
  c_FOUR : mg "FOUR" = some (.int 4 t_FOUR)
  t_SUM_FACTOR : Tok
  c_SUM_FACTOR : mg "SUM_FACTOR" = some (.int 257 t_SUM_FACTOR)
  t_SUM_LIMIT : Tok
  c_SUM_LIMIT : mg "SUM_LIMIT" = some (.int 4294967296 t_SUM_LIMIT)
  t_SUM_START : Tok
  c_SUM_START : mg "SUM_START" = some (.int 5381 t_SUM_START)
  C_CorpusError : Addr
  g_CorpusError : mg "CorpusError" = some (.ref C_CorpusError)
  hd_CorpusError : PySem.W.hasDictIn K C_CorpusError = true
  ty_CorpusError : PySem.W.typeIn K (.ref C_CorpusError) = some (.type "type")
  sb_CorpusError : PySem.W.subIn K (.ref C_CorpusError) (.type "BaseException") = some true
  kp_CorpusError : PySem.W.keepIn K (.ref C_CorpusError) = true
  er_CorpusError : ErC K C_CorpusError
  ex_CorpusError : PySem.W.excIn K C_CorpusError [.type "ValueError", .type "Exception", .type "BaseException", .type "object"] "ValueError.__new__" = true
  C_InvalidBytes : Addr
  g_InvalidBytes : mg "InvalidBytes" = some (.ref C_InvalidBytes)
  hd_InvalidBytes : PySem.W.hasDictIn K C_InvalidBytes = true
  ty_InvalidBytes : PySem.W.typeIn K (.ref C_InvalidBytes) = some (.type "type")
  sb_InvalidBytes : PySem.W.subIn K (.ref C_InvalidBytes) (.type "BaseException") = some true
  kp_InvalidBytes : PySem.W.keepIn K (.ref C_InvalidBytes) = true
  er_InvalidBytes : ErC K C_InvalidBytes
  oex_InvalidBytes : OexC K C_InvalidBytes
  xf_InvalidBytes : XfC K C_InvalidBytes
  no_InvalidBytes_at : PySem.W.findIn K (.ref C_InvalidBytes) "at" = some none
  f_InvalidBytes_init__ : Addr
  d_InvalidBytes_init__ : FuncData
  F_InvalidBytes_init__ : Fun K "__init__" "InvalidBytes.__init__" s_InvalidBytes_init__ f_InvalidBytes_init__ d_InvalidBytes_init__
  b_InvalidBytes_init__ : Binds K d_InvalidBytes_init__ ["self", "at"] []
  i_InvalidBytes : PySem.W.findIn K (.ref C_InvalidBytes) "__init__" = some (some (.ref f_InvalidBytes_init__))
  t_InvalidBytes_init__ : PySem.W.typeIn K (.ref f_InvalidBytes_init__) = some (.type "function")
  C_ByteReader : Addr
  g_ByteReader : mg "ByteReader" = some (.ref C_ByteReader)
  cl_ByteReader : Cls K C_ByteReader
  na_ByteReader_data : NoAttr K C_ByteReader "data"
  na_ByteReader_at : NoAttr K C_ByteReader "at"
  f_ByteReader_init__ : Addr
  d_ByteReader_init__ : FuncData
  F_ByteReader_init__ : Fun K "__init__" "ByteReader.__init__" s_ByteReader_init__ f_ByteReader_init__ d_ByteReader_init__
  b_ByteReader_init__ : Binds K d_ByteReader_init__ ["self", "data"] []
  mk_ByteReader : Mk K C_ByteReader f_ByteReader_init__
  f_ByteReader_take_byte : Addr
  d_ByteReader_take_byte : FuncData
  F_ByteReader_take_byte : Fun K "take_byte" "ByteReader.take_byte" s_ByteReader_take_byte f_ByteReader_take_byte d_ByteReader_take_byte
  b_ByteReader_take_byte : Binds K d_ByteReader_take_byte ["self", "least", "most"] []
  me_ByteReader_take_byte : Meth K C_ByteReader "take_byte" f_ByteReader_take_byte
  f_ByteReader_take_number : Addr
  d_ByteReader_take_number : FuncData
  F_ByteReader_take_number : Fun K "take_number" "ByteReader.take_number" s_ByteReader_take_number f_ByteReader_take_number d_ByteReader_take_number
  b_ByteReader_take_number : Binds K d_ByteReader_take_number ["self"] []
  me_ByteReader_take_number : Meth K C_ByteReader "take_number" f_ByteReader_take_number
  f_ByteReader_take_numbers : Addr
  d_ByteReader_take_numbers : FuncData
  F_ByteReader_take_numbers : Fun K "take_numbers" "ByteReader.take_numbers" s_ByteReader_take_numbers f_ByteReader_take_numbers d_ByteReader_take_numbers
  b_ByteReader_take_numbers : Binds K d_ByteReader_take_numbers ["self"] []
  me_ByteReader_take_numbers : Meth K C_ByteReader "take_numbers" f_ByteReader_take_numbers
  f_ByteReader_take_end : Addr
  d_ByteReader_take_end : FuncData
  F_ByteReader_take_end : Fun K "take_end" "ByteReader.take_end" s_ByteReader_take_end f_ByteReader_take_end d_ByteReader_take_end
  b_ByteReader_take_end : Binds K d_ByteReader_take_end ["self"] []
  me_ByteReader_take_end : Meth K C_ByteReader "take_end" f_ByteReader_take_end
  sub_CorpusError_CorpusError : PySem.W.subIn K (.ref C_CorpusError) (.ref C_CorpusError) = some true
  kit_CorpusError_CorpusError : PySem.W.kitOne K (.ref C_CorpusError) (.ref C_CorpusError) = some true
  sub_CorpusError_InvalidBytes : PySem.W.subIn K (.ref C_CorpusError) (.ref C_InvalidBytes) = some false
  kit_CorpusError_InvalidBytes : PySem.W.kitOne K (.ref C_CorpusError) (.ref C_InvalidBytes) = some false
  sub_InvalidBytes_CorpusError : PySem.W.subIn K (.ref C_InvalidBytes) (.ref C_CorpusError) = some true
  kit_InvalidBytes_CorpusError : PySem.W.kitOne K (.ref C_InvalidBytes) (.ref C_CorpusError) = some true
  sub_InvalidBytes_InvalidBytes : PySem.W.subIn K (.ref C_InvalidBytes) (.ref C_InvalidBytes) = some true
  kit_InvalidBytes_InvalidBytes : PySem.W.kitOne K (.ref C_InvalidBytes) (.ref C_InvalidBytes) = some true

section
variable {P : Program} {w : World} {K : PySem.W.Frag} {mg : Str → Option Value} {base : Heap}
set_option hygiene false
local macro_rules | `(tactic| walk_at "cov") => `(tactic| repeat (first | exact Cov.nil | refine Cov.same ?_ | refine Cov.skip ?_))
local macro_rules | `(tactic| walk_at "okc") => `(tactic| repeat (first | exact okC_nil | refine okC_no ?_ | refine okC_va rfl ?_ | refine okC_ow rfl ?_))
local macro_rules | `(tactic| walk_at "n") => `(tactic| first | fail)
local macro_rules | `(tactic| walk_at "nf") => `(tactic| first | fail)
local macro_rules | `(tactic| walk_at "set") => `(tactic| first | fail)
local macro_rules | `(tactic| walk_at "own") => `(tactic| first | fail)
local macro_rules | `(tactic| walk_at "app") => `(tactic| first | fail)
local macro_rules | `(tactic| walk_at "aug") => `(tactic| first | fail)
local macro_rules | `(tactic| walk_at "gn") => `(tactic| first | fail)
local macro_rules | `(tactic| walk_at "leno") => `(tactic| first | fail)
local macro_rules | `(tactic| walk_at "ixo") => `(tactic| first | fail)
local macro_rules | `(tactic| walk_at "sub") => `(tactic| first | fail)
local macro_rules | `(tactic| walk_at "tino") => `(tactic| first | fail)
local macro_rules | `(tactic| walk_at "tnio") => `(tactic| first | fail)
local macro_rules | `(tactic| walk_at "ldt") => `(tactic| first | fail)
local macro_rules | `(tactic| walk_at "tru") => `(tactic| first | fail)
local macro_rules | `(tactic| walk_at "xr") => `(tactic| first | fail)
local macro_rules | `(tactic| walk_at "res") => `(tactic| repeat (first | exact Res.nil | apply Res.d | apply Res.s rfl))
local macro_rules | `(tactic| walk_at "lez") => `(tactic| first | exact rfl | assumption | decide | (simp; done) | omega | (simp; omega))
local macro_rules | `(tactic| walk_at "mul") => `(tactic| first | exact .inl ⟨by decide, by decide⟩ | exact .inr ⟨by decide, by decide⟩ | exact .inl ⟨by omega, by omega⟩ | exact .inr ⟨by omega, by omega⟩)
local macro_rules | `(tactic| walk_at "op") => `(tactic| first | (guard_target = XO _ _ (binaryOp .Add) (D.int _) (D.int _) _ _; refine xo_add ?_) | (guard_target = XO _ _ (binaryOp .Sub) (D.int _) (D.int _) _ _; refine xo_sub ?_) | (guard_target = XO _ _ (binaryOp .Mult) (D.int _) (D.int _) _ _; refine xo_mul (by walk_at "mul") ?_) | (guard_target = XO _ _ (binaryOp .Mod) (D.int _) (D.int _) _ _; refine xo_mod (by first | decide | omega) ?_) | (guard_target = XO _ _ (binaryOp .FloorDiv) (D.int _) (D.int _) _ _; refine xo_fdiv (by first | decide | exact ⟨by omega, by omega⟩) ?_) | (guard_target = XO _ _ (binaryOp .Pow) (D.int _) (D.int _) _ _; refine xo_pow ⟨by decide, by decide, by decide⟩ ?_) | (guard_target = XO _ _ (compareOp .Lt) (D.int _) (D.int _) _ _; refine xo_lt ?_) | (guard_target = XO _ _ (compareOp .LtE) (D.int _) (D.int _) _ _; refine xo_le ?_) | (guard_target = XO _ _ (compareOp .Gt) (D.int _) (D.int _) _ _; refine xo_gt ?_) | (guard_target = XO _ _ (compareOp .GtE) (D.int _) (D.int _) _ _; refine xo_ge ?_) | (guard_target = XO _ _ (compareOp .Eq) (D.int _) (D.int _) _ _; refine xo_eqI ?_) | (guard_target = XO _ _ (compareOp .NotEq) (D.int _) (D.int _) _ _; refine xo_neI ?_) | (guard_target = XO _ _ (compareOp .Eq) (D.str _) (D.str _) _ _; refine xo_eqS ?_) | (guard_target = XO _ _ (compareOp .NotEq) (D.str _) (D.str _) _ _; refine xo_neS ?_) | (guard_target = XO _ _ (compareOp .Eq) (D.bl _) (D.bl _) _ _; refine xo_eqB ?_) | (guard_target = XO _ _ (compareOp .NotEq) (D.bl _) (D.bl _) _ _; refine xo_neB ?_) | (guard_target = XO _ _ (compareOp .Is) _ D.non _ _; refine xo_isN ?_) | (guard_target = XO _ _ (compareOp .IsNot) _ D.non _ _; refine xo_isNn ?_))
local macro_rules | `(tactic| walk_at "xi") => `(tactic| first | (guard_target = XI _ _ (D.tup (_ :: _)) (D.int _) _ _; refine xi_tup rfl ?_) | (guard_target = XI _ _ (D.lst _) (D.int _) _ _; refine xi_lst (by assumption) ?_) | (guard_target = XI _ _ (D.scr _) (D.int _) _ _; refine xi_scr (by assumption) ?_) | (guard_target = XI _ _ (D.tup _) (D.int _) _ _; refine xi_tup (by assumption) ?_) | (guard_target = XI _ _ (D.str _) (D.int _) _ _; refine xi_str (by assumption) (by assumption) ?_))
local macro_rules | `(tactic| walk_at "xc") => `(tactic| first | (guard_target = XC _ _ (Value.builtin "len") [D.lst _] _ _; refine xc_len_lst ?_) | (guard_target = XC _ _ (Value.builtin "len") [D.tup _] _ _; refine xc_len_tup ?_) | (guard_target = XC _ _ (Value.builtin "len") [D.scr _] _ _; refine xc_len_scr ?_) | (guard_target = XC _ _ (Value.builtin "len") [D.str _] _ _; refine xc_len_str (by first | assumption | omega | (simp; omega)) ?_) | (guard_target = XC _ _ (Value.type "int") [D.int _] _ _; refine xc_int ?_) | (guard_target = XC _ _ (Value.type "int") [D.bl _] _ _; refine xc_int_bl ?_) | (guard_target = XC _ _ (Value.type "list") [D.lst _] _ _; refine xc_list ?_) | (guard_target = XC _ _ (Value.type "tuple") [D.lst _] _ _; refine xc_tuple ?_) | (guard_target = XC _ _ (Value.builtin "max") [D.int _, D.int _] _ _; refine xc_max2 rfl ?_) | (guard_target = XC _ _ (Value.builtin "min") [D.int _, D.int _] _ _; refine xc_min2 rfl ?_) | (guard_target = XC _ _ (Value.builtin "isinstance") [D.int _, D.ty "int"] _ _; refine xc_isi kt_int_int rfl ?_) | (guard_target = XC _ _ (Value.builtin "isinstance") [D.int _, D.ty "list"] _ _; refine xc_isi kt_int_list rfl ?_) | (guard_target = XC _ _ (Value.builtin "isinstance") [D.int _, D.ty "tuple"] _ _; refine xc_isi kt_int_tuple rfl ?_) | (guard_target = XC _ _ (Value.builtin "isinstance") [D.int _, D.ty "str"] _ _; refine xc_isi kt_int_str rfl ?_) | (guard_target = XC _ _ (Value.builtin "isinstance") [D.int _, D.ty "bool"] _ _; refine xc_isi kt_int_bool rfl ?_) | (guard_target = XC _ _ (Value.builtin "isinstance") [D.lst _, D.ty "int"] _ _; refine xc_isi kt_list_int rfl ?_) | (guard_target = XC _ _ (Value.builtin "isinstance") [D.lst _, D.ty "list"] _ _; refine xc_isi kt_list_list rfl ?_) | (guard_target = XC _ _ (Value.builtin "isinstance") [D.lst _, D.ty "tuple"] _ _; refine xc_isi kt_list_tuple rfl ?_) | (guard_target = XC _ _ (Value.builtin "isinstance") [D.lst _, D.ty "str"] _ _; refine xc_isi kt_list_str rfl ?_) | (guard_target = XC _ _ (Value.builtin "isinstance") [D.lst _, D.ty "bool"] _ _; refine xc_isi kt_list_bool rfl ?_) | (guard_target = XC _ _ (Value.builtin "isinstance") [D.tup _, D.ty "int"] _ _; refine xc_isi kt_tuple_int rfl ?_) | (guard_target = XC _ _ (Value.builtin "isinstance") [D.tup _, D.ty "list"] _ _; refine xc_isi kt_tuple_list rfl ?_) | (guard_target = XC _ _ (Value.builtin "isinstance") [D.tup _, D.ty "tuple"] _ _; refine xc_isi kt_tuple_tuple rfl ?_) | (guard_target = XC _ _ (Value.builtin "isinstance") [D.tup _, D.ty "str"] _ _; refine xc_isi kt_tuple_str rfl ?_) | (guard_target = XC _ _ (Value.builtin "isinstance") [D.tup _, D.ty "bool"] _ _; refine xc_isi kt_tuple_bool rfl ?_) | (guard_target = XC _ _ (Value.builtin "isinstance") [D.str _, D.ty "int"] _ _; refine xc_isi kt_str_int rfl ?_) | (guard_target = XC _ _ (Value.builtin "isinstance") [D.str _, D.ty "list"] _ _; refine xc_isi kt_str_list rfl ?_) | (guard_target = XC _ _ (Value.builtin "isinstance") [D.str _, D.ty "tuple"] _ _; refine xc_isi kt_str_tuple rfl ?_) | (guard_target = XC _ _ (Value.builtin "isinstance") [D.str _, D.ty "str"] _ _; refine xc_isi kt_str_str rfl ?_) | (guard_target = XC _ _ (Value.builtin "isinstance") [D.str _, D.ty "bool"] _ _; refine xc_isi kt_str_bool rfl ?_) | (guard_target = XC _ _ (Value.builtin "isinstance") [D.bl _, D.ty "int"] _ _; refine xc_isi kt_bool_int rfl ?_) | (guard_target = XC _ _ (Value.builtin "isinstance") [D.bl _, D.ty "list"] _ _; refine xc_isi kt_bool_list rfl ?_) | (guard_target = XC _ _ (Value.builtin "isinstance") [D.bl _, D.ty "tuple"] _ _; refine xc_isi kt_bool_tuple rfl ?_) | (guard_target = XC _ _ (Value.builtin "isinstance") [D.bl _, D.ty "str"] _ _; refine xc_isi kt_bool_str rfl ?_) | (guard_target = XC _ _ (Value.builtin "isinstance") [D.bl _, D.ty "bool"] _ _; refine xc_isi kt_bool_bool rfl ?_) | (guard_target = XC _ _ (Value.builtin "isinstance") [D.non, D.ty "int"] _ _; refine xc_isi kt_NoneType_int rfl ?_) | (guard_target = XC _ _ (Value.builtin "isinstance") [D.non, D.ty "list"] _ _; refine xc_isi kt_NoneType_list rfl ?_) | (guard_target = XC _ _ (Value.builtin "isinstance") [D.non, D.ty "tuple"] _ _; refine xc_isi kt_NoneType_tuple rfl ?_) | (guard_target = XC _ _ (Value.builtin "isinstance") [D.non, D.ty "str"] _ _; refine xc_isi kt_NoneType_str rfl ?_) | (guard_target = XC _ _ (Value.builtin "isinstance") [D.non, D.ty "bool"] _ _; refine xc_isi kt_NoneType_bool rfl ?_) | (guard_target = XC _ _ (Value.builtin "len") [D.dt _] _ _; refine xc_lenT ?_) | (guard_target = XC _ _ (Value.builtin "ord") [D.str _] _ _; refine xc_ord1 ?_) | (guard_target = XC _ _ (Value.builtin "sum") [D.lst (List.map D.int _)] _ _; refine xc_sum rfl ?_))
local macro_rules | `(tactic| walk_at "e") => `(tactic| first | (guard_target = XE _ _ (Expr.Name _ _) _ _; first | walk_at "n" | walk_at "glob" | walk_at "call") | (guard_target = XE _ _ (Expr.Constant (Const.int _) _ _) _ _; refine xe_int ?_) | (guard_target = XE _ _ (Expr.Constant (Const.str _) _ _) _ _; refine xe_str ?_) | (guard_target = XE _ _ (Expr.Constant (Const.bool _) _ _) _ _; refine xe_bl ?_) | (guard_target = XE _ _ (Expr.Constant Const.none _ _) _ _; refine xe_non ?_) | (guard_target = XE _ _ (Expr.BinOp _ _ _ _) _ _; refine xe_bin ?_) | walk_at "cmpo" | (guard_target = XE _ _ (Expr.Compare _ [_] [_] _) _ _; refine xe_cmp ?_) | (guard_target = XE _ _ (Expr.Compare _ [_, _] [_, _] _) _ _; refine xe_chain ?_) | (guard_target = XE _ _ (Expr.UnaryOp .Not _ _) _ _; refine xe_not ?_) | (guard_target = XE _ _ (Expr.UnaryOp .USub _ _) _ _; refine xe_neg ?_) | (guard_target = XE _ _ (Expr.BoolOp _ [_] _) _ _; refine xe_one ?_) | (guard_target = XE _ _ (Expr.BoolOp .And _ _) _ _; refine xe_and ?_) | (guard_target = XE _ _ (Expr.BoolOp .Or _ _) _ _; refine xe_or ?_) | (guard_target = XE _ _ (Expr.IfExp _ _ _ _) _ _; refine xe_if ?_) | (guard_target = XE _ _ (Expr.Tuple _ _ _) _ _; refine xe_tup ?_) | (guard_target = XE _ _ (Expr.List _ _) _ _; refine xe_lst ?_) | (guard_target = XE _ _ (Expr.Subscript _ (Expr.Slice _ _ _ _) _) _ _; refine xe_slL ?_) | (guard_target = XE _ _ (Expr.Subscript (Expr.Name _ _) _ _) _ _; walk_at "ixo") | (guard_target = XE _ _ (Expr.Subscript _ _ _) _ _; refine xe_ix ?_) | (guard_target = XE _ _ (Expr.Call (Expr.Name "len" _) [Expr.Name _ _] [] _) _ _; walk_at "leno") | (guard_target = XE _ _ (Expr.Call (Expr.Name "list" _) [Expr.Name _ _] [] _) _ _; walk_at "ldt") | (guard_target = XE _ _ (Expr.Call (Expr.Name _ _) _ [] _) _ _; walk_at "call") | (guard_target = XE _ _ (Expr.Attribute (Expr.Name _ _) _ _) _ _; walk_at "fld") | (guard_target = XE _ _ (Expr.Call (Expr.Attribute (Expr.Name _ _) _ _) _ [] _) _ _; walk_at "call") | (guard_target = XE _ _ (Expr.Call (Expr.Attribute _ "count" _) [_] [] _) _ _; refine xe_bm PySem.F.plainAttrs_list PySem.F.slot_list_count PySem.F.type_list_count mt_lcount ?_) | (guard_target = XE _ _ (Expr.Call (Expr.Attribute _ "join" _) [_] [] _) _ _; refine xe_joinL ?_) | (guard_target = XE _ _ (Expr.Call (Expr.Attribute _ "split" _) [_] [] _) _ _; refine xe_splitE ?_))
local macro_rules | `(tactic| walk_at "nrm0") => `(tactic| repeat (first | exact Nrm.nil | apply Nrm.va | apply Nrm.no | apply Nrm.ow))
local macro_rules | `(tactic| walk_at "nrm") => `(tactic| first | (apply xsn; (focus walk_at "nrm0")) | (apply xen; (focus walk_at "nrm0")) | (apply xgn; (focus walk_at "nrm0")))
local macro_rules | `(tactic| walk_at "kill") => `(tactic| first | (exfalso; omega) | (exfalso; simp only [List.length_map, List.length_cons, List.length_nil] at *; omega) | (exfalso; simp at h; done) | (exfalso; simp at h; omega))
local macro_rules | `(tactic| walk_at "cmpo") => `(tactic| first | fail)
local macro_rules | `(tactic| walk_at "fld") => `(tactic| first | fail)
local macro_rules | `(tactic| walk_at "ext") => `(tactic| first | fail)
local macro_rules | `(tactic| walk_at "call") => `(tactic| first | fail)
local macro_rules | `(tactic| walk_at "glob") => `(tactic| first | fail)
local macro_rules | `(tactic| walk_at "t") => `(tactic| first | walk_at "tcmpo" | (guard_target = XT _ _ (Expr.Compare _ [.In] [Expr.Name _ _] _) _ _; walk_at "tino") | (guard_target = XT _ _ (Expr.Compare _ [.NotIn] [Expr.Name _ _] _) _ _; walk_at "tnio") | (guard_target = XT _ _ (Expr.Compare _ [_] [_] _) _ _; refine xt_cmp ?_) | (guard_target = XT _ _ (Expr.UnaryOp .Not _ _) _ _; refine xt_not ?_) | (guard_target = XT _ _ (Expr.BoolOp _ _ _) _ _; refine xt_wb ?_) | (guard_target = XT _ _ (Expr.Call _ _ _ _) _ _; refine xt_val ?_) | (guard_target = XT _ _ (Expr.Compare _ _ _ _) _ _; refine xt_val ?_) | (guard_target = XT _ _ (Expr.Name _ _) _ _; first | walk_at "tru" | refine xt_val ?_) | (guard_target = XT _ _ (Expr.Constant (Const.bool _) _ _) _ _; refine xt_val ?_))
local macro_rules | `(tactic| walk_at "tcmpo") => `(tactic| first | fail)
local macro_rules | `(tactic| walk_at "w") => `(tactic| first | (guard_target = XW _ _ (Expr.BoolOp .And [_] _) _ _; refine xw_and1 ?_) | (guard_target = XW _ _ (Expr.BoolOp .Or [_] _) _ _; refine xw_or1 ?_) | (guard_target = XW _ _ (Expr.BoolOp .And _ _) _ _; refine xw_and ?_) | (guard_target = XW _ _ (Expr.BoolOp .Or _ _) _ _; refine xw_or ?_))
local macro_rules | `(tactic| walk_at "s") => `(tactic| first | walk_at "sx" | (guard_target = XS _ _ (Stmt.Return (some _) _) _ _; refine xs_ret ?_) | (guard_target = XS _ _ (Stmt.Return none _) _ _; refine xs_retN ?_) | (guard_target = XS _ _ (Stmt.If _ _ _ _) _ _; refine xs_if ?_) | (guard_target = XS _ _ (Stmt.Assign [Expr.Name _ _] (Expr.List _ _) _) _ _; walk_at "own") | (guard_target = XS _ _ (Stmt.Assign [Expr.Name _ _] _ _) _ _; walk_at "set") | (guard_target = XS _ _ (Stmt.Expr (Expr.Call (Expr.Attribute (Expr.Name _ _) "append" _) [_] [] _) _) _ _; walk_at "app") | (guard_target = XS _ _ (Stmt.AugAssign (Expr.Name _ _) .Add _ _) _ _; walk_at "aug") | (guard_target = XS _ _ (Stmt.Assign [Expr.Subscript (Expr.Name _ _) _ _] _ _) _ _; walk_at "sub") | (guard_target = XS _ _ (Stmt.Assign [Expr.Tuple _ _ _] _ _) _ _; refine xs_tup ?_) | (guard_target = XS _ _ (Stmt.Expr (Expr.Call (Expr.Attribute (Expr.Name _ _) "extend" _) [_] [] _) _) _ _; walk_at "ext") | (guard_target = XS _ _ (Stmt.Expr (Expr.Call (Expr.Attribute (Expr.Name _ _) _ _) _ [] _) _) _ _; refine xs_expr ?_) | (guard_target = XS _ _ (Stmt.Expr (Expr.Call (Expr.Name _ _) _ _ _) _) _ _; refine xs_expr ?_) | (guard_target = XS _ _ (Stmt.For _ _ _ [] _) _ _; first | refine xs_for ?_ | refine xs_for ?_ (by assumption)) | (guard_target = XS _ _ (Stmt.Continue _) _ _; refine xs_cont ?_) | (guard_target = XS _ _ (Stmt.Break _) _ _; refine xs_break ?_) | (guard_target = XS _ _ (Stmt.Pass _) _ _; refine xs_pass ?_))
local macro_rules | `(tactic| walk_at "sx") => `(tactic| first | fail)
local macro_rules | `(tactic| walk_at "xw") => `(tactic| first | fail)
local macro_rules | `(tactic| walk_at "b") => `(tactic| first | (apply res_ex; (focus walk_at "res")) | refine ib_dec (fun h => ?_) (fun h => ?_) | refine ib_decn (fun h => ?_) (fun h => ?_) | refine ib_ndec (fun h => ?_) (fun h => ?_) | refine ib_ndecn (fun h => ?_) (fun h => ?_) | refine ib_t ?_ | refine ib_f ?_ | refine ib_tn ?_ | refine ib_fn ?_ | refine ka_dec (fun h => ?_) (fun h => ?_) | refine ka_decn (fun h => ?_) (fun h => ?_) | refine ka_decR (fun h => ?_) (fun h => ?_) | refine ka_decnR (fun h => ?_) (fun h => ?_) | refine And.intro (fun z => absurd z (by decide)) (fun _ => ?_) | refine And.intro (fun _ => ?_) (fun z => absurd z (by decide)) | refine kb_f ?_ | refine kb_t ?_ | refine xe_bl1 ?_)
local macro_rules | `(tactic| walk_at "g1") => `(tactic| first | (guard_target = XE _ _ _ _ _; walk_at "e") | (guard_target = XO _ _ _ _ _ _ _; walk_at "op") | (guard_target = XC _ _ _ _ _ _; walk_at "xc") | (guard_target = XI _ _ _ _ _ _; walk_at "xi") | (guard_target = XA _ _ (_ :: _) _ _; refine xa_cons ?_) | (guard_target = XA _ _ [] _ _; refine xa_nil ?_) | (guard_target = XT _ _ _ _ _; walk_at "t") | (guard_target = XW _ _ _ _ _; walk_at "w") | (guard_target = XSs _ _ [] _ _; refine xss_nil ?_) | (guard_target = XSs _ _ (_ :: _) _ _; (fail_if_success guard_target = XSs _ _ (Stmt.If _ _ _ _ :: _ :: _) _ _); apply xssn; (focus walk_at "nrm0")) | (guard_target = XS _ _ _ _ _; walk_at "s") | (guard_target = XG _ _ (Expr.Name _ _) _ _ _ _; walk_at "gn") | (guard_target = XG _ _ (Expr.Tuple _ _ _) (D.tup _) _ _ _; refine xg_tup ?_ rfl) | (guard_target = XGs _ _ (_ :: _) _ _ _ _; refine xgs_cons ?_) | (guard_target = XGs _ _ [] _ _ _ _; refine xgs_nil ?_) | (guard_target = XW' _ _ _ _ _ _; walk_at "xw") | (guard_target = XW' _ _ _ (Expr.Call (Expr.Name "range" _) [_] [] _) _ _; refine xw_r1 T.z_range ?_) | (guard_target = XW' _ _ _ (Expr.Call (Expr.Name "range" _) [_, _] [] _) _ _; refine xw_r2 T.z_range ?_) | (guard_target = XW' _ _ _ (Expr.Call (Expr.Name "range" _) [_, _, _] [] _) _ _; refine xw_r3 T.z_range ?_) | (guard_target = XW' _ _ _ (Expr.Call (Expr.Name "enumerate" _) [Expr.Call (Expr.Name "zip" _) [_, _] [] _] [] _) _ _; refine xw_enumz T.z_enumerate T.z_zip ?_) | (guard_target = XW' _ _ _ (Expr.Call (Expr.Name "enumerate" _) [_] [] _) _ _; refine xw_enum T.z_enumerate ?_) | (guard_target = XW' _ _ _ (Expr.Call (Expr.Name "zip" _) [_, _] [] _) _ _; refine xw_zip T.z_zip ?_) | (guard_target = XW' _ _ _ (Expr.Call (Expr.Name "reversed" _) [_] [] _) _ _; refine xw_rev T.z_reversed ?_) | (guard_target = XW' _ _ _ (Expr.Name _ _) _ _; refine xw_list ?_) | (guard_target = XP _ _ (some _) _ _; refine xp_some ?_) | (guard_target = XP _ _ none _ _; refine xp_none ?_) | (guard_target = XR _ _ (_ :: _) _ _; first | walk_at "xr" | refine xr_cons ?_) | (guard_target = XR _ _ [] _ _; refine xr_nil ?_) | (guard_target = Exists _; first | walk_at "b" | refine Exists.intro _ (And.intro rfl ?_) | refine Exists.intro _ (Exists.intro _ (And.intro rfl ?_)) | refine Exists.intro _ (Exists.intro _ (Exists.intro _ (And.intro rfl ?_))) | refine Exists.intro _ (Exists.intro _ (Exists.intro _ (Exists.intro _ (And.intro rfl (And.intro rfl (And.intro (by first | assumption | rfl) ?_))))))) | (guard_target = TyD "list" (D.lst _) ∧ _; refine And.intro (Or.inl (And.intro rfl (Exists.intro _ rfl))) ?_) | (guard_target = And _ _; first | walk_at "b" | refine And.intro (by walk_at "lez") ?_) | (guard_target = XM _ _ (L2.rCntI _) (D.lst (List.map D.int _)) [D.int _] _ _; refine xm_lcount ?_) | (guard_target = XDN kdT _ _ (_ :: _) _ _ _ _; apply xdnn; (focus walk_at "nrm0"); refine xdn_cons ?_) | (guard_target = XDN kdT _ _ [] _ _ _ _; refine xdn_nil ?_) | (guard_target = XDN1 kdT _ _ (Stmt.Assign _ _ _) _ _ _ _; refine xdn_lift fun F' => ?_) | (guard_target = XNL _ _ _ (_ :: _) _ _ _ _; apply xnln; (focus walk_at "nrm0"); refine xnl_cons ?_) | (guard_target = XNL _ _ _ [] _ _ _ _; refine xnl_nil ?_) | (guard_target = XNL1 _ _ _ (Stmt.Assign [Expr.Name _ _] _ _) _ _ _ _; refine xnl_lift fun F' => ?_) | (guard_target = XDN kdK _ _ (_ :: _) _ _ _ _; apply xdnn; (focus walk_at "nrm0"); refine xdn_cons ?_) | (guard_target = XDN kdK _ _ [] _ _ _ _; refine xdn_nil ?_) | (guard_target = XDN1 kdK _ _ (Stmt.Assign _ _ _) _ _ _ _; refine xdn_lift fun F' => ?_) | (guard_target = RCell _ _; refine RCell.mk (by omega) ?_) | (guard_target = RDraw _ _ _; refine RDraw.mk (by assumption) (by first | decide | omega) ?_) | (guard_target = RSolid _ _ _; refine RSolid.mk (by assumption) ?_) | (guard_target = RAny _ _ _; refine RAny.mk (by assumption) ?_) | ((fail_if_success guard_target = _ → _); dsimp only))
local macro_rules | `(tactic| walk_at "go") => `(tactic| repeat' walk_at "g1")
local macro_rules | `(tactic| walk_at "st") => `(tactic| (apply xssn; (focus walk_at "nrm0"); repeat' walk_at "g1"))
local macro_rules | `(tactic| walk_at "goif") => `(tactic| (apply xssn; (focus walk_at "nrm0"); refine xs_if ?_; repeat' walk_at "g1"))
local macro_rules | `(tactic| walk_at "cova") => `(tactic| (simp only [oIs, vIs, List.map_append, List.map_cons, List.map_nil, List.append_assoc, List.cons_append, List.nil_append]; walk_at "cov"))

local macro_rules | `(tactic| walk_at "call") => `(tactic| ((guard_target = XE _ _ (Expr.Call (Expr.Name "int" _) _ _ _) _ _); refine xe_callTy rfl T.z_int boot_int ?_))
local macro_rules | `(tactic| walk_at "call") => `(tactic| ((guard_target = XE _ _ (Expr.Name "int" _) _ _); refine xe_bty rfl T.z_int boot_int ?_))
local macro_rules | `(tactic| walk_at "call") => `(tactic| ((guard_target = XE _ _ (Expr.Call (Expr.Name "isinstance" _) _ _ _) _ _); refine xe_callB rfl T.z_isinstance boot_isinstance ?_))
local macro_rules | `(tactic| walk_at "call") => `(tactic| ((guard_target = XE _ _ (Expr.Call (Expr.Name "len" _) _ _ _) _ _); refine xe_callB rfl T.z_len PySem.boot_len ?_))
local macro_rules | `(tactic| walk_at "call") => `(tactic| ((guard_target = XE _ _ (Expr.Call (Expr.Name "list" _) _ _ _) _ _); refine xe_callTy rfl T.z_list boot_list ?_))
local macro_rules | `(tactic| walk_at "call") => `(tactic| ((guard_target = XE _ _ (Expr.Name "list" _) _ _); refine xe_bty rfl T.z_list boot_list ?_))
local macro_rules | `(tactic| walk_at "glob") => `(tactic| ((guard_target = XE _ _ (Expr.Name "BASE" _) _ _); refine xe_glob (by rfl) T.c_BASE (v := .int _) ⟨_, rfl⟩ (fun _ => .int _) ?_))
local macro_rules | `(tactic| walk_at "glob") => `(tactic| ((guard_target = XE _ _ (Expr.Name "FOUR" _) _ _); refine xe_glob (by rfl) T.c_FOUR (v := .int _) ⟨_, rfl⟩ (fun _ => .int _) ?_))
local macro_rules | `(tactic| walk_at "glob") => `(tactic| ((guard_target = XE _ _ (Expr.Name "SUM_FACTOR" _) _ _); refine xe_glob (by rfl) T.c_SUM_FACTOR (v := .int _) ⟨_, rfl⟩ (fun _ => .int _) ?_))
local macro_rules | `(tactic| walk_at "glob") => `(tactic| ((guard_target = XE _ _ (Expr.Name "SUM_LIMIT" _) _ _); refine xe_glob (by rfl) T.c_SUM_LIMIT (v := .int _) ⟨_, rfl⟩ (fun _ => .int _) ?_))
local macro_rules | `(tactic| walk_at "glob") => `(tactic| ((guard_target = XE _ _ (Expr.Name "SUM_START" _) _ _); refine xe_glob (by rfl) T.c_SUM_START (v := .int _) ⟨_, rfl⟩ (fun _ => .int _) ?_))
theorem okI_InvalidBytes (T : Tx K mg) : FnOk P w K mg base CX0 1 T.f_InvalidBytes_init__ T.d_InvalidBytes_init__ ["self", "at"] (SpI K T.C_InvalidBytes ["at"]) := by
  refine T.F_InvalidBytes_init__.ok sc_InvalidBytes_init__ (fun vs H Q E h => by obtain ⟨a, ws, rfl, hl, _⟩ := h; simpa using hl) (fun cdv A outer s H vs Q E hr h => ?_)
  obtain ⟨a, ws, rfl, hl, ha, q⟩ := h
  match ws, hl with
  | [v], _ =>
    refine ⟨_, pss_one (ps_ost (pv 0) (pv 1) rfl), ?_⟩
    exact ⟨_, rfl, _, rfl, a, T.C_InvalidBytes, rfl, T.oex_InvalidBytes, T.no_InvalidBytes_at, .inl ⟨ha, fun dx nd na => q dx _ nd na upd_same (by rw [upd_ne na, upd_same]; rfl) (fun b hb hd => by rw [upd_ne hb, upd_ne hd])⟩⟩
local macro_rules | `(tactic| walk_at "sx") => `(tactic| ((guard_target = XS _ _ (Stmt.Raise (some (Expr.Call (Expr.Name "InvalidBytes" _) _ _ _)) none _) _ _); refine xs_raise T.oex_InvalidBytes T.i_InvalidBytes T.t_InvalidBytes_init__ (okI_InvalidBytes T) (hr.mono (by decide)) T.b_InvalidBytes_init__ T.g_InvalidBytes tk ?_))
section
local macro_rules | `(tactic| walk_at "n") => `(tactic| first | (guard_target = XE _ _ (Expr.Name "script" _) _ _; first | refine xe_n 0 rfl ?_ | refine xe_nf 0 rfl ?_) | (guard_target = XE _ _ (Expr.Name "k" _) _ _; first | refine xe_n 1 rfl ?_ | refine xe_nf 1 rfl ?_))
local macro_rules | `(tactic| walk_at "set") => `(tactic| first | (guard_target = XS _ _ (Stmt.Assign [Expr.Name "script" _] _ _) _ _; refine xs_set 0 nd ?_) | (guard_target = XS _ _ (Stmt.Assign [Expr.Name "k" _] _ _) _ _; refine xs_set 1 nd ?_))
local macro_rules | `(tactic| walk_at "own") => `(tactic| first | (guard_target = XS _ _ (Stmt.Assign [Expr.Name "script" _] _ _) _ _; refine xs_own 0 nd ?_) | (guard_target = XS _ _ (Stmt.Assign [Expr.Name "k" _] _ _) _ _; refine xs_own 1 nd ?_))
local macro_rules | `(tactic| walk_at "app") => `(tactic| first | (guard_target = XS _ _ (Stmt.Expr (Expr.Call (Expr.Attribute (Expr.Name "script" _) _ _) _ _ _) _) _ _; refine xs_app 0 ⟨_, _, rfl⟩ ?_) | (guard_target = XS _ _ (Stmt.Expr (Expr.Call (Expr.Attribute (Expr.Name "k" _) _ _) _ _ _) _) _ _; refine xs_app 1 ⟨_, _, rfl⟩ ?_))
local macro_rules | `(tactic| walk_at "aug") => `(tactic| first | (guard_target = XS _ _ (Stmt.AugAssign (Expr.Name "script" _) _ _ _) _ _; refine xs_aug 0 nd rfl ?_) | (guard_target = XS _ _ (Stmt.AugAssign (Expr.Name "k" _) _ _ _) _ _; refine xs_aug 1 nd rfl ?_))
local macro_rules | `(tactic| walk_at "gn") => `(tactic| first | (guard_target = XG _ _ (Expr.Name "script" _) _ _ _ _; refine xg_n 0 nd ?_) | (guard_target = XG _ _ (Expr.Name "k" _) _ _ _ _; refine xg_n 1 nd ?_))
local macro_rules | `(tactic| walk_at "leno") => `(tactic| first | (guard_target = XE _ _ (Expr.Call (Expr.Name "len" _) [Expr.Name "script" _] [] _) _ _; refine xe_leno 0 rfl T.z_len ?_) | (guard_target = XE _ _ (Expr.Call (Expr.Name "len" _) [Expr.Name "k" _] [] _) _ _; refine xe_leno 1 rfl T.z_len ?_))
local macro_rules | `(tactic| walk_at "ixo") => `(tactic| first | (guard_target = XE _ _ (Expr.Subscript (Expr.Name "script" _) _ _) _ _; first | refine xe_ixoL 0 ⟨_, _, rfl⟩ ?_ | refine xe_dget 0 hu ⟨_, .ow rfl, .inl ⟨_, rfl⟩⟩ ?_ | refine xe_dget 0 hu ⟨_, .ow rfl, .inr ⟨_, rfl⟩⟩ ?_ | refine xe_dget 0 hu ⟨_, .va rfl, .inl ⟨_, rfl⟩⟩ ?_ | refine xe_dget 0 hu ⟨_, .va rfl, .inr ⟨_, rfl⟩⟩ ?_) | (guard_target = XE _ _ (Expr.Subscript (Expr.Name "k" _) _ _) _ _; first | refine xe_ixoL 1 ⟨_, _, rfl⟩ ?_ | refine xe_dget 1 hu ⟨_, .ow rfl, .inl ⟨_, rfl⟩⟩ ?_ | refine xe_dget 1 hu ⟨_, .ow rfl, .inr ⟨_, rfl⟩⟩ ?_ | refine xe_dget 1 hu ⟨_, .va rfl, .inl ⟨_, rfl⟩⟩ ?_ | refine xe_dget 1 hu ⟨_, .va rfl, .inr ⟨_, rfl⟩⟩ ?_))
local macro_rules | `(tactic| walk_at "sub") => `(tactic| first | (guard_target = XS _ _ (Stmt.Assign [Expr.Subscript (Expr.Name "script" _) _ _] _ _) _ _; first | refine xs_subL 0 ⟨_, _, rfl⟩ ?_ | refine xs_dput 0 hu ⟨_, _, rfl⟩ ?_) | (guard_target = XS _ _ (Stmt.Assign [Expr.Subscript (Expr.Name "k" _) _ _] _ _) _ _; first | refine xs_subL 1 ⟨_, _, rfl⟩ ?_ | refine xs_dput 1 hu ⟨_, _, rfl⟩ ?_))
local macro_rules | `(tactic| walk_at "tino") => `(tactic| first | (guard_target = XT _ _ (Expr.Compare _ _ [Expr.Name "script" _] _) _ _; first | refine xt_inoL 0 ⟨_, _, rfl⟩ ?_ | refine xt_din 0 hu ⟨_, .ow rfl, .inl ⟨_, rfl⟩⟩ ?_ | refine xt_din 0 hu ⟨_, .ow rfl, .inr ⟨_, rfl⟩⟩ ?_ | refine xt_din 0 hu ⟨_, .va rfl, .inl ⟨_, rfl⟩⟩ ?_ | refine xt_din 0 hu ⟨_, .va rfl, .inr ⟨_, rfl⟩⟩ ?_) | (guard_target = XT _ _ (Expr.Compare _ _ [Expr.Name "k" _] _) _ _; first | refine xt_inoL 1 ⟨_, _, rfl⟩ ?_ | refine xt_din 1 hu ⟨_, .ow rfl, .inl ⟨_, rfl⟩⟩ ?_ | refine xt_din 1 hu ⟨_, .ow rfl, .inr ⟨_, rfl⟩⟩ ?_ | refine xt_din 1 hu ⟨_, .va rfl, .inl ⟨_, rfl⟩⟩ ?_ | refine xt_din 1 hu ⟨_, .va rfl, .inr ⟨_, rfl⟩⟩ ?_))
local macro_rules | `(tactic| walk_at "tnio") => `(tactic| first | (guard_target = XT _ _ (Expr.Compare _ _ [Expr.Name "script" _] _) _ _; first | refine xt_nioL 0 ⟨_, _, rfl⟩ ?_ | refine xt_dni 0 hu ⟨_, .ow rfl, .inl ⟨_, rfl⟩⟩ ?_ | refine xt_dni 0 hu ⟨_, .ow rfl, .inr ⟨_, rfl⟩⟩ ?_ | refine xt_dni 0 hu ⟨_, .va rfl, .inl ⟨_, rfl⟩⟩ ?_ | refine xt_dni 0 hu ⟨_, .va rfl, .inr ⟨_, rfl⟩⟩ ?_) | (guard_target = XT _ _ (Expr.Compare _ _ [Expr.Name "k" _] _) _ _; first | refine xt_nioL 1 ⟨_, _, rfl⟩ ?_ | refine xt_dni 1 hu ⟨_, .ow rfl, .inl ⟨_, rfl⟩⟩ ?_ | refine xt_dni 1 hu ⟨_, .ow rfl, .inr ⟨_, rfl⟩⟩ ?_ | refine xt_dni 1 hu ⟨_, .va rfl, .inl ⟨_, rfl⟩⟩ ?_ | refine xt_dni 1 hu ⟨_, .va rfl, .inr ⟨_, rfl⟩⟩ ?_))
local macro_rules | `(tactic| walk_at "tru") => `(tactic| first | (guard_target = XT _ _ (Expr.Name "script" _) _ _; refine xt_truO 0 rfl ?_) | (guard_target = XT _ _ (Expr.Name "k" _) _ _; refine xt_truO 1 rfl ?_))
local macro_rules | `(tactic| walk_at "ldt") => `(tactic| first | (guard_target = XE _ _ (Expr.Call (Expr.Name "list" _) [Expr.Name "script" _] [] _) _ _; first | refine xe_listOw 0 rfl T.z_list ?_ | refine xe_listDT 0 rfl T.z_list ?_) | (guard_target = XE _ _ (Expr.Call (Expr.Name "list" _) [Expr.Name "k" _] [] _) _ _; first | refine xe_listOw 1 rfl T.z_list ?_ | refine xe_listDT 1 rfl T.z_list ?_))
local macro_rules | `(tactic| walk_at "xr") => `(tactic| first | (guard_target = XR _ _ (Expr.Name "script" _ :: _) _ _; refine xr_own 0 ⟨_, _, rfl⟩ ?_) | (guard_target = XR _ _ (Expr.Name "k" _ :: _) _ _; refine xr_own 1 ⟨_, _, rfl⟩ ?_))
local macro_rules | `(tactic| walk_at "fld") => `(tactic| first | (guard_target = XE _ _ (Expr.Attribute (Expr.Name "script" _) "data" _) _ _; refine xe_fldo 0 T.cl_ByteReader T.na_ByteReader_data rfl rfl ?_) | (guard_target = XE _ _ (Expr.Attribute (Expr.Name "k" _) "data" _) _ _; refine xe_fldo 1 T.cl_ByteReader T.na_ByteReader_data rfl rfl ?_))
local macro_rules | `(tactic| walk_at "sx") => `(tactic| first | (guard_target = XS _ _ (Stmt.Assign [Expr.Attribute (Expr.Name "script" _) "data" _] _ _) _ _; refine xs_flds 0 T.cl_ByteReader T.na_ByteReader_data ⟨_, _, rfl⟩ ?_) | (guard_target = XS _ _ (Stmt.Assign [Expr.Attribute (Expr.Name "k" _) "data" _] _ _) _ _; refine xs_flds 1 T.cl_ByteReader T.na_ByteReader_data ⟨_, _, rfl⟩ ?_))
local macro_rules | `(tactic| walk_at "sx") => `(tactic| first | (guard_target = XS _ _ (Stmt.AugAssign (Expr.Attribute (Expr.Name "script" _) "data" _) .Add _ _) _ _; refine xs_flda 0 T.cl_ByteReader T.na_ByteReader_data rfl rfl ?_) | (guard_target = XS _ _ (Stmt.AugAssign (Expr.Attribute (Expr.Name "k" _) "data" _) .Add _ _) _ _; refine xs_flda 1 T.cl_ByteReader T.na_ByteReader_data rfl rfl ?_))
local macro_rules | `(tactic| walk_at "fld") => `(tactic| first | (guard_target = XE _ _ (Expr.Attribute (Expr.Name "script" _) "at" _) _ _; refine xe_fldo 0 T.cl_ByteReader T.na_ByteReader_at rfl rfl ?_) | (guard_target = XE _ _ (Expr.Attribute (Expr.Name "k" _) "at" _) _ _; refine xe_fldo 1 T.cl_ByteReader T.na_ByteReader_at rfl rfl ?_))
local macro_rules | `(tactic| walk_at "sx") => `(tactic| first | (guard_target = XS _ _ (Stmt.Assign [Expr.Attribute (Expr.Name "script" _) "at" _] _ _) _ _; refine xs_flds 0 T.cl_ByteReader T.na_ByteReader_at ⟨_, _, rfl⟩ ?_) | (guard_target = XS _ _ (Stmt.Assign [Expr.Attribute (Expr.Name "k" _) "at" _] _ _) _ _; refine xs_flds 1 T.cl_ByteReader T.na_ByteReader_at ⟨_, _, rfl⟩ ?_))
local macro_rules | `(tactic| walk_at "sx") => `(tactic| first | (guard_target = XS _ _ (Stmt.AugAssign (Expr.Attribute (Expr.Name "script" _) "at" _) .Add _ _) _ _; refine xs_flda 0 T.cl_ByteReader T.na_ByteReader_at rfl rfl ?_) | (guard_target = XS _ _ (Stmt.AugAssign (Expr.Attribute (Expr.Name "k" _) "at" _) .Add _ _) _ _; refine xs_flda 1 T.cl_ByteReader T.na_ByteReader_at rfl rfl ?_))
local macro_rules | `(tactic| walk_at "ext") => `(tactic| first | (guard_target = XS _ _ (Stmt.Expr (Expr.Call (Expr.Attribute (Expr.Name "script" _) "extend" _) _ _ _) _) _ _; refine xs_ext 0 ⟨_, _, rfl⟩ ?_) | (guard_target = XS _ _ (Stmt.Expr (Expr.Call (Expr.Attribute (Expr.Name "k" _) "extend" _) _ _ _) _) _ _; refine xs_ext 1 ⟨_, _, rfl⟩ ?_))
theorem ok_law_cell (T : Tx K mg) : FnOk P w K mg base CX0 1 T.f_law_cell T.d_law_cell ["script", "k"] (SpD K RCell) := by
  refine fn_okD T.F_law_cell sc_law_cell (fun ds Φ h => by obtain ⟨_, _, rfl, _⟩ := h; rfl) (fun cdv A outer s H E F hr ds Φ h => ?_)
  obtain ⟨ns, k, rfl, hk0, q⟩ := h
  refine xss <| xs_if <| xt_cmp <| xe_n 1 rfl <| xe_callB rfl T.z_len PySem.boot_len <| xa_cons <| xe_n 0 rfl <| xa_nil <| xc_len_scr <| xo_lt ⟨_, rfl, fun h => ?_, fun h => ?_⟩
  · have hk : k < ns.length := of_decide_eq_true h
    obtain ⟨v, hv, _⟩ := atI_in (xs := ns) (n := k) (by omega) hk
    exact xss <| xs_ret <| xe_ix <| xe_n 0 rfl <| xe_n 1 rfl <| xi_scr hv <| q _
  · exact xss_nil <| xss <| xs_ret <| xe_int <| q _
end
local macro_rules | `(tactic| walk_at "call") => `(tactic| ((guard_target = XE _ _ (Expr.Call (Expr.Name "_law_cell" _) _ _ _) _ _); refine xe_callx (ok_law_cell T) hr.in1' T.m_law_cell T.F_law_cell.kp T.b_law_cell ?_))
section
local macro_rules | `(tactic| walk_at "n") => `(tactic| first | (guard_target = XE _ _ (Expr.Name "cell" _) _ _; first | refine xe_n 0 rfl ?_ | refine xe_nf 0 rfl ?_) | (guard_target = XE _ _ (Expr.Name "k" _) _ _; first | refine xe_n 1 rfl ?_ | refine xe_nf 1 rfl ?_) | (guard_target = XE _ _ (Expr.Name "most" _) _ _; first | refine xe_n 2 rfl ?_ | refine xe_nf 2 rfl ?_) | (guard_target = XE _ _ (Expr.Name "digits" _) _ _; first | refine xe_n 3 rfl ?_ | refine xe_nf 3 rfl ?_) | (guard_target = XE _ _ (Expr.Name "turn" _) _ _; first | refine xe_n 4 rfl ?_ | refine xe_nf 4 rfl ?_) | (guard_target = XE _ _ (Expr.Name "seed" _) _ _; first | refine xe_n 5 rfl ?_ | refine xe_nf 5 rfl ?_))
local macro_rules | `(tactic| walk_at "set") => `(tactic| first | (guard_target = XS _ _ (Stmt.Assign [Expr.Name "cell" _] _ _) _ _; refine xs_set 0 nd ?_) | (guard_target = XS _ _ (Stmt.Assign [Expr.Name "k" _] _ _) _ _; refine xs_set 1 nd ?_) | (guard_target = XS _ _ (Stmt.Assign [Expr.Name "most" _] _ _) _ _; refine xs_set 2 nd ?_) | (guard_target = XS _ _ (Stmt.Assign [Expr.Name "digits" _] _ _) _ _; refine xs_set 3 nd ?_) | (guard_target = XS _ _ (Stmt.Assign [Expr.Name "turn" _] _ _) _ _; refine xs_set 4 nd ?_) | (guard_target = XS _ _ (Stmt.Assign [Expr.Name "seed" _] _ _) _ _; refine xs_set 5 nd ?_))
local macro_rules | `(tactic| walk_at "own") => `(tactic| first | (guard_target = XS _ _ (Stmt.Assign [Expr.Name "cell" _] _ _) _ _; refine xs_own 0 nd ?_) | (guard_target = XS _ _ (Stmt.Assign [Expr.Name "k" _] _ _) _ _; refine xs_own 1 nd ?_) | (guard_target = XS _ _ (Stmt.Assign [Expr.Name "most" _] _ _) _ _; refine xs_own 2 nd ?_) | (guard_target = XS _ _ (Stmt.Assign [Expr.Name "digits" _] _ _) _ _; refine xs_own 3 nd ?_) | (guard_target = XS _ _ (Stmt.Assign [Expr.Name "turn" _] _ _) _ _; refine xs_own 4 nd ?_) | (guard_target = XS _ _ (Stmt.Assign [Expr.Name "seed" _] _ _) _ _; refine xs_own 5 nd ?_))
local macro_rules | `(tactic| walk_at "app") => `(tactic| first | (guard_target = XS _ _ (Stmt.Expr (Expr.Call (Expr.Attribute (Expr.Name "cell" _) _ _) _ _ _) _) _ _; refine xs_app 0 ⟨_, _, rfl⟩ ?_) | (guard_target = XS _ _ (Stmt.Expr (Expr.Call (Expr.Attribute (Expr.Name "k" _) _ _) _ _ _) _) _ _; refine xs_app 1 ⟨_, _, rfl⟩ ?_) | (guard_target = XS _ _ (Stmt.Expr (Expr.Call (Expr.Attribute (Expr.Name "most" _) _ _) _ _ _) _) _ _; refine xs_app 2 ⟨_, _, rfl⟩ ?_) | (guard_target = XS _ _ (Stmt.Expr (Expr.Call (Expr.Attribute (Expr.Name "digits" _) _ _) _ _ _) _) _ _; refine xs_app 3 ⟨_, _, rfl⟩ ?_) | (guard_target = XS _ _ (Stmt.Expr (Expr.Call (Expr.Attribute (Expr.Name "turn" _) _ _) _ _ _) _) _ _; refine xs_app 4 ⟨_, _, rfl⟩ ?_) | (guard_target = XS _ _ (Stmt.Expr (Expr.Call (Expr.Attribute (Expr.Name "seed" _) _ _) _ _ _) _) _ _; refine xs_app 5 ⟨_, _, rfl⟩ ?_))
local macro_rules | `(tactic| walk_at "aug") => `(tactic| first | (guard_target = XS _ _ (Stmt.AugAssign (Expr.Name "cell" _) _ _ _) _ _; refine xs_aug 0 nd rfl ?_) | (guard_target = XS _ _ (Stmt.AugAssign (Expr.Name "k" _) _ _ _) _ _; refine xs_aug 1 nd rfl ?_) | (guard_target = XS _ _ (Stmt.AugAssign (Expr.Name "most" _) _ _ _) _ _; refine xs_aug 2 nd rfl ?_) | (guard_target = XS _ _ (Stmt.AugAssign (Expr.Name "digits" _) _ _ _) _ _; refine xs_aug 3 nd rfl ?_) | (guard_target = XS _ _ (Stmt.AugAssign (Expr.Name "turn" _) _ _ _) _ _; refine xs_aug 4 nd rfl ?_) | (guard_target = XS _ _ (Stmt.AugAssign (Expr.Name "seed" _) _ _ _) _ _; refine xs_aug 5 nd rfl ?_))
local macro_rules | `(tactic| walk_at "gn") => `(tactic| first | (guard_target = XG _ _ (Expr.Name "cell" _) _ _ _ _; refine xg_n 0 nd ?_) | (guard_target = XG _ _ (Expr.Name "k" _) _ _ _ _; refine xg_n 1 nd ?_) | (guard_target = XG _ _ (Expr.Name "most" _) _ _ _ _; refine xg_n 2 nd ?_) | (guard_target = XG _ _ (Expr.Name "digits" _) _ _ _ _; refine xg_n 3 nd ?_) | (guard_target = XG _ _ (Expr.Name "turn" _) _ _ _ _; refine xg_n 4 nd ?_) | (guard_target = XG _ _ (Expr.Name "seed" _) _ _ _ _; refine xg_n 5 nd ?_))
local macro_rules | `(tactic| walk_at "leno") => `(tactic| first | (guard_target = XE _ _ (Expr.Call (Expr.Name "len" _) [Expr.Name "cell" _] [] _) _ _; refine xe_leno 0 rfl T.z_len ?_) | (guard_target = XE _ _ (Expr.Call (Expr.Name "len" _) [Expr.Name "k" _] [] _) _ _; refine xe_leno 1 rfl T.z_len ?_) | (guard_target = XE _ _ (Expr.Call (Expr.Name "len" _) [Expr.Name "most" _] [] _) _ _; refine xe_leno 2 rfl T.z_len ?_) | (guard_target = XE _ _ (Expr.Call (Expr.Name "len" _) [Expr.Name "digits" _] [] _) _ _; refine xe_leno 3 rfl T.z_len ?_) | (guard_target = XE _ _ (Expr.Call (Expr.Name "len" _) [Expr.Name "turn" _] [] _) _ _; refine xe_leno 4 rfl T.z_len ?_) | (guard_target = XE _ _ (Expr.Call (Expr.Name "len" _) [Expr.Name "seed" _] [] _) _ _; refine xe_leno 5 rfl T.z_len ?_))
local macro_rules | `(tactic| walk_at "ixo") => `(tactic| first | (guard_target = XE _ _ (Expr.Subscript (Expr.Name "cell" _) _ _) _ _; first | refine xe_ixoL 0 ⟨_, _, rfl⟩ ?_ | refine xe_dget 0 hu ⟨_, .ow rfl, .inl ⟨_, rfl⟩⟩ ?_ | refine xe_dget 0 hu ⟨_, .ow rfl, .inr ⟨_, rfl⟩⟩ ?_ | refine xe_dget 0 hu ⟨_, .va rfl, .inl ⟨_, rfl⟩⟩ ?_ | refine xe_dget 0 hu ⟨_, .va rfl, .inr ⟨_, rfl⟩⟩ ?_) | (guard_target = XE _ _ (Expr.Subscript (Expr.Name "k" _) _ _) _ _; first | refine xe_ixoL 1 ⟨_, _, rfl⟩ ?_ | refine xe_dget 1 hu ⟨_, .ow rfl, .inl ⟨_, rfl⟩⟩ ?_ | refine xe_dget 1 hu ⟨_, .ow rfl, .inr ⟨_, rfl⟩⟩ ?_ | refine xe_dget 1 hu ⟨_, .va rfl, .inl ⟨_, rfl⟩⟩ ?_ | refine xe_dget 1 hu ⟨_, .va rfl, .inr ⟨_, rfl⟩⟩ ?_) | (guard_target = XE _ _ (Expr.Subscript (Expr.Name "most" _) _ _) _ _; first | refine xe_ixoL 2 ⟨_, _, rfl⟩ ?_ | refine xe_dget 2 hu ⟨_, .ow rfl, .inl ⟨_, rfl⟩⟩ ?_ | refine xe_dget 2 hu ⟨_, .ow rfl, .inr ⟨_, rfl⟩⟩ ?_ | refine xe_dget 2 hu ⟨_, .va rfl, .inl ⟨_, rfl⟩⟩ ?_ | refine xe_dget 2 hu ⟨_, .va rfl, .inr ⟨_, rfl⟩⟩ ?_) | (guard_target = XE _ _ (Expr.Subscript (Expr.Name "digits" _) _ _) _ _; first | refine xe_ixoL 3 ⟨_, _, rfl⟩ ?_ | refine xe_dget 3 hu ⟨_, .ow rfl, .inl ⟨_, rfl⟩⟩ ?_ | refine xe_dget 3 hu ⟨_, .ow rfl, .inr ⟨_, rfl⟩⟩ ?_ | refine xe_dget 3 hu ⟨_, .va rfl, .inl ⟨_, rfl⟩⟩ ?_ | refine xe_dget 3 hu ⟨_, .va rfl, .inr ⟨_, rfl⟩⟩ ?_) | (guard_target = XE _ _ (Expr.Subscript (Expr.Name "turn" _) _ _) _ _; first | refine xe_ixoL 4 ⟨_, _, rfl⟩ ?_ | refine xe_dget 4 hu ⟨_, .ow rfl, .inl ⟨_, rfl⟩⟩ ?_ | refine xe_dget 4 hu ⟨_, .ow rfl, .inr ⟨_, rfl⟩⟩ ?_ | refine xe_dget 4 hu ⟨_, .va rfl, .inl ⟨_, rfl⟩⟩ ?_ | refine xe_dget 4 hu ⟨_, .va rfl, .inr ⟨_, rfl⟩⟩ ?_) | (guard_target = XE _ _ (Expr.Subscript (Expr.Name "seed" _) _ _) _ _; first | refine xe_ixoL 5 ⟨_, _, rfl⟩ ?_ | refine xe_dget 5 hu ⟨_, .ow rfl, .inl ⟨_, rfl⟩⟩ ?_ | refine xe_dget 5 hu ⟨_, .ow rfl, .inr ⟨_, rfl⟩⟩ ?_ | refine xe_dget 5 hu ⟨_, .va rfl, .inl ⟨_, rfl⟩⟩ ?_ | refine xe_dget 5 hu ⟨_, .va rfl, .inr ⟨_, rfl⟩⟩ ?_))
local macro_rules | `(tactic| walk_at "sub") => `(tactic| first | (guard_target = XS _ _ (Stmt.Assign [Expr.Subscript (Expr.Name "cell" _) _ _] _ _) _ _; first | refine xs_subL 0 ⟨_, _, rfl⟩ ?_ | refine xs_dput 0 hu ⟨_, _, rfl⟩ ?_) | (guard_target = XS _ _ (Stmt.Assign [Expr.Subscript (Expr.Name "k" _) _ _] _ _) _ _; first | refine xs_subL 1 ⟨_, _, rfl⟩ ?_ | refine xs_dput 1 hu ⟨_, _, rfl⟩ ?_) | (guard_target = XS _ _ (Stmt.Assign [Expr.Subscript (Expr.Name "most" _) _ _] _ _) _ _; first | refine xs_subL 2 ⟨_, _, rfl⟩ ?_ | refine xs_dput 2 hu ⟨_, _, rfl⟩ ?_) | (guard_target = XS _ _ (Stmt.Assign [Expr.Subscript (Expr.Name "digits" _) _ _] _ _) _ _; first | refine xs_subL 3 ⟨_, _, rfl⟩ ?_ | refine xs_dput 3 hu ⟨_, _, rfl⟩ ?_) | (guard_target = XS _ _ (Stmt.Assign [Expr.Subscript (Expr.Name "turn" _) _ _] _ _) _ _; first | refine xs_subL 4 ⟨_, _, rfl⟩ ?_ | refine xs_dput 4 hu ⟨_, _, rfl⟩ ?_) | (guard_target = XS _ _ (Stmt.Assign [Expr.Subscript (Expr.Name "seed" _) _ _] _ _) _ _; first | refine xs_subL 5 ⟨_, _, rfl⟩ ?_ | refine xs_dput 5 hu ⟨_, _, rfl⟩ ?_))
local macro_rules | `(tactic| walk_at "tino") => `(tactic| first | (guard_target = XT _ _ (Expr.Compare _ _ [Expr.Name "cell" _] _) _ _; first | refine xt_inoL 0 ⟨_, _, rfl⟩ ?_ | refine xt_din 0 hu ⟨_, .ow rfl, .inl ⟨_, rfl⟩⟩ ?_ | refine xt_din 0 hu ⟨_, .ow rfl, .inr ⟨_, rfl⟩⟩ ?_ | refine xt_din 0 hu ⟨_, .va rfl, .inl ⟨_, rfl⟩⟩ ?_ | refine xt_din 0 hu ⟨_, .va rfl, .inr ⟨_, rfl⟩⟩ ?_) | (guard_target = XT _ _ (Expr.Compare _ _ [Expr.Name "k" _] _) _ _; first | refine xt_inoL 1 ⟨_, _, rfl⟩ ?_ | refine xt_din 1 hu ⟨_, .ow rfl, .inl ⟨_, rfl⟩⟩ ?_ | refine xt_din 1 hu ⟨_, .ow rfl, .inr ⟨_, rfl⟩⟩ ?_ | refine xt_din 1 hu ⟨_, .va rfl, .inl ⟨_, rfl⟩⟩ ?_ | refine xt_din 1 hu ⟨_, .va rfl, .inr ⟨_, rfl⟩⟩ ?_) | (guard_target = XT _ _ (Expr.Compare _ _ [Expr.Name "most" _] _) _ _; first | refine xt_inoL 2 ⟨_, _, rfl⟩ ?_ | refine xt_din 2 hu ⟨_, .ow rfl, .inl ⟨_, rfl⟩⟩ ?_ | refine xt_din 2 hu ⟨_, .ow rfl, .inr ⟨_, rfl⟩⟩ ?_ | refine xt_din 2 hu ⟨_, .va rfl, .inl ⟨_, rfl⟩⟩ ?_ | refine xt_din 2 hu ⟨_, .va rfl, .inr ⟨_, rfl⟩⟩ ?_) | (guard_target = XT _ _ (Expr.Compare _ _ [Expr.Name "digits" _] _) _ _; first | refine xt_inoL 3 ⟨_, _, rfl⟩ ?_ | refine xt_din 3 hu ⟨_, .ow rfl, .inl ⟨_, rfl⟩⟩ ?_ | refine xt_din 3 hu ⟨_, .ow rfl, .inr ⟨_, rfl⟩⟩ ?_ | refine xt_din 3 hu ⟨_, .va rfl, .inl ⟨_, rfl⟩⟩ ?_ | refine xt_din 3 hu ⟨_, .va rfl, .inr ⟨_, rfl⟩⟩ ?_) | (guard_target = XT _ _ (Expr.Compare _ _ [Expr.Name "turn" _] _) _ _; first | refine xt_inoL 4 ⟨_, _, rfl⟩ ?_ | refine xt_din 4 hu ⟨_, .ow rfl, .inl ⟨_, rfl⟩⟩ ?_ | refine xt_din 4 hu ⟨_, .ow rfl, .inr ⟨_, rfl⟩⟩ ?_ | refine xt_din 4 hu ⟨_, .va rfl, .inl ⟨_, rfl⟩⟩ ?_ | refine xt_din 4 hu ⟨_, .va rfl, .inr ⟨_, rfl⟩⟩ ?_) | (guard_target = XT _ _ (Expr.Compare _ _ [Expr.Name "seed" _] _) _ _; first | refine xt_inoL 5 ⟨_, _, rfl⟩ ?_ | refine xt_din 5 hu ⟨_, .ow rfl, .inl ⟨_, rfl⟩⟩ ?_ | refine xt_din 5 hu ⟨_, .ow rfl, .inr ⟨_, rfl⟩⟩ ?_ | refine xt_din 5 hu ⟨_, .va rfl, .inl ⟨_, rfl⟩⟩ ?_ | refine xt_din 5 hu ⟨_, .va rfl, .inr ⟨_, rfl⟩⟩ ?_))
local macro_rules | `(tactic| walk_at "tnio") => `(tactic| first | (guard_target = XT _ _ (Expr.Compare _ _ [Expr.Name "cell" _] _) _ _; first | refine xt_nioL 0 ⟨_, _, rfl⟩ ?_ | refine xt_dni 0 hu ⟨_, .ow rfl, .inl ⟨_, rfl⟩⟩ ?_ | refine xt_dni 0 hu ⟨_, .ow rfl, .inr ⟨_, rfl⟩⟩ ?_ | refine xt_dni 0 hu ⟨_, .va rfl, .inl ⟨_, rfl⟩⟩ ?_ | refine xt_dni 0 hu ⟨_, .va rfl, .inr ⟨_, rfl⟩⟩ ?_) | (guard_target = XT _ _ (Expr.Compare _ _ [Expr.Name "k" _] _) _ _; first | refine xt_nioL 1 ⟨_, _, rfl⟩ ?_ | refine xt_dni 1 hu ⟨_, .ow rfl, .inl ⟨_, rfl⟩⟩ ?_ | refine xt_dni 1 hu ⟨_, .ow rfl, .inr ⟨_, rfl⟩⟩ ?_ | refine xt_dni 1 hu ⟨_, .va rfl, .inl ⟨_, rfl⟩⟩ ?_ | refine xt_dni 1 hu ⟨_, .va rfl, .inr ⟨_, rfl⟩⟩ ?_) | (guard_target = XT _ _ (Expr.Compare _ _ [Expr.Name "most" _] _) _ _; first | refine xt_nioL 2 ⟨_, _, rfl⟩ ?_ | refine xt_dni 2 hu ⟨_, .ow rfl, .inl ⟨_, rfl⟩⟩ ?_ | refine xt_dni 2 hu ⟨_, .ow rfl, .inr ⟨_, rfl⟩⟩ ?_ | refine xt_dni 2 hu ⟨_, .va rfl, .inl ⟨_, rfl⟩⟩ ?_ | refine xt_dni 2 hu ⟨_, .va rfl, .inr ⟨_, rfl⟩⟩ ?_) | (guard_target = XT _ _ (Expr.Compare _ _ [Expr.Name "digits" _] _) _ _; first | refine xt_nioL 3 ⟨_, _, rfl⟩ ?_ | refine xt_dni 3 hu ⟨_, .ow rfl, .inl ⟨_, rfl⟩⟩ ?_ | refine xt_dni 3 hu ⟨_, .ow rfl, .inr ⟨_, rfl⟩⟩ ?_ | refine xt_dni 3 hu ⟨_, .va rfl, .inl ⟨_, rfl⟩⟩ ?_ | refine xt_dni 3 hu ⟨_, .va rfl, .inr ⟨_, rfl⟩⟩ ?_) | (guard_target = XT _ _ (Expr.Compare _ _ [Expr.Name "turn" _] _) _ _; first | refine xt_nioL 4 ⟨_, _, rfl⟩ ?_ | refine xt_dni 4 hu ⟨_, .ow rfl, .inl ⟨_, rfl⟩⟩ ?_ | refine xt_dni 4 hu ⟨_, .ow rfl, .inr ⟨_, rfl⟩⟩ ?_ | refine xt_dni 4 hu ⟨_, .va rfl, .inl ⟨_, rfl⟩⟩ ?_ | refine xt_dni 4 hu ⟨_, .va rfl, .inr ⟨_, rfl⟩⟩ ?_) | (guard_target = XT _ _ (Expr.Compare _ _ [Expr.Name "seed" _] _) _ _; first | refine xt_nioL 5 ⟨_, _, rfl⟩ ?_ | refine xt_dni 5 hu ⟨_, .ow rfl, .inl ⟨_, rfl⟩⟩ ?_ | refine xt_dni 5 hu ⟨_, .ow rfl, .inr ⟨_, rfl⟩⟩ ?_ | refine xt_dni 5 hu ⟨_, .va rfl, .inl ⟨_, rfl⟩⟩ ?_ | refine xt_dni 5 hu ⟨_, .va rfl, .inr ⟨_, rfl⟩⟩ ?_))
local macro_rules | `(tactic| walk_at "tru") => `(tactic| first | (guard_target = XT _ _ (Expr.Name "cell" _) _ _; refine xt_truO 0 rfl ?_) | (guard_target = XT _ _ (Expr.Name "k" _) _ _; refine xt_truO 1 rfl ?_) | (guard_target = XT _ _ (Expr.Name "most" _) _ _; refine xt_truO 2 rfl ?_) | (guard_target = XT _ _ (Expr.Name "digits" _) _ _; refine xt_truO 3 rfl ?_) | (guard_target = XT _ _ (Expr.Name "turn" _) _ _; refine xt_truO 4 rfl ?_) | (guard_target = XT _ _ (Expr.Name "seed" _) _ _; refine xt_truO 5 rfl ?_))
local macro_rules | `(tactic| walk_at "ldt") => `(tactic| first | (guard_target = XE _ _ (Expr.Call (Expr.Name "list" _) [Expr.Name "cell" _] [] _) _ _; first | refine xe_listOw 0 rfl T.z_list ?_ | refine xe_listDT 0 rfl T.z_list ?_) | (guard_target = XE _ _ (Expr.Call (Expr.Name "list" _) [Expr.Name "k" _] [] _) _ _; first | refine xe_listOw 1 rfl T.z_list ?_ | refine xe_listDT 1 rfl T.z_list ?_) | (guard_target = XE _ _ (Expr.Call (Expr.Name "list" _) [Expr.Name "most" _] [] _) _ _; first | refine xe_listOw 2 rfl T.z_list ?_ | refine xe_listDT 2 rfl T.z_list ?_) | (guard_target = XE _ _ (Expr.Call (Expr.Name "list" _) [Expr.Name "digits" _] [] _) _ _; first | refine xe_listOw 3 rfl T.z_list ?_ | refine xe_listDT 3 rfl T.z_list ?_) | (guard_target = XE _ _ (Expr.Call (Expr.Name "list" _) [Expr.Name "turn" _] [] _) _ _; first | refine xe_listOw 4 rfl T.z_list ?_ | refine xe_listDT 4 rfl T.z_list ?_) | (guard_target = XE _ _ (Expr.Call (Expr.Name "list" _) [Expr.Name "seed" _] [] _) _ _; first | refine xe_listOw 5 rfl T.z_list ?_ | refine xe_listDT 5 rfl T.z_list ?_))
local macro_rules | `(tactic| walk_at "xr") => `(tactic| first | (guard_target = XR _ _ (Expr.Name "cell" _ :: _) _ _; refine xr_own 0 ⟨_, _, rfl⟩ ?_) | (guard_target = XR _ _ (Expr.Name "k" _ :: _) _ _; refine xr_own 1 ⟨_, _, rfl⟩ ?_) | (guard_target = XR _ _ (Expr.Name "most" _ :: _) _ _; refine xr_own 2 ⟨_, _, rfl⟩ ?_) | (guard_target = XR _ _ (Expr.Name "digits" _ :: _) _ _; refine xr_own 3 ⟨_, _, rfl⟩ ?_) | (guard_target = XR _ _ (Expr.Name "turn" _ :: _) _ _; refine xr_own 4 ⟨_, _, rfl⟩ ?_) | (guard_target = XR _ _ (Expr.Name "seed" _ :: _) _ _; refine xr_own 5 ⟨_, _, rfl⟩ ?_))
local macro_rules | `(tactic| walk_at "fld") => `(tactic| first | (guard_target = XE _ _ (Expr.Attribute (Expr.Name "cell" _) "data" _) _ _; refine xe_fldo 0 T.cl_ByteReader T.na_ByteReader_data rfl rfl ?_) | (guard_target = XE _ _ (Expr.Attribute (Expr.Name "k" _) "data" _) _ _; refine xe_fldo 1 T.cl_ByteReader T.na_ByteReader_data rfl rfl ?_) | (guard_target = XE _ _ (Expr.Attribute (Expr.Name "most" _) "data" _) _ _; refine xe_fldo 2 T.cl_ByteReader T.na_ByteReader_data rfl rfl ?_) | (guard_target = XE _ _ (Expr.Attribute (Expr.Name "digits" _) "data" _) _ _; refine xe_fldo 3 T.cl_ByteReader T.na_ByteReader_data rfl rfl ?_) | (guard_target = XE _ _ (Expr.Attribute (Expr.Name "turn" _) "data" _) _ _; refine xe_fldo 4 T.cl_ByteReader T.na_ByteReader_data rfl rfl ?_) | (guard_target = XE _ _ (Expr.Attribute (Expr.Name "seed" _) "data" _) _ _; refine xe_fldo 5 T.cl_ByteReader T.na_ByteReader_data rfl rfl ?_))
local macro_rules | `(tactic| walk_at "sx") => `(tactic| first | (guard_target = XS _ _ (Stmt.Assign [Expr.Attribute (Expr.Name "cell" _) "data" _] _ _) _ _; refine xs_flds 0 T.cl_ByteReader T.na_ByteReader_data ⟨_, _, rfl⟩ ?_) | (guard_target = XS _ _ (Stmt.Assign [Expr.Attribute (Expr.Name "k" _) "data" _] _ _) _ _; refine xs_flds 1 T.cl_ByteReader T.na_ByteReader_data ⟨_, _, rfl⟩ ?_) | (guard_target = XS _ _ (Stmt.Assign [Expr.Attribute (Expr.Name "most" _) "data" _] _ _) _ _; refine xs_flds 2 T.cl_ByteReader T.na_ByteReader_data ⟨_, _, rfl⟩ ?_) | (guard_target = XS _ _ (Stmt.Assign [Expr.Attribute (Expr.Name "digits" _) "data" _] _ _) _ _; refine xs_flds 3 T.cl_ByteReader T.na_ByteReader_data ⟨_, _, rfl⟩ ?_) | (guard_target = XS _ _ (Stmt.Assign [Expr.Attribute (Expr.Name "turn" _) "data" _] _ _) _ _; refine xs_flds 4 T.cl_ByteReader T.na_ByteReader_data ⟨_, _, rfl⟩ ?_) | (guard_target = XS _ _ (Stmt.Assign [Expr.Attribute (Expr.Name "seed" _) "data" _] _ _) _ _; refine xs_flds 5 T.cl_ByteReader T.na_ByteReader_data ⟨_, _, rfl⟩ ?_))
local macro_rules | `(tactic| walk_at "sx") => `(tactic| first | (guard_target = XS _ _ (Stmt.AugAssign (Expr.Attribute (Expr.Name "cell" _) "data" _) .Add _ _) _ _; refine xs_flda 0 T.cl_ByteReader T.na_ByteReader_data rfl rfl ?_) | (guard_target = XS _ _ (Stmt.AugAssign (Expr.Attribute (Expr.Name "k" _) "data" _) .Add _ _) _ _; refine xs_flda 1 T.cl_ByteReader T.na_ByteReader_data rfl rfl ?_) | (guard_target = XS _ _ (Stmt.AugAssign (Expr.Attribute (Expr.Name "most" _) "data" _) .Add _ _) _ _; refine xs_flda 2 T.cl_ByteReader T.na_ByteReader_data rfl rfl ?_) | (guard_target = XS _ _ (Stmt.AugAssign (Expr.Attribute (Expr.Name "digits" _) "data" _) .Add _ _) _ _; refine xs_flda 3 T.cl_ByteReader T.na_ByteReader_data rfl rfl ?_) | (guard_target = XS _ _ (Stmt.AugAssign (Expr.Attribute (Expr.Name "turn" _) "data" _) .Add _ _) _ _; refine xs_flda 4 T.cl_ByteReader T.na_ByteReader_data rfl rfl ?_) | (guard_target = XS _ _ (Stmt.AugAssign (Expr.Attribute (Expr.Name "seed" _) "data" _) .Add _ _) _ _; refine xs_flda 5 T.cl_ByteReader T.na_ByteReader_data rfl rfl ?_))
local macro_rules | `(tactic| walk_at "fld") => `(tactic| first | (guard_target = XE _ _ (Expr.Attribute (Expr.Name "cell" _) "at" _) _ _; refine xe_fldo 0 T.cl_ByteReader T.na_ByteReader_at rfl rfl ?_) | (guard_target = XE _ _ (Expr.Attribute (Expr.Name "k" _) "at" _) _ _; refine xe_fldo 1 T.cl_ByteReader T.na_ByteReader_at rfl rfl ?_) | (guard_target = XE _ _ (Expr.Attribute (Expr.Name "most" _) "at" _) _ _; refine xe_fldo 2 T.cl_ByteReader T.na_ByteReader_at rfl rfl ?_) | (guard_target = XE _ _ (Expr.Attribute (Expr.Name "digits" _) "at" _) _ _; refine xe_fldo 3 T.cl_ByteReader T.na_ByteReader_at rfl rfl ?_) | (guard_target = XE _ _ (Expr.Attribute (Expr.Name "turn" _) "at" _) _ _; refine xe_fldo 4 T.cl_ByteReader T.na_ByteReader_at rfl rfl ?_) | (guard_target = XE _ _ (Expr.Attribute (Expr.Name "seed" _) "at" _) _ _; refine xe_fldo 5 T.cl_ByteReader T.na_ByteReader_at rfl rfl ?_))
local macro_rules | `(tactic| walk_at "sx") => `(tactic| first | (guard_target = XS _ _ (Stmt.Assign [Expr.Attribute (Expr.Name "cell" _) "at" _] _ _) _ _; refine xs_flds 0 T.cl_ByteReader T.na_ByteReader_at ⟨_, _, rfl⟩ ?_) | (guard_target = XS _ _ (Stmt.Assign [Expr.Attribute (Expr.Name "k" _) "at" _] _ _) _ _; refine xs_flds 1 T.cl_ByteReader T.na_ByteReader_at ⟨_, _, rfl⟩ ?_) | (guard_target = XS _ _ (Stmt.Assign [Expr.Attribute (Expr.Name "most" _) "at" _] _ _) _ _; refine xs_flds 2 T.cl_ByteReader T.na_ByteReader_at ⟨_, _, rfl⟩ ?_) | (guard_target = XS _ _ (Stmt.Assign [Expr.Attribute (Expr.Name "digits" _) "at" _] _ _) _ _; refine xs_flds 3 T.cl_ByteReader T.na_ByteReader_at ⟨_, _, rfl⟩ ?_) | (guard_target = XS _ _ (Stmt.Assign [Expr.Attribute (Expr.Name "turn" _) "at" _] _ _) _ _; refine xs_flds 4 T.cl_ByteReader T.na_ByteReader_at ⟨_, _, rfl⟩ ?_) | (guard_target = XS _ _ (Stmt.Assign [Expr.Attribute (Expr.Name "seed" _) "at" _] _ _) _ _; refine xs_flds 5 T.cl_ByteReader T.na_ByteReader_at ⟨_, _, rfl⟩ ?_))
local macro_rules | `(tactic| walk_at "sx") => `(tactic| first | (guard_target = XS _ _ (Stmt.AugAssign (Expr.Attribute (Expr.Name "cell" _) "at" _) .Add _ _) _ _; refine xs_flda 0 T.cl_ByteReader T.na_ByteReader_at rfl rfl ?_) | (guard_target = XS _ _ (Stmt.AugAssign (Expr.Attribute (Expr.Name "k" _) "at" _) .Add _ _) _ _; refine xs_flda 1 T.cl_ByteReader T.na_ByteReader_at rfl rfl ?_) | (guard_target = XS _ _ (Stmt.AugAssign (Expr.Attribute (Expr.Name "most" _) "at" _) .Add _ _) _ _; refine xs_flda 2 T.cl_ByteReader T.na_ByteReader_at rfl rfl ?_) | (guard_target = XS _ _ (Stmt.AugAssign (Expr.Attribute (Expr.Name "digits" _) "at" _) .Add _ _) _ _; refine xs_flda 3 T.cl_ByteReader T.na_ByteReader_at rfl rfl ?_) | (guard_target = XS _ _ (Stmt.AugAssign (Expr.Attribute (Expr.Name "turn" _) "at" _) .Add _ _) _ _; refine xs_flda 4 T.cl_ByteReader T.na_ByteReader_at rfl rfl ?_) | (guard_target = XS _ _ (Stmt.AugAssign (Expr.Attribute (Expr.Name "seed" _) "at" _) .Add _ _) _ _; refine xs_flda 5 T.cl_ByteReader T.na_ByteReader_at rfl rfl ?_))
local macro_rules | `(tactic| walk_at "ext") => `(tactic| first | (guard_target = XS _ _ (Stmt.Expr (Expr.Call (Expr.Attribute (Expr.Name "cell" _) "extend" _) _ _ _) _) _ _; refine xs_ext 0 ⟨_, _, rfl⟩ ?_) | (guard_target = XS _ _ (Stmt.Expr (Expr.Call (Expr.Attribute (Expr.Name "k" _) "extend" _) _ _ _) _) _ _; refine xs_ext 1 ⟨_, _, rfl⟩ ?_) | (guard_target = XS _ _ (Stmt.Expr (Expr.Call (Expr.Attribute (Expr.Name "most" _) "extend" _) _ _ _) _) _ _; refine xs_ext 2 ⟨_, _, rfl⟩ ?_) | (guard_target = XS _ _ (Stmt.Expr (Expr.Call (Expr.Attribute (Expr.Name "digits" _) "extend" _) _ _ _) _) _ _; refine xs_ext 3 ⟨_, _, rfl⟩ ?_) | (guard_target = XS _ _ (Stmt.Expr (Expr.Call (Expr.Attribute (Expr.Name "turn" _) "extend" _) _ _ _) _) _ _; refine xs_ext 4 ⟨_, _, rfl⟩ ?_) | (guard_target = XS _ _ (Stmt.Expr (Expr.Call (Expr.Attribute (Expr.Name "seed" _) "extend" _) _ _ _) _) _ _; refine xs_ext 5 ⟨_, _, rfl⟩ ?_))
def RDig2 (ds : List D) (Φ : D → Prop) : Prop := ∃ (c k m : Int), ds = [.int c, .int k, .int m] ∧ 0 ≤ m ∧ m ≤ 1000 ∧ ∀ l : List Int, Dg l → (l.length : Int) ≤ m → Φ (Il l)
theorem ok_law_digits (T : Tx K mg) : FnOk P w K mg base CX0 1 T.f_law_digits T.d_law_digits ["cell", "k", "most"] (SpD K RDig2) := by
  refine fn_okD T.F_law_digits sc_law_digits (fun ds Φ h => by obtain ⟨_, _, _, rfl, _⟩ := h; rfl) (fun cdv A outer s H E F hr ds Φ h => ?_)
  have nd := sc_law_digits.nd
  obtain ⟨c, k, m, rfl, h0, h1, q⟩ := h
  walk_at "st"
  refine xss_mid (fun G => ∃ c : Int, G = [vI c, vI k, vI m, oIs false [], .no, .no]) ?_ ?_
  · refine xs_if ?_
    walk_at "go"
    · exact ⟨_, ⟨_, rfl⟩, by walk_at "cov"⟩
    · exact ⟨_, ⟨_, rfl⟩, by walk_at "cov"⟩
  rintro G ⟨c, rfl⟩
  have step : ∀ (l : List Int) (x : Int), Dg l → Dg (l ++ [x % 1000]) := fun l x h => h.app (Int.emod_nonneg _ (by decide)) (Int.emod_lt_of_pos _ (by decide))
  refine xss_mid (fun G => ∃ l : List Int, G = [.no, .no, .no, oIs false l, .no, .no] ∧ Dg l ∧ (l.length : Int) ≤ m) ?_ ?_
  · refine xs_if ?_
    walk_at "go"
    · refine ⟨fun t G => ∃ (l : List Int) (c : Int), G = [vI c, vI k, vI m, oIs false l, .no, .no] ∧ Dg l ∧ (l.length : Int) ≤ m, ⟨_, ⟨[], c, rfl, (fun _ h => by cases h), h0⟩, by walk_at "cov"⟩, fun t d G hd ⟨l, c, eG, hl, hn⟩ => ?_, fun G ⟨l, c, eG, hl, hn⟩ => ?_⟩
      · subst eG
        obtain ⟨ht, rfl⟩ := get_range_int hd
        have e0 : (l.map D.int).length < 1000000 := by rw [List.length_map]; omega
        have stay : ∃ T2, (∃ (l : List Int) (c : Int), T2 = [vI c, vI k, vI m, oIs false l, .no, .no] ∧ Dg l ∧ (l.length : Int) ≤ m) ∧ Cov [vI c, vI k, vI m, oIs false l, vI (0 + (t : Int)), .no] T2 := ⟨_, ⟨l, c, rfl, hl, hn⟩, by walk_at "cov"⟩
        walk_at "go"
        · rw [List.length_map] at h
          exact ⟨_, ⟨l ++ [c % 1000], c / 1000, rfl, step l c hl, by rw [List.length_append]; show ((l.length + 1 : Nat) : Int) ≤ m; omega⟩, by walk_at "cova"⟩
        · exact stay
        · exact stay
      · subst eG
        walk_at "go"
        exact ⟨_, ⟨l, rfl, hl, hn⟩, by walk_at "cov"⟩
    · refine ⟨fun t G => ∃ (l : List Int) (sd : Int), G = [.no, .no, vI m, oIs false l, .no, vI sd] ∧ Dg l ∧ l.length = t, ⟨_, ⟨[], _, rfl, (fun _ h => by cases h), rfl⟩, by walk_at "cov"⟩, fun t d G hd ⟨l, sd, eG, hl, hn⟩ => ?_, fun G ⟨l, sd, eG, hl, hn⟩ => ?_⟩
      · subst eG
        obtain ⟨ht, rfl⟩ := get_range_int hd
        have e0 : (l.map D.int).length < 1000000 := by rw [List.length_map]; omega
        walk_at "go"
        exact ⟨_, ⟨l ++ [_ % 1000], _, rfl, step l _ hl, by rw [List.length_append, hn]; rfl⟩, by walk_at "cova"⟩
      · subst eG
        rw [len_range_int] at hn
        walk_at "go"
        exact ⟨_, ⟨l, rfl, hl, by omega⟩, by walk_at "cov"⟩
  · rintro G ⟨l, rfl, hl, hn⟩
    walk_at "go"
    exact q l hl hn

end
local macro_rules | `(tactic| walk_at "call") => `(tactic| ((guard_target = XE _ _ (Expr.Call (Expr.Name "_law_digits" _) _ _ _) _ _); refine xe_callx (ok_law_digits T) hr.in1' T.m_law_digits T.F_law_digits.kp T.b_law_digits ?_))
def numB (n : Nat) : List Int := if h : n < 128 then [(n : Int)] else ((n % 128 + 128 : Nat) : Int) :: numB (n / 128)
termination_by n
decreasing_by omega
theorem numB_lt {n : Nat} (h : n < 128) : numB n = [(n : Int)] := by rw [numB, dif_pos h]
theorem numB_ge {n : Nat} (h : ¬ n < 128) : numB n = ((n % 128 + 128 : Nat) : Int) :: numB (n / 128) := by rw [numB, dif_neg h]
def valB (l : List Int) : Int := l.foldr (fun b a => a * 128 + b % 128) 0
/-- what a number's bytes are -/
structure NumP (n : Nat) (hs : List Int) (t : Int) : Prop where
  eq : numB n = hs ++ [t]
  hi : ∀ x ∈ hs, 128 ≤ x ∧ x < 256
  t0 : 0 ≤ t
  t1 : t < 128
  nz : hs ≠ [] → t ≠ 0
  val : valB (hs ++ [t]) = n
theorem numP : ∀ n : Nat, ∃ hs t, NumP n hs t := fun n => by
  by_cases h : n < 128
  · refine ⟨[], n, ⟨numB_lt h, fun x hx => (by cases hx), by omega, by omega, fun z => absurd rfl z, ?_⟩⟩
    show (0 : Int) * 128 + (n : Int) % 128 = n
    omega
  · obtain ⟨hs, t, p⟩ := numP (n / 128)
    refine ⟨((n % 128 + 128 : Nat) : Int) :: hs, t, ⟨by rw [numB_ge h, p.eq]; rfl, fun x hx => ?_, p.t0, p.t1, fun _ => ?_, ?_⟩⟩
    · rcases List.mem_cons.mp hx with e | e
      · subst e; omega
      · exact p.hi x e
    · by_cases e : hs = []
      · subst e
        have h1 := p.val
        have : valB ([] ++ [t]) = t % 128 := by show (0 : Int) * 128 + t % 128 = _; omega
        rw [this] at h1
        have := p.t0; have := p.t1
        omega
      · exact p.nz e
    · show valB (hs ++ [t]) * 128 + (((n % 128 + 128 : Nat) : Int)) % 128 = n
      rw [p.val]; omega
termination_by n => n
decreasing_by omega
theorem numB_len {n : Nat} : 0 < (numB n).length := by
  obtain ⟨hs, t, p⟩ := numP n
  rw [p.eq, List.length_append]; show 0 < hs.length + 1; omega
theorem numB_bytes {n : Nat} : ∀ x ∈ numB n, 0 ≤ x ∧ x < 256 := fun x hx => by
  obtain ⟨hs, t, p⟩ := numP n
  rw [p.eq] at hx
  rcases List.mem_append.mp hx with e | e
  · have := p.hi x e; omega
  · rw [List.mem_singleton.mp e]; have := p.t0; have := p.t1; omega
theorem numB_pow : ∀ (k n : Nat), n < 128 ^ (k + 1) → (numB n).length ≤ k + 1
  | 0, n, h => by rw [numB_lt (by simpa using h)]; exact Nat.le_refl _
  | k + 1, n, h => by
    by_cases h1 : n < 128
    · rw [numB_lt h1]; show 1 ≤ _; omega
    · rw [numB_ge h1, List.length_cons]
      have := numB_pow k (n / 128) (by rw [Nat.pow_succ] at h; exact Nat.div_lt_of_lt_mul (by rw [Nat.mul_comm]; exact h))
      omega
/-- where a number's last byte is sought -/
structure RdEnd (data : List Int) (a j : Nat) : Prop where
  hi : ∀ i, i < j → ∃ x, data[a + i]? = some x ∧ 128 ≤ x
  lo : ∀ x, data[a + j]? = some x → x < 128
theorem RdEnd.uniq {data : List Int} {a j k : Nat} (h : RdEnd data a j) (g : RdEnd data a k) : j = k := by
  rcases Nat.lt_trichotomy j k with z | z | z
  · obtain ⟨x, h1, h2⟩ := g.hi j z
    have := h.lo x h1; omega
  · exact z
  · obtain ⟨x, h1, h2⟩ := h.hi k z
    have := g.lo x h1; omega
def BadN (data : List Int) (a j : Nat) : Prop := data.length ≤ a + j ∨ (0 < j ∧ data[a + j]? = some 0)
theorem rd_at {pre hs suf : List Int} {t : Int} (hi : ∀ x ∈ hs, 128 ≤ x ∧ x < 256) (lo : t < 128) : RdEnd (pre ++ (hs ++ t :: suf)) pre.length hs.length := by
  refine ⟨fun i hi' => ?_, fun x hx => ?_⟩
  · refine ⟨hs[i], ?_, (hi _ (List.getElem_mem hi')).1⟩
    rw [List.getElem?_append_right (by omega), Nat.add_sub_cancel_left, List.getElem?_append_left hi', List.getElem?_eq_getElem hi']
  · rw [List.getElem?_append_right (by omega), Nat.add_sub_cancel_left, List.getElem?_append_right (by omega), Nat.sub_self] at hx
    cases hx; exact lo
theorem rd_get {pre hs suf : List Int} {t : Int} : (pre ++ (hs ++ t :: suf))[pre.length + hs.length]? = some t := by
  rw [List.getElem?_append_right (by omega), Nat.add_sub_cancel_left, List.getElem?_append_right (by omega), Nat.sub_self]; rfl
theorem rd_cut {pre hs suf : List Int} {t : Int} : ((pre ++ (hs ++ t :: suf)).drop pre.length).take (hs.length + 1) = hs ++ [t] := by
  rw [List.drop_left]
  have : hs ++ t :: suf = (hs ++ [t]) ++ suf := by simp
  rw [this, List.take_left' (by simp)]
theorem rd_out {pre hs : List Int} (hi : ∀ x ∈ hs, 128 ≤ x ∧ x < 256) : RdEnd (pre ++ hs) pre.length hs.length := by
  refine ⟨fun i hi' => ?_, fun x hx => ?_⟩
  · refine ⟨hs[i], ?_, (hi _ (List.getElem_mem hi')).1⟩
    rw [List.getElem?_append_right (by omega), Nat.add_sub_cancel_left, List.getElem?_eq_getElem hi']
  · rw [List.getElem?_eq_none (by rw [List.length_append]; omega)] at hx; cases hx
theorem eqv_same {n : Nat} {d : D} (h : Cmp n d) : PyData.eqv (toPy d) (toPy d) = true := PySem.SeqAt.eqv_refl _ (shape_of h.1 h.2.2).1
theorem sIx_neg (n d k : Nat) (hk : 0 < k) : HT.sIx n d (some (-(k : Int))) = n - k := by
  show (if (-(k : Int)) < 0 then ((-(k : Int)) + (n : Int)).toNat else min (-(k : Int)).toNat n) = _
  rw [if_pos (by omega)]; omega
theorem cut_toNeg {α : Type} (g : α → D) (ws : List α) (k : Nat) (hk : 0 < k) : Pu.cutD (ws.map g) none (some (-(k : Int))) = (ws.take (ws.length - k)).map g := by
  unfold Pu.cutD
  rw [HT.sIx_none, List.drop_zero, Nat.sub_zero, List.length_map, sIx_neg _ _ _ hk, List.map_take]
theorem cut_ofNeg {α : Type} (g : α → D) (ws : List α) (k : Nat) (hk : 0 < k) : Pu.cutD (ws.map g) (some (-(k : Int))) none = (ws.drop (ws.length - k)).map g := by
  unfold Pu.cutD
  rw [HT.sIx_none, List.length_map, sIx_neg _ _ _ hk, List.map_drop, List.take_of_length_le (by rw [List.length_drop, List.length_map]; omega)]
theorem cmp_pair (a b : Int) : Cmp 5 (.tup [.int a, .int b]) := by
  refine Cmp.tup (n := 4) (by show 2 < 1000000; decide) fun d hd => ?_
  simp only [List.mem_cons, List.not_mem_nil, or_false] at hd
  rcases hd with rfl | rfl <;> exact Cmp.int _
def RWrN (ds : List D) (Φ : D → Prop) : Prop := ∃ n : Nat, ds = [.int n] ∧ (numB n).length ≤ 100000 ∧ Φ (Il (numB n))
def atF (a : Nat) : Fs := some [("at", .int a)]
def RRdN (C : Addr) (ds : List D) (Φ : D → Prop) (Ψ : Value → Fs → Prop) : Prop := ∃ (data : List Int) (a : Nat), ds = [Il data, .int a] ∧ data.length ≤ 200000 ∧
  ∀ j, RdEnd data a j → (BadN data a j → Ψ (.ref C) (atF a)) ∧ (¬ BadN data a j → Φ (.tup [.int (valB ((data.drop a).take (j + 1))), .int (a + j + 1 : Nat)]))
section
local macro_rules | `(tactic| walk_at "n") => `(tactic| first | (guard_target = XE _ _ (Expr.Name "data" _) _ _; first | refine xe_n 0 rfl ?_ | refine xe_nf 0 rfl ?_) | (guard_target = XE _ _ (Expr.Name "at" _) _ _; first | refine xe_n 1 rfl ?_ | refine xe_nf 1 rfl ?_) | (guard_target = XE _ _ (Expr.Name "end" _) _ _; first | refine xe_n 2 rfl ?_ | refine xe_nf 2 rfl ?_) | (guard_target = XE _ _ (Expr.Name "number" _) _ _; first | refine xe_n 3 rfl ?_ | refine xe_nf 3 rfl ?_) | (guard_target = XE _ _ (Expr.Name "byte" _) _ _; first | refine xe_n 4 rfl ?_ | refine xe_nf 4 rfl ?_))
local macro_rules | `(tactic| walk_at "set") => `(tactic| first | (guard_target = XS _ _ (Stmt.Assign [Expr.Name "data" _] _ _) _ _; refine xs_set 0 nd ?_) | (guard_target = XS _ _ (Stmt.Assign [Expr.Name "at" _] _ _) _ _; refine xs_set 1 nd ?_) | (guard_target = XS _ _ (Stmt.Assign [Expr.Name "end" _] _ _) _ _; refine xs_set 2 nd ?_) | (guard_target = XS _ _ (Stmt.Assign [Expr.Name "number" _] _ _) _ _; refine xs_set 3 nd ?_) | (guard_target = XS _ _ (Stmt.Assign [Expr.Name "byte" _] _ _) _ _; refine xs_set 4 nd ?_))
local macro_rules | `(tactic| walk_at "own") => `(tactic| first | (guard_target = XS _ _ (Stmt.Assign [Expr.Name "data" _] _ _) _ _; refine xs_own 0 nd ?_) | (guard_target = XS _ _ (Stmt.Assign [Expr.Name "at" _] _ _) _ _; refine xs_own 1 nd ?_) | (guard_target = XS _ _ (Stmt.Assign [Expr.Name "end" _] _ _) _ _; refine xs_own 2 nd ?_) | (guard_target = XS _ _ (Stmt.Assign [Expr.Name "number" _] _ _) _ _; refine xs_own 3 nd ?_) | (guard_target = XS _ _ (Stmt.Assign [Expr.Name "byte" _] _ _) _ _; refine xs_own 4 nd ?_))
local macro_rules | `(tactic| walk_at "app") => `(tactic| first | (guard_target = XS _ _ (Stmt.Expr (Expr.Call (Expr.Attribute (Expr.Name "data" _) _ _) _ _ _) _) _ _; refine xs_app 0 ⟨_, _, rfl⟩ ?_) | (guard_target = XS _ _ (Stmt.Expr (Expr.Call (Expr.Attribute (Expr.Name "at" _) _ _) _ _ _) _) _ _; refine xs_app 1 ⟨_, _, rfl⟩ ?_) | (guard_target = XS _ _ (Stmt.Expr (Expr.Call (Expr.Attribute (Expr.Name "end" _) _ _) _ _ _) _) _ _; refine xs_app 2 ⟨_, _, rfl⟩ ?_) | (guard_target = XS _ _ (Stmt.Expr (Expr.Call (Expr.Attribute (Expr.Name "number" _) _ _) _ _ _) _) _ _; refine xs_app 3 ⟨_, _, rfl⟩ ?_) | (guard_target = XS _ _ (Stmt.Expr (Expr.Call (Expr.Attribute (Expr.Name "byte" _) _ _) _ _ _) _) _ _; refine xs_app 4 ⟨_, _, rfl⟩ ?_))
local macro_rules | `(tactic| walk_at "aug") => `(tactic| first | (guard_target = XS _ _ (Stmt.AugAssign (Expr.Name "data" _) _ _ _) _ _; refine xs_aug 0 nd rfl ?_) | (guard_target = XS _ _ (Stmt.AugAssign (Expr.Name "at" _) _ _ _) _ _; refine xs_aug 1 nd rfl ?_) | (guard_target = XS _ _ (Stmt.AugAssign (Expr.Name "end" _) _ _ _) _ _; refine xs_aug 2 nd rfl ?_) | (guard_target = XS _ _ (Stmt.AugAssign (Expr.Name "number" _) _ _ _) _ _; refine xs_aug 3 nd rfl ?_) | (guard_target = XS _ _ (Stmt.AugAssign (Expr.Name "byte" _) _ _ _) _ _; refine xs_aug 4 nd rfl ?_))
local macro_rules | `(tactic| walk_at "gn") => `(tactic| first | (guard_target = XG _ _ (Expr.Name "data" _) _ _ _ _; refine xg_n 0 nd ?_) | (guard_target = XG _ _ (Expr.Name "at" _) _ _ _ _; refine xg_n 1 nd ?_) | (guard_target = XG _ _ (Expr.Name "end" _) _ _ _ _; refine xg_n 2 nd ?_) | (guard_target = XG _ _ (Expr.Name "number" _) _ _ _ _; refine xg_n 3 nd ?_) | (guard_target = XG _ _ (Expr.Name "byte" _) _ _ _ _; refine xg_n 4 nd ?_))
local macro_rules | `(tactic| walk_at "leno") => `(tactic| first | (guard_target = XE _ _ (Expr.Call (Expr.Name "len" _) [Expr.Name "data" _] [] _) _ _; refine xe_leno 0 rfl T.z_len ?_) | (guard_target = XE _ _ (Expr.Call (Expr.Name "len" _) [Expr.Name "at" _] [] _) _ _; refine xe_leno 1 rfl T.z_len ?_) | (guard_target = XE _ _ (Expr.Call (Expr.Name "len" _) [Expr.Name "end" _] [] _) _ _; refine xe_leno 2 rfl T.z_len ?_) | (guard_target = XE _ _ (Expr.Call (Expr.Name "len" _) [Expr.Name "number" _] [] _) _ _; refine xe_leno 3 rfl T.z_len ?_) | (guard_target = XE _ _ (Expr.Call (Expr.Name "len" _) [Expr.Name "byte" _] [] _) _ _; refine xe_leno 4 rfl T.z_len ?_))
local macro_rules | `(tactic| walk_at "ixo") => `(tactic| first | (guard_target = XE _ _ (Expr.Subscript (Expr.Name "data" _) _ _) _ _; first | refine xe_ixoL 0 ⟨_, _, rfl⟩ ?_ | refine xe_dget 0 hu ⟨_, .ow rfl, .inl ⟨_, rfl⟩⟩ ?_ | refine xe_dget 0 hu ⟨_, .ow rfl, .inr ⟨_, rfl⟩⟩ ?_ | refine xe_dget 0 hu ⟨_, .va rfl, .inl ⟨_, rfl⟩⟩ ?_ | refine xe_dget 0 hu ⟨_, .va rfl, .inr ⟨_, rfl⟩⟩ ?_) | (guard_target = XE _ _ (Expr.Subscript (Expr.Name "at" _) _ _) _ _; first | refine xe_ixoL 1 ⟨_, _, rfl⟩ ?_ | refine xe_dget 1 hu ⟨_, .ow rfl, .inl ⟨_, rfl⟩⟩ ?_ | refine xe_dget 1 hu ⟨_, .ow rfl, .inr ⟨_, rfl⟩⟩ ?_ | refine xe_dget 1 hu ⟨_, .va rfl, .inl ⟨_, rfl⟩⟩ ?_ | refine xe_dget 1 hu ⟨_, .va rfl, .inr ⟨_, rfl⟩⟩ ?_) | (guard_target = XE _ _ (Expr.Subscript (Expr.Name "end" _) _ _) _ _; first | refine xe_ixoL 2 ⟨_, _, rfl⟩ ?_ | refine xe_dget 2 hu ⟨_, .ow rfl, .inl ⟨_, rfl⟩⟩ ?_ | refine xe_dget 2 hu ⟨_, .ow rfl, .inr ⟨_, rfl⟩⟩ ?_ | refine xe_dget 2 hu ⟨_, .va rfl, .inl ⟨_, rfl⟩⟩ ?_ | refine xe_dget 2 hu ⟨_, .va rfl, .inr ⟨_, rfl⟩⟩ ?_) | (guard_target = XE _ _ (Expr.Subscript (Expr.Name "number" _) _ _) _ _; first | refine xe_ixoL 3 ⟨_, _, rfl⟩ ?_ | refine xe_dget 3 hu ⟨_, .ow rfl, .inl ⟨_, rfl⟩⟩ ?_ | refine xe_dget 3 hu ⟨_, .ow rfl, .inr ⟨_, rfl⟩⟩ ?_ | refine xe_dget 3 hu ⟨_, .va rfl, .inl ⟨_, rfl⟩⟩ ?_ | refine xe_dget 3 hu ⟨_, .va rfl, .inr ⟨_, rfl⟩⟩ ?_) | (guard_target = XE _ _ (Expr.Subscript (Expr.Name "byte" _) _ _) _ _; first | refine xe_ixoL 4 ⟨_, _, rfl⟩ ?_ | refine xe_dget 4 hu ⟨_, .ow rfl, .inl ⟨_, rfl⟩⟩ ?_ | refine xe_dget 4 hu ⟨_, .ow rfl, .inr ⟨_, rfl⟩⟩ ?_ | refine xe_dget 4 hu ⟨_, .va rfl, .inl ⟨_, rfl⟩⟩ ?_ | refine xe_dget 4 hu ⟨_, .va rfl, .inr ⟨_, rfl⟩⟩ ?_))
local macro_rules | `(tactic| walk_at "sub") => `(tactic| first | (guard_target = XS _ _ (Stmt.Assign [Expr.Subscript (Expr.Name "data" _) _ _] _ _) _ _; first | refine xs_subL 0 ⟨_, _, rfl⟩ ?_ | refine xs_dput 0 hu ⟨_, _, rfl⟩ ?_) | (guard_target = XS _ _ (Stmt.Assign [Expr.Subscript (Expr.Name "at" _) _ _] _ _) _ _; first | refine xs_subL 1 ⟨_, _, rfl⟩ ?_ | refine xs_dput 1 hu ⟨_, _, rfl⟩ ?_) | (guard_target = XS _ _ (Stmt.Assign [Expr.Subscript (Expr.Name "end" _) _ _] _ _) _ _; first | refine xs_subL 2 ⟨_, _, rfl⟩ ?_ | refine xs_dput 2 hu ⟨_, _, rfl⟩ ?_) | (guard_target = XS _ _ (Stmt.Assign [Expr.Subscript (Expr.Name "number" _) _ _] _ _) _ _; first | refine xs_subL 3 ⟨_, _, rfl⟩ ?_ | refine xs_dput 3 hu ⟨_, _, rfl⟩ ?_) | (guard_target = XS _ _ (Stmt.Assign [Expr.Subscript (Expr.Name "byte" _) _ _] _ _) _ _; first | refine xs_subL 4 ⟨_, _, rfl⟩ ?_ | refine xs_dput 4 hu ⟨_, _, rfl⟩ ?_))
local macro_rules | `(tactic| walk_at "tino") => `(tactic| first | (guard_target = XT _ _ (Expr.Compare _ _ [Expr.Name "data" _] _) _ _; first | refine xt_inoL 0 ⟨_, _, rfl⟩ ?_ | refine xt_din 0 hu ⟨_, .ow rfl, .inl ⟨_, rfl⟩⟩ ?_ | refine xt_din 0 hu ⟨_, .ow rfl, .inr ⟨_, rfl⟩⟩ ?_ | refine xt_din 0 hu ⟨_, .va rfl, .inl ⟨_, rfl⟩⟩ ?_ | refine xt_din 0 hu ⟨_, .va rfl, .inr ⟨_, rfl⟩⟩ ?_) | (guard_target = XT _ _ (Expr.Compare _ _ [Expr.Name "at" _] _) _ _; first | refine xt_inoL 1 ⟨_, _, rfl⟩ ?_ | refine xt_din 1 hu ⟨_, .ow rfl, .inl ⟨_, rfl⟩⟩ ?_ | refine xt_din 1 hu ⟨_, .ow rfl, .inr ⟨_, rfl⟩⟩ ?_ | refine xt_din 1 hu ⟨_, .va rfl, .inl ⟨_, rfl⟩⟩ ?_ | refine xt_din 1 hu ⟨_, .va rfl, .inr ⟨_, rfl⟩⟩ ?_) | (guard_target = XT _ _ (Expr.Compare _ _ [Expr.Name "end" _] _) _ _; first | refine xt_inoL 2 ⟨_, _, rfl⟩ ?_ | refine xt_din 2 hu ⟨_, .ow rfl, .inl ⟨_, rfl⟩⟩ ?_ | refine xt_din 2 hu ⟨_, .ow rfl, .inr ⟨_, rfl⟩⟩ ?_ | refine xt_din 2 hu ⟨_, .va rfl, .inl ⟨_, rfl⟩⟩ ?_ | refine xt_din 2 hu ⟨_, .va rfl, .inr ⟨_, rfl⟩⟩ ?_) | (guard_target = XT _ _ (Expr.Compare _ _ [Expr.Name "number" _] _) _ _; first | refine xt_inoL 3 ⟨_, _, rfl⟩ ?_ | refine xt_din 3 hu ⟨_, .ow rfl, .inl ⟨_, rfl⟩⟩ ?_ | refine xt_din 3 hu ⟨_, .ow rfl, .inr ⟨_, rfl⟩⟩ ?_ | refine xt_din 3 hu ⟨_, .va rfl, .inl ⟨_, rfl⟩⟩ ?_ | refine xt_din 3 hu ⟨_, .va rfl, .inr ⟨_, rfl⟩⟩ ?_) | (guard_target = XT _ _ (Expr.Compare _ _ [Expr.Name "byte" _] _) _ _; first | refine xt_inoL 4 ⟨_, _, rfl⟩ ?_ | refine xt_din 4 hu ⟨_, .ow rfl, .inl ⟨_, rfl⟩⟩ ?_ | refine xt_din 4 hu ⟨_, .ow rfl, .inr ⟨_, rfl⟩⟩ ?_ | refine xt_din 4 hu ⟨_, .va rfl, .inl ⟨_, rfl⟩⟩ ?_ | refine xt_din 4 hu ⟨_, .va rfl, .inr ⟨_, rfl⟩⟩ ?_))
local macro_rules | `(tactic| walk_at "tnio") => `(tactic| first | (guard_target = XT _ _ (Expr.Compare _ _ [Expr.Name "data" _] _) _ _; first | refine xt_nioL 0 ⟨_, _, rfl⟩ ?_ | refine xt_dni 0 hu ⟨_, .ow rfl, .inl ⟨_, rfl⟩⟩ ?_ | refine xt_dni 0 hu ⟨_, .ow rfl, .inr ⟨_, rfl⟩⟩ ?_ | refine xt_dni 0 hu ⟨_, .va rfl, .inl ⟨_, rfl⟩⟩ ?_ | refine xt_dni 0 hu ⟨_, .va rfl, .inr ⟨_, rfl⟩⟩ ?_) | (guard_target = XT _ _ (Expr.Compare _ _ [Expr.Name "at" _] _) _ _; first | refine xt_nioL 1 ⟨_, _, rfl⟩ ?_ | refine xt_dni 1 hu ⟨_, .ow rfl, .inl ⟨_, rfl⟩⟩ ?_ | refine xt_dni 1 hu ⟨_, .ow rfl, .inr ⟨_, rfl⟩⟩ ?_ | refine xt_dni 1 hu ⟨_, .va rfl, .inl ⟨_, rfl⟩⟩ ?_ | refine xt_dni 1 hu ⟨_, .va rfl, .inr ⟨_, rfl⟩⟩ ?_) | (guard_target = XT _ _ (Expr.Compare _ _ [Expr.Name "end" _] _) _ _; first | refine xt_nioL 2 ⟨_, _, rfl⟩ ?_ | refine xt_dni 2 hu ⟨_, .ow rfl, .inl ⟨_, rfl⟩⟩ ?_ | refine xt_dni 2 hu ⟨_, .ow rfl, .inr ⟨_, rfl⟩⟩ ?_ | refine xt_dni 2 hu ⟨_, .va rfl, .inl ⟨_, rfl⟩⟩ ?_ | refine xt_dni 2 hu ⟨_, .va rfl, .inr ⟨_, rfl⟩⟩ ?_) | (guard_target = XT _ _ (Expr.Compare _ _ [Expr.Name "number" _] _) _ _; first | refine xt_nioL 3 ⟨_, _, rfl⟩ ?_ | refine xt_dni 3 hu ⟨_, .ow rfl, .inl ⟨_, rfl⟩⟩ ?_ | refine xt_dni 3 hu ⟨_, .ow rfl, .inr ⟨_, rfl⟩⟩ ?_ | refine xt_dni 3 hu ⟨_, .va rfl, .inl ⟨_, rfl⟩⟩ ?_ | refine xt_dni 3 hu ⟨_, .va rfl, .inr ⟨_, rfl⟩⟩ ?_) | (guard_target = XT _ _ (Expr.Compare _ _ [Expr.Name "byte" _] _) _ _; first | refine xt_nioL 4 ⟨_, _, rfl⟩ ?_ | refine xt_dni 4 hu ⟨_, .ow rfl, .inl ⟨_, rfl⟩⟩ ?_ | refine xt_dni 4 hu ⟨_, .ow rfl, .inr ⟨_, rfl⟩⟩ ?_ | refine xt_dni 4 hu ⟨_, .va rfl, .inl ⟨_, rfl⟩⟩ ?_ | refine xt_dni 4 hu ⟨_, .va rfl, .inr ⟨_, rfl⟩⟩ ?_))
local macro_rules | `(tactic| walk_at "tru") => `(tactic| first | (guard_target = XT _ _ (Expr.Name "data" _) _ _; refine xt_truO 0 rfl ?_) | (guard_target = XT _ _ (Expr.Name "at" _) _ _; refine xt_truO 1 rfl ?_) | (guard_target = XT _ _ (Expr.Name "end" _) _ _; refine xt_truO 2 rfl ?_) | (guard_target = XT _ _ (Expr.Name "number" _) _ _; refine xt_truO 3 rfl ?_) | (guard_target = XT _ _ (Expr.Name "byte" _) _ _; refine xt_truO 4 rfl ?_))
local macro_rules | `(tactic| walk_at "ldt") => `(tactic| first | (guard_target = XE _ _ (Expr.Call (Expr.Name "list" _) [Expr.Name "data" _] [] _) _ _; first | refine xe_listOw 0 rfl T.z_list ?_ | refine xe_listDT 0 rfl T.z_list ?_) | (guard_target = XE _ _ (Expr.Call (Expr.Name "list" _) [Expr.Name "at" _] [] _) _ _; first | refine xe_listOw 1 rfl T.z_list ?_ | refine xe_listDT 1 rfl T.z_list ?_) | (guard_target = XE _ _ (Expr.Call (Expr.Name "list" _) [Expr.Name "end" _] [] _) _ _; first | refine xe_listOw 2 rfl T.z_list ?_ | refine xe_listDT 2 rfl T.z_list ?_) | (guard_target = XE _ _ (Expr.Call (Expr.Name "list" _) [Expr.Name "number" _] [] _) _ _; first | refine xe_listOw 3 rfl T.z_list ?_ | refine xe_listDT 3 rfl T.z_list ?_) | (guard_target = XE _ _ (Expr.Call (Expr.Name "list" _) [Expr.Name "byte" _] [] _) _ _; first | refine xe_listOw 4 rfl T.z_list ?_ | refine xe_listDT 4 rfl T.z_list ?_))
local macro_rules | `(tactic| walk_at "xr") => `(tactic| first | (guard_target = XR _ _ (Expr.Name "data" _ :: _) _ _; refine xr_own 0 ⟨_, _, rfl⟩ ?_) | (guard_target = XR _ _ (Expr.Name "at" _ :: _) _ _; refine xr_own 1 ⟨_, _, rfl⟩ ?_) | (guard_target = XR _ _ (Expr.Name "end" _ :: _) _ _; refine xr_own 2 ⟨_, _, rfl⟩ ?_) | (guard_target = XR _ _ (Expr.Name "number" _ :: _) _ _; refine xr_own 3 ⟨_, _, rfl⟩ ?_) | (guard_target = XR _ _ (Expr.Name "byte" _ :: _) _ _; refine xr_own 4 ⟨_, _, rfl⟩ ?_))
local macro_rules | `(tactic| walk_at "fld") => `(tactic| first | (guard_target = XE _ _ (Expr.Attribute (Expr.Name "data" _) "data" _) _ _; refine xe_fldo 0 T.cl_ByteReader T.na_ByteReader_data rfl rfl ?_) | (guard_target = XE _ _ (Expr.Attribute (Expr.Name "at" _) "data" _) _ _; refine xe_fldo 1 T.cl_ByteReader T.na_ByteReader_data rfl rfl ?_) | (guard_target = XE _ _ (Expr.Attribute (Expr.Name "end" _) "data" _) _ _; refine xe_fldo 2 T.cl_ByteReader T.na_ByteReader_data rfl rfl ?_) | (guard_target = XE _ _ (Expr.Attribute (Expr.Name "number" _) "data" _) _ _; refine xe_fldo 3 T.cl_ByteReader T.na_ByteReader_data rfl rfl ?_) | (guard_target = XE _ _ (Expr.Attribute (Expr.Name "byte" _) "data" _) _ _; refine xe_fldo 4 T.cl_ByteReader T.na_ByteReader_data rfl rfl ?_))
local macro_rules | `(tactic| walk_at "sx") => `(tactic| first | (guard_target = XS _ _ (Stmt.Assign [Expr.Attribute (Expr.Name "data" _) "data" _] _ _) _ _; refine xs_flds 0 T.cl_ByteReader T.na_ByteReader_data ⟨_, _, rfl⟩ ?_) | (guard_target = XS _ _ (Stmt.Assign [Expr.Attribute (Expr.Name "at" _) "data" _] _ _) _ _; refine xs_flds 1 T.cl_ByteReader T.na_ByteReader_data ⟨_, _, rfl⟩ ?_) | (guard_target = XS _ _ (Stmt.Assign [Expr.Attribute (Expr.Name "end" _) "data" _] _ _) _ _; refine xs_flds 2 T.cl_ByteReader T.na_ByteReader_data ⟨_, _, rfl⟩ ?_) | (guard_target = XS _ _ (Stmt.Assign [Expr.Attribute (Expr.Name "number" _) "data" _] _ _) _ _; refine xs_flds 3 T.cl_ByteReader T.na_ByteReader_data ⟨_, _, rfl⟩ ?_) | (guard_target = XS _ _ (Stmt.Assign [Expr.Attribute (Expr.Name "byte" _) "data" _] _ _) _ _; refine xs_flds 4 T.cl_ByteReader T.na_ByteReader_data ⟨_, _, rfl⟩ ?_))
local macro_rules | `(tactic| walk_at "sx") => `(tactic| first | (guard_target = XS _ _ (Stmt.AugAssign (Expr.Attribute (Expr.Name "data" _) "data" _) .Add _ _) _ _; refine xs_flda 0 T.cl_ByteReader T.na_ByteReader_data rfl rfl ?_) | (guard_target = XS _ _ (Stmt.AugAssign (Expr.Attribute (Expr.Name "at" _) "data" _) .Add _ _) _ _; refine xs_flda 1 T.cl_ByteReader T.na_ByteReader_data rfl rfl ?_) | (guard_target = XS _ _ (Stmt.AugAssign (Expr.Attribute (Expr.Name "end" _) "data" _) .Add _ _) _ _; refine xs_flda 2 T.cl_ByteReader T.na_ByteReader_data rfl rfl ?_) | (guard_target = XS _ _ (Stmt.AugAssign (Expr.Attribute (Expr.Name "number" _) "data" _) .Add _ _) _ _; refine xs_flda 3 T.cl_ByteReader T.na_ByteReader_data rfl rfl ?_) | (guard_target = XS _ _ (Stmt.AugAssign (Expr.Attribute (Expr.Name "byte" _) "data" _) .Add _ _) _ _; refine xs_flda 4 T.cl_ByteReader T.na_ByteReader_data rfl rfl ?_))
local macro_rules | `(tactic| walk_at "fld") => `(tactic| first | (guard_target = XE _ _ (Expr.Attribute (Expr.Name "data" _) "at" _) _ _; refine xe_fldo 0 T.cl_ByteReader T.na_ByteReader_at rfl rfl ?_) | (guard_target = XE _ _ (Expr.Attribute (Expr.Name "at" _) "at" _) _ _; refine xe_fldo 1 T.cl_ByteReader T.na_ByteReader_at rfl rfl ?_) | (guard_target = XE _ _ (Expr.Attribute (Expr.Name "end" _) "at" _) _ _; refine xe_fldo 2 T.cl_ByteReader T.na_ByteReader_at rfl rfl ?_) | (guard_target = XE _ _ (Expr.Attribute (Expr.Name "number" _) "at" _) _ _; refine xe_fldo 3 T.cl_ByteReader T.na_ByteReader_at rfl rfl ?_) | (guard_target = XE _ _ (Expr.Attribute (Expr.Name "byte" _) "at" _) _ _; refine xe_fldo 4 T.cl_ByteReader T.na_ByteReader_at rfl rfl ?_))
local macro_rules | `(tactic| walk_at "sx") => `(tactic| first | (guard_target = XS _ _ (Stmt.Assign [Expr.Attribute (Expr.Name "data" _) "at" _] _ _) _ _; refine xs_flds 0 T.cl_ByteReader T.na_ByteReader_at ⟨_, _, rfl⟩ ?_) | (guard_target = XS _ _ (Stmt.Assign [Expr.Attribute (Expr.Name "at" _) "at" _] _ _) _ _; refine xs_flds 1 T.cl_ByteReader T.na_ByteReader_at ⟨_, _, rfl⟩ ?_) | (guard_target = XS _ _ (Stmt.Assign [Expr.Attribute (Expr.Name "end" _) "at" _] _ _) _ _; refine xs_flds 2 T.cl_ByteReader T.na_ByteReader_at ⟨_, _, rfl⟩ ?_) | (guard_target = XS _ _ (Stmt.Assign [Expr.Attribute (Expr.Name "number" _) "at" _] _ _) _ _; refine xs_flds 3 T.cl_ByteReader T.na_ByteReader_at ⟨_, _, rfl⟩ ?_) | (guard_target = XS _ _ (Stmt.Assign [Expr.Attribute (Expr.Name "byte" _) "at" _] _ _) _ _; refine xs_flds 4 T.cl_ByteReader T.na_ByteReader_at ⟨_, _, rfl⟩ ?_))
local macro_rules | `(tactic| walk_at "sx") => `(tactic| first | (guard_target = XS _ _ (Stmt.AugAssign (Expr.Attribute (Expr.Name "data" _) "at" _) .Add _ _) _ _; refine xs_flda 0 T.cl_ByteReader T.na_ByteReader_at rfl rfl ?_) | (guard_target = XS _ _ (Stmt.AugAssign (Expr.Attribute (Expr.Name "at" _) "at" _) .Add _ _) _ _; refine xs_flda 1 T.cl_ByteReader T.na_ByteReader_at rfl rfl ?_) | (guard_target = XS _ _ (Stmt.AugAssign (Expr.Attribute (Expr.Name "end" _) "at" _) .Add _ _) _ _; refine xs_flda 2 T.cl_ByteReader T.na_ByteReader_at rfl rfl ?_) | (guard_target = XS _ _ (Stmt.AugAssign (Expr.Attribute (Expr.Name "number" _) "at" _) .Add _ _) _ _; refine xs_flda 3 T.cl_ByteReader T.na_ByteReader_at rfl rfl ?_) | (guard_target = XS _ _ (Stmt.AugAssign (Expr.Attribute (Expr.Name "byte" _) "at" _) .Add _ _) _ _; refine xs_flda 4 T.cl_ByteReader T.na_ByteReader_at rfl rfl ?_))
local macro_rules | `(tactic| walk_at "ext") => `(tactic| first | (guard_target = XS _ _ (Stmt.Expr (Expr.Call (Expr.Attribute (Expr.Name "data" _) "extend" _) _ _ _) _) _ _; refine xs_ext 0 ⟨_, _, rfl⟩ ?_) | (guard_target = XS _ _ (Stmt.Expr (Expr.Call (Expr.Attribute (Expr.Name "at" _) "extend" _) _ _ _) _) _ _; refine xs_ext 1 ⟨_, _, rfl⟩ ?_) | (guard_target = XS _ _ (Stmt.Expr (Expr.Call (Expr.Attribute (Expr.Name "end" _) "extend" _) _ _ _) _) _ _; refine xs_ext 2 ⟨_, _, rfl⟩ ?_) | (guard_target = XS _ _ (Stmt.Expr (Expr.Call (Expr.Attribute (Expr.Name "number" _) "extend" _) _ _ _) _) _ _; refine xs_ext 3 ⟨_, _, rfl⟩ ?_) | (guard_target = XS _ _ (Stmt.Expr (Expr.Call (Expr.Attribute (Expr.Name "byte" _) "extend" _) _ _ _) _) _ _; refine xs_ext 4 ⟨_, _, rfl⟩ ?_))
theorem ok_read_number (T : Tx K mg) : FnOk P w K mg base (L2.CX P w) 3 T.f_read_number T.d_read_number ["data", "at"] (SpX K (RRdN T.C_InvalidBytes)) := by
  refine fn_okX T.F_read_number sc_read_number (fun ds Φ Ψ h => by obtain ⟨_, _, rfl, _⟩ := h; rfl) (fun cdv A outer s H E F hr ds Φ Ψ h hpo tk => ?_)
  have nd := sc_read_number.nd
  obtain ⟨data, a, rfl, hl, q⟩ := h
  refine xss <| xs_set 2 nd <| xe_n 1 rfl ?_
  dsimp only
  refine xss_mid (fun G => ∃ j : Nat, G = [.va (Il data), vI a, vI (a + j : Nat), .no, .no] ∧ RdEnd data a j) ?_ ?_
  · refine xs_while (fun m G => ∃ j : Nat, G = [.va (Il data), vI a, vI (a + j : Nat), .no, .no] ∧ m = data.length + 1 - (a + j) ∧ ∀ i, i < j → ∃ x, data[a + i]? = some x ∧ 128 ≤ x) ⟨_, _, ⟨0, rfl, rfl, fun i hi => by omega⟩, by walk_at "cov"⟩ ?_ hpo
    rintro m G ⟨j, rfl, rfl, hj⟩
    by_cases hlt : a + j < data.length
    · have hx : data[a + j]? = some (data[a + j]'hlt) := List.getElem?_eq_getElem hlt
      generalize data[a + j]'hlt = x at hx
      have ha : atI (data.map D.int) ((a + j : Nat) : Int) = some (.int x) := atI_D hx
      walk_at "go"
      · refine ⟨_, _, ?_, ⟨j + 1, rfl, rfl, fun i hi => ?_⟩, by walk_at "cov"⟩
        · omega
        · by_cases e : i = j
          · subst e; exact ⟨x, hx, by omega⟩
          · exact hj i (by omega)
      · exact ⟨_, ⟨j, rfl, hj, fun y hy => by rw [hx] at hy; cases hy; omega⟩, by walk_at "cov"⟩
      all_goals (exfalso; rw [List.length_map] at *; omega)
    · have hno : data[a + j]? = none := List.getElem?_eq_none (by omega)
      have hdec : ¬ (((a + j : Nat) : Int) < (((data.map D.int).length : Nat) : Int)) := by rw [List.length_map]; omega
      walk_at "go"
      · exact absurd h hdec
      · exact ⟨_, ⟨j, rfl, hj, fun y hy => by rw [hno] at hy; cases hy⟩, by walk_at "cov"⟩
  rintro G ⟨j, rfl, hj⟩
  obtain ⟨q1, q2⟩ := q j hj
  refine xss_mid (fun G => G = [.va (Il data), vI a, vI (a + j : Nat), .no, .no] ∧ ¬ BadN data a j) ?_ ?_
  · refine xs_if ?_
    by_cases hlt : a + j < data.length
    · have hx : data[a + j]? = some (data[a + j]'hlt) := List.getElem?_eq_getElem hlt
      generalize data[a + j]'hlt = x at hx
      have ha : atI (data.map D.int) ((a + j : Nat) : Int) = some (.int x) := atI_D hx
      walk_at "go"
      · exact q1 (.inl (by rw [List.length_map] at h; omega))
      · exact q1 (.inr ⟨by omega, by rw [hx, h]⟩)
      · refine ⟨_, ⟨rfl, fun z => ?_⟩, by walk_at "cov"⟩
        rcases z with z | ⟨_, z⟩
        · omega
        · rw [hx] at z; cases z; exact h rfl
      · refine ⟨_, ⟨rfl, fun z => ?_⟩, by walk_at "cov"⟩
        rcases z with z | ⟨z, _⟩ <;> omega
    · walk_at "go"
      · exact q1 (.inl (by omega))
      · exfalso; rw [List.length_map] at *; omega
      · exfalso; rw [List.length_map] at *; omega
  rintro G ⟨rfl, hb⟩
  have q3 := q2 hb
  have e : Pu.cutD (data.map D.int) (some (a : Int)) (some (((a + j : Nat) : Int) + 1)) = ((data.drop a).take (j + 1)).map D.int := by
    have e1 := cut_win D.int data a ((j : Int) + 1) (by omega)
    rw [Int.zero_add] at e1
    rw [show (((a + j : Nat) : Int) + 1) = (a : Int) + ((j : Int) + 1) by omega, e1, show ((j : Int) + 1).toNat = j + 1 by omega]
  generalize (data.drop a).take (j + 1) = wd at e q3
  walk_at "go"
  rw [e, ← List.map_reverse]
  refine ⟨fun i G => G = [.va (Il data), vI a, vI (a + j : Nat), vI ((wd.reverse.take i).foldl (fun c b => c * 128 + b % 128) 0), .no], ⟨_, rfl, by walk_at "cov"⟩, fun i d G hd eG => ?_, fun G eG => ?_⟩
  · subst eG
    obtain ⟨x, hx, rfl⟩ := get_map hd
    walk_at "go"
    rw [List.take_add_one, hx, Option.toList_some, List.foldl_append]
    walk_at "cov"
  · subst eG
    rw [List.length_map, List.take_length, List.foldl_reverse]
    walk_at "go"
    rw [show (((a + j : Nat) : Int) + 1) = ((a + j + 1 : Nat) : Int) by omega]
    exact q3

end
local macro_rules | `(tactic| walk_at "call") => `(tactic| ((guard_target = XE _ _ (Expr.Call (Expr.Name "read_number" _) _ _ _) _ _); refine xe_callX (ok_read_number T) hr.in1' T.m_read_number T.F_read_number.kp T.b_read_number tk ?_))
def ckS (t b : Int) : Int := (257 * t + b + 1) % 4294967296
def ckI (l : List Int) : Int := l.foldl ckS 5381
def RCk (ds : List D) (Φ : D → Prop) : Prop := ∃ l : List Int, ds = [Il l] ∧ Φ (.int (ckI l))
theorem ck_take {l : List Int} {i : Nat} {x : Int} (h : l[i]? = some x) : ckI (l.take (i + 1)) = ckS (ckI (l.take i)) x := by
  unfold ckI
  rw [List.take_add_one, h, List.foldl_append]; rfl
theorem ckS_range (t b : Int) : 0 ≤ ckS t b ∧ ckS t b < 4294967296 := ⟨Int.emod_nonneg _ (by decide), Int.emod_lt_of_pos _ (by decide)⟩
theorem ckS_inj {t u b : Int} (ht : 0 ≤ t ∧ t < 4294967296) (hu : 0 ≤ u ∧ u < 4294967296) (h : ckS t b = ckS u b) : t = u := by
  unfold ckS at h
  have h1 : (257 * (t - u)) % 4294967296 = 0 := by
    have := Int.emod_emod_of_dvd (257 * t + b + 1) (show (4294967296 : Int) ∣ 4294967296 from Int.dvd_refl _)
    omega
  have h2 : (4278255361 * (257 * (t - u))) % 4294967296 = 0 := by rw [Int.mul_emod, h1]; decide
  omega
theorem ckf_inj : ∀ (l : List Int) {t u : Int}, (0 ≤ t ∧ t < 4294967296) → (0 ≤ u ∧ u < 4294967296) → l.foldl ckS t = l.foldl ckS u → t = u
  | [], _, _, _, _, h => h
  | b :: l, _, _, ht, hu, h => ckS_inj ht hu (ckf_inj l (ckS_range _ _) (ckS_range _ _) h)
theorem ck_range (l : List Int) : 0 ≤ ckI l ∧ ckI l < 4294967296 := by
  unfold ckI
  rcases List.eq_nil_or_concat l with rfl | ⟨a, b, rfl⟩
  · decide
  · rw [List.concat_eq_append, List.foldl_append]; exact ckS_range _ _
/-- one byte changed, another sum -/
theorem ck_set {l : List Int} {i : Nat} {x y : Int} (h : l[i]? = some x) (hx : 0 ≤ x ∧ x < 256) (hy : 0 ≤ y ∧ y < 256) (ne : y ≠ x) : ckI (l.set i y) ≠ ckI l := by
  intro z
  have hi := (List.getElem?_eq_some_iff.mp h).1
  have e1 : l = l.take i ++ x :: l.drop (i + 1) := by
    have := (List.getElem?_eq_some_iff.mp h).2
    rw [← this]; simp
  have e2 : l.set i y = l.take i ++ y :: l.drop (i + 1) := by
    rw [List.set_eq_take_append_cons_drop, if_pos hi]
  rw [e2] at z
  have z2 : ckI (l.take i ++ y :: l.drop (i + 1)) = ckI (l.take i ++ x :: l.drop (i + 1)) := z.trans (congrArg ckI e1)
  unfold ckI at z2
  rw [List.foldl_append, List.foldl_append, List.foldl_cons, List.foldl_cons] at z2
  have z3 := ckf_inj _ (ckS_range _ _) (ckS_range _ _) z2
  have hr := ck_range (l.take i)
  unfold ckI at hr
  generalize (l.take i).foldl ckS 5381 = t at *
  unfold ckS at z3
  omega
section
local macro_rules | `(tactic| walk_at "n") => `(tactic| first | (guard_target = XE _ _ (Expr.Name "data" _) _ _; first | refine xe_n 0 rfl ?_ | refine xe_nf 0 rfl ?_) | (guard_target = XE _ _ (Expr.Name "total" _) _ _; first | refine xe_n 1 rfl ?_ | refine xe_nf 1 rfl ?_) | (guard_target = XE _ _ (Expr.Name "byte" _) _ _; first | refine xe_n 2 rfl ?_ | refine xe_nf 2 rfl ?_))
local macro_rules | `(tactic| walk_at "set") => `(tactic| first | (guard_target = XS _ _ (Stmt.Assign [Expr.Name "data" _] _ _) _ _; refine xs_set 0 nd ?_) | (guard_target = XS _ _ (Stmt.Assign [Expr.Name "total" _] _ _) _ _; refine xs_set 1 nd ?_) | (guard_target = XS _ _ (Stmt.Assign [Expr.Name "byte" _] _ _) _ _; refine xs_set 2 nd ?_))
local macro_rules | `(tactic| walk_at "own") => `(tactic| first | (guard_target = XS _ _ (Stmt.Assign [Expr.Name "data" _] _ _) _ _; refine xs_own 0 nd ?_) | (guard_target = XS _ _ (Stmt.Assign [Expr.Name "total" _] _ _) _ _; refine xs_own 1 nd ?_) | (guard_target = XS _ _ (Stmt.Assign [Expr.Name "byte" _] _ _) _ _; refine xs_own 2 nd ?_))
local macro_rules | `(tactic| walk_at "app") => `(tactic| first | (guard_target = XS _ _ (Stmt.Expr (Expr.Call (Expr.Attribute (Expr.Name "data" _) _ _) _ _ _) _) _ _; refine xs_app 0 ⟨_, _, rfl⟩ ?_) | (guard_target = XS _ _ (Stmt.Expr (Expr.Call (Expr.Attribute (Expr.Name "total" _) _ _) _ _ _) _) _ _; refine xs_app 1 ⟨_, _, rfl⟩ ?_) | (guard_target = XS _ _ (Stmt.Expr (Expr.Call (Expr.Attribute (Expr.Name "byte" _) _ _) _ _ _) _) _ _; refine xs_app 2 ⟨_, _, rfl⟩ ?_))
local macro_rules | `(tactic| walk_at "aug") => `(tactic| first | (guard_target = XS _ _ (Stmt.AugAssign (Expr.Name "data" _) _ _ _) _ _; refine xs_aug 0 nd rfl ?_) | (guard_target = XS _ _ (Stmt.AugAssign (Expr.Name "total" _) _ _ _) _ _; refine xs_aug 1 nd rfl ?_) | (guard_target = XS _ _ (Stmt.AugAssign (Expr.Name "byte" _) _ _ _) _ _; refine xs_aug 2 nd rfl ?_))
local macro_rules | `(tactic| walk_at "gn") => `(tactic| first | (guard_target = XG _ _ (Expr.Name "data" _) _ _ _ _; refine xg_n 0 nd ?_) | (guard_target = XG _ _ (Expr.Name "total" _) _ _ _ _; refine xg_n 1 nd ?_) | (guard_target = XG _ _ (Expr.Name "byte" _) _ _ _ _; refine xg_n 2 nd ?_))
local macro_rules | `(tactic| walk_at "leno") => `(tactic| first | (guard_target = XE _ _ (Expr.Call (Expr.Name "len" _) [Expr.Name "data" _] [] _) _ _; refine xe_leno 0 rfl T.z_len ?_) | (guard_target = XE _ _ (Expr.Call (Expr.Name "len" _) [Expr.Name "total" _] [] _) _ _; refine xe_leno 1 rfl T.z_len ?_) | (guard_target = XE _ _ (Expr.Call (Expr.Name "len" _) [Expr.Name "byte" _] [] _) _ _; refine xe_leno 2 rfl T.z_len ?_))
local macro_rules | `(tactic| walk_at "ixo") => `(tactic| first | (guard_target = XE _ _ (Expr.Subscript (Expr.Name "data" _) _ _) _ _; first | refine xe_ixoL 0 ⟨_, _, rfl⟩ ?_ | refine xe_dget 0 hu ⟨_, .ow rfl, .inl ⟨_, rfl⟩⟩ ?_ | refine xe_dget 0 hu ⟨_, .ow rfl, .inr ⟨_, rfl⟩⟩ ?_ | refine xe_dget 0 hu ⟨_, .va rfl, .inl ⟨_, rfl⟩⟩ ?_ | refine xe_dget 0 hu ⟨_, .va rfl, .inr ⟨_, rfl⟩⟩ ?_) | (guard_target = XE _ _ (Expr.Subscript (Expr.Name "total" _) _ _) _ _; first | refine xe_ixoL 1 ⟨_, _, rfl⟩ ?_ | refine xe_dget 1 hu ⟨_, .ow rfl, .inl ⟨_, rfl⟩⟩ ?_ | refine xe_dget 1 hu ⟨_, .ow rfl, .inr ⟨_, rfl⟩⟩ ?_ | refine xe_dget 1 hu ⟨_, .va rfl, .inl ⟨_, rfl⟩⟩ ?_ | refine xe_dget 1 hu ⟨_, .va rfl, .inr ⟨_, rfl⟩⟩ ?_) | (guard_target = XE _ _ (Expr.Subscript (Expr.Name "byte" _) _ _) _ _; first | refine xe_ixoL 2 ⟨_, _, rfl⟩ ?_ | refine xe_dget 2 hu ⟨_, .ow rfl, .inl ⟨_, rfl⟩⟩ ?_ | refine xe_dget 2 hu ⟨_, .ow rfl, .inr ⟨_, rfl⟩⟩ ?_ | refine xe_dget 2 hu ⟨_, .va rfl, .inl ⟨_, rfl⟩⟩ ?_ | refine xe_dget 2 hu ⟨_, .va rfl, .inr ⟨_, rfl⟩⟩ ?_))
local macro_rules | `(tactic| walk_at "sub") => `(tactic| first | (guard_target = XS _ _ (Stmt.Assign [Expr.Subscript (Expr.Name "data" _) _ _] _ _) _ _; first | refine xs_subL 0 ⟨_, _, rfl⟩ ?_ | refine xs_dput 0 hu ⟨_, _, rfl⟩ ?_) | (guard_target = XS _ _ (Stmt.Assign [Expr.Subscript (Expr.Name "total" _) _ _] _ _) _ _; first | refine xs_subL 1 ⟨_, _, rfl⟩ ?_ | refine xs_dput 1 hu ⟨_, _, rfl⟩ ?_) | (guard_target = XS _ _ (Stmt.Assign [Expr.Subscript (Expr.Name "byte" _) _ _] _ _) _ _; first | refine xs_subL 2 ⟨_, _, rfl⟩ ?_ | refine xs_dput 2 hu ⟨_, _, rfl⟩ ?_))
local macro_rules | `(tactic| walk_at "tino") => `(tactic| first | (guard_target = XT _ _ (Expr.Compare _ _ [Expr.Name "data" _] _) _ _; first | refine xt_inoL 0 ⟨_, _, rfl⟩ ?_ | refine xt_din 0 hu ⟨_, .ow rfl, .inl ⟨_, rfl⟩⟩ ?_ | refine xt_din 0 hu ⟨_, .ow rfl, .inr ⟨_, rfl⟩⟩ ?_ | refine xt_din 0 hu ⟨_, .va rfl, .inl ⟨_, rfl⟩⟩ ?_ | refine xt_din 0 hu ⟨_, .va rfl, .inr ⟨_, rfl⟩⟩ ?_) | (guard_target = XT _ _ (Expr.Compare _ _ [Expr.Name "total" _] _) _ _; first | refine xt_inoL 1 ⟨_, _, rfl⟩ ?_ | refine xt_din 1 hu ⟨_, .ow rfl, .inl ⟨_, rfl⟩⟩ ?_ | refine xt_din 1 hu ⟨_, .ow rfl, .inr ⟨_, rfl⟩⟩ ?_ | refine xt_din 1 hu ⟨_, .va rfl, .inl ⟨_, rfl⟩⟩ ?_ | refine xt_din 1 hu ⟨_, .va rfl, .inr ⟨_, rfl⟩⟩ ?_) | (guard_target = XT _ _ (Expr.Compare _ _ [Expr.Name "byte" _] _) _ _; first | refine xt_inoL 2 ⟨_, _, rfl⟩ ?_ | refine xt_din 2 hu ⟨_, .ow rfl, .inl ⟨_, rfl⟩⟩ ?_ | refine xt_din 2 hu ⟨_, .ow rfl, .inr ⟨_, rfl⟩⟩ ?_ | refine xt_din 2 hu ⟨_, .va rfl, .inl ⟨_, rfl⟩⟩ ?_ | refine xt_din 2 hu ⟨_, .va rfl, .inr ⟨_, rfl⟩⟩ ?_))
local macro_rules | `(tactic| walk_at "tnio") => `(tactic| first | (guard_target = XT _ _ (Expr.Compare _ _ [Expr.Name "data" _] _) _ _; first | refine xt_nioL 0 ⟨_, _, rfl⟩ ?_ | refine xt_dni 0 hu ⟨_, .ow rfl, .inl ⟨_, rfl⟩⟩ ?_ | refine xt_dni 0 hu ⟨_, .ow rfl, .inr ⟨_, rfl⟩⟩ ?_ | refine xt_dni 0 hu ⟨_, .va rfl, .inl ⟨_, rfl⟩⟩ ?_ | refine xt_dni 0 hu ⟨_, .va rfl, .inr ⟨_, rfl⟩⟩ ?_) | (guard_target = XT _ _ (Expr.Compare _ _ [Expr.Name "total" _] _) _ _; first | refine xt_nioL 1 ⟨_, _, rfl⟩ ?_ | refine xt_dni 1 hu ⟨_, .ow rfl, .inl ⟨_, rfl⟩⟩ ?_ | refine xt_dni 1 hu ⟨_, .ow rfl, .inr ⟨_, rfl⟩⟩ ?_ | refine xt_dni 1 hu ⟨_, .va rfl, .inl ⟨_, rfl⟩⟩ ?_ | refine xt_dni 1 hu ⟨_, .va rfl, .inr ⟨_, rfl⟩⟩ ?_) | (guard_target = XT _ _ (Expr.Compare _ _ [Expr.Name "byte" _] _) _ _; first | refine xt_nioL 2 ⟨_, _, rfl⟩ ?_ | refine xt_dni 2 hu ⟨_, .ow rfl, .inl ⟨_, rfl⟩⟩ ?_ | refine xt_dni 2 hu ⟨_, .ow rfl, .inr ⟨_, rfl⟩⟩ ?_ | refine xt_dni 2 hu ⟨_, .va rfl, .inl ⟨_, rfl⟩⟩ ?_ | refine xt_dni 2 hu ⟨_, .va rfl, .inr ⟨_, rfl⟩⟩ ?_))
local macro_rules | `(tactic| walk_at "tru") => `(tactic| first | (guard_target = XT _ _ (Expr.Name "data" _) _ _; refine xt_truO 0 rfl ?_) | (guard_target = XT _ _ (Expr.Name "total" _) _ _; refine xt_truO 1 rfl ?_) | (guard_target = XT _ _ (Expr.Name "byte" _) _ _; refine xt_truO 2 rfl ?_))
local macro_rules | `(tactic| walk_at "ldt") => `(tactic| first | (guard_target = XE _ _ (Expr.Call (Expr.Name "list" _) [Expr.Name "data" _] [] _) _ _; first | refine xe_listOw 0 rfl T.z_list ?_ | refine xe_listDT 0 rfl T.z_list ?_) | (guard_target = XE _ _ (Expr.Call (Expr.Name "list" _) [Expr.Name "total" _] [] _) _ _; first | refine xe_listOw 1 rfl T.z_list ?_ | refine xe_listDT 1 rfl T.z_list ?_) | (guard_target = XE _ _ (Expr.Call (Expr.Name "list" _) [Expr.Name "byte" _] [] _) _ _; first | refine xe_listOw 2 rfl T.z_list ?_ | refine xe_listDT 2 rfl T.z_list ?_))
local macro_rules | `(tactic| walk_at "xr") => `(tactic| first | (guard_target = XR _ _ (Expr.Name "data" _ :: _) _ _; refine xr_own 0 ⟨_, _, rfl⟩ ?_) | (guard_target = XR _ _ (Expr.Name "total" _ :: _) _ _; refine xr_own 1 ⟨_, _, rfl⟩ ?_) | (guard_target = XR _ _ (Expr.Name "byte" _ :: _) _ _; refine xr_own 2 ⟨_, _, rfl⟩ ?_))
local macro_rules | `(tactic| walk_at "fld") => `(tactic| first | (guard_target = XE _ _ (Expr.Attribute (Expr.Name "data" _) "data" _) _ _; refine xe_fldo 0 T.cl_ByteReader T.na_ByteReader_data rfl rfl ?_) | (guard_target = XE _ _ (Expr.Attribute (Expr.Name "total" _) "data" _) _ _; refine xe_fldo 1 T.cl_ByteReader T.na_ByteReader_data rfl rfl ?_) | (guard_target = XE _ _ (Expr.Attribute (Expr.Name "byte" _) "data" _) _ _; refine xe_fldo 2 T.cl_ByteReader T.na_ByteReader_data rfl rfl ?_))
local macro_rules | `(tactic| walk_at "sx") => `(tactic| first | (guard_target = XS _ _ (Stmt.Assign [Expr.Attribute (Expr.Name "data" _) "data" _] _ _) _ _; refine xs_flds 0 T.cl_ByteReader T.na_ByteReader_data ⟨_, _, rfl⟩ ?_) | (guard_target = XS _ _ (Stmt.Assign [Expr.Attribute (Expr.Name "total" _) "data" _] _ _) _ _; refine xs_flds 1 T.cl_ByteReader T.na_ByteReader_data ⟨_, _, rfl⟩ ?_) | (guard_target = XS _ _ (Stmt.Assign [Expr.Attribute (Expr.Name "byte" _) "data" _] _ _) _ _; refine xs_flds 2 T.cl_ByteReader T.na_ByteReader_data ⟨_, _, rfl⟩ ?_))
local macro_rules | `(tactic| walk_at "sx") => `(tactic| first | (guard_target = XS _ _ (Stmt.AugAssign (Expr.Attribute (Expr.Name "data" _) "data" _) .Add _ _) _ _; refine xs_flda 0 T.cl_ByteReader T.na_ByteReader_data rfl rfl ?_) | (guard_target = XS _ _ (Stmt.AugAssign (Expr.Attribute (Expr.Name "total" _) "data" _) .Add _ _) _ _; refine xs_flda 1 T.cl_ByteReader T.na_ByteReader_data rfl rfl ?_) | (guard_target = XS _ _ (Stmt.AugAssign (Expr.Attribute (Expr.Name "byte" _) "data" _) .Add _ _) _ _; refine xs_flda 2 T.cl_ByteReader T.na_ByteReader_data rfl rfl ?_))
local macro_rules | `(tactic| walk_at "fld") => `(tactic| first | (guard_target = XE _ _ (Expr.Attribute (Expr.Name "data" _) "at" _) _ _; refine xe_fldo 0 T.cl_ByteReader T.na_ByteReader_at rfl rfl ?_) | (guard_target = XE _ _ (Expr.Attribute (Expr.Name "total" _) "at" _) _ _; refine xe_fldo 1 T.cl_ByteReader T.na_ByteReader_at rfl rfl ?_) | (guard_target = XE _ _ (Expr.Attribute (Expr.Name "byte" _) "at" _) _ _; refine xe_fldo 2 T.cl_ByteReader T.na_ByteReader_at rfl rfl ?_))
local macro_rules | `(tactic| walk_at "sx") => `(tactic| first | (guard_target = XS _ _ (Stmt.Assign [Expr.Attribute (Expr.Name "data" _) "at" _] _ _) _ _; refine xs_flds 0 T.cl_ByteReader T.na_ByteReader_at ⟨_, _, rfl⟩ ?_) | (guard_target = XS _ _ (Stmt.Assign [Expr.Attribute (Expr.Name "total" _) "at" _] _ _) _ _; refine xs_flds 1 T.cl_ByteReader T.na_ByteReader_at ⟨_, _, rfl⟩ ?_) | (guard_target = XS _ _ (Stmt.Assign [Expr.Attribute (Expr.Name "byte" _) "at" _] _ _) _ _; refine xs_flds 2 T.cl_ByteReader T.na_ByteReader_at ⟨_, _, rfl⟩ ?_))
local macro_rules | `(tactic| walk_at "sx") => `(tactic| first | (guard_target = XS _ _ (Stmt.AugAssign (Expr.Attribute (Expr.Name "data" _) "at" _) .Add _ _) _ _; refine xs_flda 0 T.cl_ByteReader T.na_ByteReader_at rfl rfl ?_) | (guard_target = XS _ _ (Stmt.AugAssign (Expr.Attribute (Expr.Name "total" _) "at" _) .Add _ _) _ _; refine xs_flda 1 T.cl_ByteReader T.na_ByteReader_at rfl rfl ?_) | (guard_target = XS _ _ (Stmt.AugAssign (Expr.Attribute (Expr.Name "byte" _) "at" _) .Add _ _) _ _; refine xs_flda 2 T.cl_ByteReader T.na_ByteReader_at rfl rfl ?_))
local macro_rules | `(tactic| walk_at "ext") => `(tactic| first | (guard_target = XS _ _ (Stmt.Expr (Expr.Call (Expr.Attribute (Expr.Name "data" _) "extend" _) _ _ _) _) _ _; refine xs_ext 0 ⟨_, _, rfl⟩ ?_) | (guard_target = XS _ _ (Stmt.Expr (Expr.Call (Expr.Attribute (Expr.Name "total" _) "extend" _) _ _ _) _) _ _; refine xs_ext 1 ⟨_, _, rfl⟩ ?_) | (guard_target = XS _ _ (Stmt.Expr (Expr.Call (Expr.Attribute (Expr.Name "byte" _) "extend" _) _ _ _) _) _ _; refine xs_ext 2 ⟨_, _, rfl⟩ ?_))
theorem ok_check_sum (T : Tx K mg) : FnOk P w K mg base CX0 1 T.f_check_sum T.d_check_sum ["data"] (SpD K RCk) := by
  refine fn_okD T.F_check_sum sc_check_sum (fun ds Φ h => by obtain ⟨_, rfl, _⟩ := h; rfl) (fun cdv A outer s H E F hr ds Φ h => ?_)
  have nd := sc_check_sum.nd
  obtain ⟨l, rfl, q⟩ := h
  walk_at "st"
  refine ⟨fun i G => G = [.va (Il l), vI (ckI (l.take i)), .no], ⟨_, rfl, by walk_at "cov"⟩, fun i d G hd eG => ?_, fun G eG => ?_⟩
  · subst eG
    obtain ⟨x, hx, rfl⟩ := get_map hd
    walk_at "go"
    rw [ck_take hx]
    walk_at "cov"
  · subst eG
    rw [List.length_map, List.take_length]
    walk_at "go"
    exact q

end
local macro_rules | `(tactic| walk_at "call") => `(tactic| ((guard_target = XE _ _ (Expr.Call (Expr.Name "check_sum" _) _ _ _) _ _); refine xe_callx (ok_check_sum T) hr.in1' T.m_check_sum T.F_check_sum.kp T.b_check_sum ?_))
def fourI (n : Int) : List Int := [n % 256, n / 256 % 256, n / 65536 % 256, n / 16777216 % 256]
def sumB (l : List Int) : List Int := fourI (ckI l)
theorem sum_len (l : List Int) : (sumB l).length = 4 := rfl
theorem four_len (n : Int) : (fourI n).length = 4 := rfl
theorem four_bytes (n : Int) : ∀ x ∈ fourI n, 0 ≤ x ∧ x < 256 := fun x hx => by
  unfold fourI at hx
  simp only [List.mem_cons, List.not_mem_nil, or_false] at hx
  rcases hx with rfl | rfl | rfl | rfl <;> exact ⟨Int.emod_nonneg _ (by decide), Int.emod_lt_of_pos _ (by decide)⟩
theorem four_inj {m n : Int} (hm : 0 ≤ m ∧ m < 4294967296) (hn : 0 ≤ n ∧ n < 4294967296) (h : fourI m = fourI n) : m = n := by
  unfold fourI at h
  simp only [List.cons.injEq, and_true] at h
  omega
theorem sumB_inj {l m : List Int} (h : sumB l = sumB m) : ckI l = ckI m := four_inj (ck_range l) (ck_range m) h
/-- one byte changed: another sum -/
def RFour (ds : List D) (Φ : D → Prop) : Prop := ∃ n : Int, ds = [.int n] ∧ Φ (Il (fourI n))
def RSumB (ds : List D) (Φ : D → Prop) : Prop := ∃ l : List Int, ds = [Il l] ∧ Φ (Il (sumB l))
/-- one byte changed: another sum -/
theorem sumB_set {l : List Int} {i : Nat} {x y : Int} (h : l[i]? = some x) (hx : 0 ≤ x ∧ x < 256) (hy : 0 ≤ y ∧ y < 256) (ne : y ≠ x) : sumB (l.set i y) ≠ sumB l := fun z => ck_set h hx hy ne (sumB_inj z)
section
local macro_rules | `(tactic| walk_at "n") => `(tactic| first | (guard_target = XE _ _ (Expr.Name "n" _) _ _; first | refine xe_n 0 rfl ?_ | refine xe_nf 0 rfl ?_))
local macro_rules | `(tactic| walk_at "set") => `(tactic| first | (guard_target = XS _ _ (Stmt.Assign [Expr.Name "n" _] _ _) _ _; refine xs_set 0 nd ?_))
local macro_rules | `(tactic| walk_at "own") => `(tactic| first | (guard_target = XS _ _ (Stmt.Assign [Expr.Name "n" _] _ _) _ _; refine xs_own 0 nd ?_))
local macro_rules | `(tactic| walk_at "app") => `(tactic| first | (guard_target = XS _ _ (Stmt.Expr (Expr.Call (Expr.Attribute (Expr.Name "n" _) _ _) _ _ _) _) _ _; refine xs_app 0 ⟨_, _, rfl⟩ ?_))
local macro_rules | `(tactic| walk_at "aug") => `(tactic| first | (guard_target = XS _ _ (Stmt.AugAssign (Expr.Name "n" _) _ _ _) _ _; refine xs_aug 0 nd rfl ?_))
local macro_rules | `(tactic| walk_at "gn") => `(tactic| first | (guard_target = XG _ _ (Expr.Name "n" _) _ _ _ _; refine xg_n 0 nd ?_))
local macro_rules | `(tactic| walk_at "leno") => `(tactic| first | (guard_target = XE _ _ (Expr.Call (Expr.Name "len" _) [Expr.Name "n" _] [] _) _ _; refine xe_leno 0 rfl T.z_len ?_))
local macro_rules | `(tactic| walk_at "ixo") => `(tactic| first | (guard_target = XE _ _ (Expr.Subscript (Expr.Name "n" _) _ _) _ _; first | refine xe_ixoL 0 ⟨_, _, rfl⟩ ?_ | refine xe_dget 0 hu ⟨_, .ow rfl, .inl ⟨_, rfl⟩⟩ ?_ | refine xe_dget 0 hu ⟨_, .ow rfl, .inr ⟨_, rfl⟩⟩ ?_ | refine xe_dget 0 hu ⟨_, .va rfl, .inl ⟨_, rfl⟩⟩ ?_ | refine xe_dget 0 hu ⟨_, .va rfl, .inr ⟨_, rfl⟩⟩ ?_))
local macro_rules | `(tactic| walk_at "sub") => `(tactic| first | (guard_target = XS _ _ (Stmt.Assign [Expr.Subscript (Expr.Name "n" _) _ _] _ _) _ _; first | refine xs_subL 0 ⟨_, _, rfl⟩ ?_ | refine xs_dput 0 hu ⟨_, _, rfl⟩ ?_))
local macro_rules | `(tactic| walk_at "tino") => `(tactic| first | (guard_target = XT _ _ (Expr.Compare _ _ [Expr.Name "n" _] _) _ _; first | refine xt_inoL 0 ⟨_, _, rfl⟩ ?_ | refine xt_din 0 hu ⟨_, .ow rfl, .inl ⟨_, rfl⟩⟩ ?_ | refine xt_din 0 hu ⟨_, .ow rfl, .inr ⟨_, rfl⟩⟩ ?_ | refine xt_din 0 hu ⟨_, .va rfl, .inl ⟨_, rfl⟩⟩ ?_ | refine xt_din 0 hu ⟨_, .va rfl, .inr ⟨_, rfl⟩⟩ ?_))
local macro_rules | `(tactic| walk_at "tnio") => `(tactic| first | (guard_target = XT _ _ (Expr.Compare _ _ [Expr.Name "n" _] _) _ _; first | refine xt_nioL 0 ⟨_, _, rfl⟩ ?_ | refine xt_dni 0 hu ⟨_, .ow rfl, .inl ⟨_, rfl⟩⟩ ?_ | refine xt_dni 0 hu ⟨_, .ow rfl, .inr ⟨_, rfl⟩⟩ ?_ | refine xt_dni 0 hu ⟨_, .va rfl, .inl ⟨_, rfl⟩⟩ ?_ | refine xt_dni 0 hu ⟨_, .va rfl, .inr ⟨_, rfl⟩⟩ ?_))
local macro_rules | `(tactic| walk_at "tru") => `(tactic| first | (guard_target = XT _ _ (Expr.Name "n" _) _ _; refine xt_truO 0 rfl ?_))
local macro_rules | `(tactic| walk_at "ldt") => `(tactic| first | (guard_target = XE _ _ (Expr.Call (Expr.Name "list" _) [Expr.Name "n" _] [] _) _ _; first | refine xe_listOw 0 rfl T.z_list ?_ | refine xe_listDT 0 rfl T.z_list ?_))
local macro_rules | `(tactic| walk_at "xr") => `(tactic| first | (guard_target = XR _ _ (Expr.Name "n" _ :: _) _ _; refine xr_own 0 ⟨_, _, rfl⟩ ?_))
local macro_rules | `(tactic| walk_at "fld") => `(tactic| first | (guard_target = XE _ _ (Expr.Attribute (Expr.Name "n" _) "data" _) _ _; refine xe_fldo 0 T.cl_ByteReader T.na_ByteReader_data rfl rfl ?_))
local macro_rules | `(tactic| walk_at "sx") => `(tactic| first | (guard_target = XS _ _ (Stmt.Assign [Expr.Attribute (Expr.Name "n" _) "data" _] _ _) _ _; refine xs_flds 0 T.cl_ByteReader T.na_ByteReader_data ⟨_, _, rfl⟩ ?_))
local macro_rules | `(tactic| walk_at "sx") => `(tactic| first | (guard_target = XS _ _ (Stmt.AugAssign (Expr.Attribute (Expr.Name "n" _) "data" _) .Add _ _) _ _; refine xs_flda 0 T.cl_ByteReader T.na_ByteReader_data rfl rfl ?_))
local macro_rules | `(tactic| walk_at "fld") => `(tactic| first | (guard_target = XE _ _ (Expr.Attribute (Expr.Name "n" _) "at" _) _ _; refine xe_fldo 0 T.cl_ByteReader T.na_ByteReader_at rfl rfl ?_))
local macro_rules | `(tactic| walk_at "sx") => `(tactic| first | (guard_target = XS _ _ (Stmt.Assign [Expr.Attribute (Expr.Name "n" _) "at" _] _ _) _ _; refine xs_flds 0 T.cl_ByteReader T.na_ByteReader_at ⟨_, _, rfl⟩ ?_))
local macro_rules | `(tactic| walk_at "sx") => `(tactic| first | (guard_target = XS _ _ (Stmt.AugAssign (Expr.Attribute (Expr.Name "n" _) "at" _) .Add _ _) _ _; refine xs_flda 0 T.cl_ByteReader T.na_ByteReader_at rfl rfl ?_))
local macro_rules | `(tactic| walk_at "ext") => `(tactic| first | (guard_target = XS _ _ (Stmt.Expr (Expr.Call (Expr.Attribute (Expr.Name "n" _) "extend" _) _ _ _) _) _ _; refine xs_ext 0 ⟨_, _, rfl⟩ ?_))
theorem ok_write_four (T : Tx K mg) : FnOk P w K mg base CX0 1 T.f_write_four T.d_write_four ["n"] (SpD K RFour) := by
  refine fn_okD T.F_write_four sc_write_four (fun ds Φ h => by obtain ⟨_, rfl, _⟩ := h; rfl) (fun cdv A outer s H E F hr ds Φ h => ?_)
  have nd := sc_write_four.nd
  obtain ⟨n, rfl, q⟩ := h
  walk_at "st"
  exact q
end
local macro_rules | `(tactic| walk_at "call") => `(tactic| ((guard_target = XE _ _ (Expr.Call (Expr.Name "write_four" _) _ _ _) _ _); refine xe_callx (ok_write_four T) hr.in1' T.m_write_four T.F_write_four.kp T.b_write_four ?_))
section
local macro_rules | `(tactic| walk_at "n") => `(tactic| first | (guard_target = XE _ _ (Expr.Name "data" _) _ _; first | refine xe_n 0 rfl ?_ | refine xe_nf 0 rfl ?_))
local macro_rules | `(tactic| walk_at "set") => `(tactic| first | (guard_target = XS _ _ (Stmt.Assign [Expr.Name "data" _] _ _) _ _; refine xs_set 0 nd ?_))
local macro_rules | `(tactic| walk_at "own") => `(tactic| first | (guard_target = XS _ _ (Stmt.Assign [Expr.Name "data" _] _ _) _ _; refine xs_own 0 nd ?_))
local macro_rules | `(tactic| walk_at "app") => `(tactic| first | (guard_target = XS _ _ (Stmt.Expr (Expr.Call (Expr.Attribute (Expr.Name "data" _) _ _) _ _ _) _) _ _; refine xs_app 0 ⟨_, _, rfl⟩ ?_))
local macro_rules | `(tactic| walk_at "aug") => `(tactic| first | (guard_target = XS _ _ (Stmt.AugAssign (Expr.Name "data" _) _ _ _) _ _; refine xs_aug 0 nd rfl ?_))
local macro_rules | `(tactic| walk_at "gn") => `(tactic| first | (guard_target = XG _ _ (Expr.Name "data" _) _ _ _ _; refine xg_n 0 nd ?_))
local macro_rules | `(tactic| walk_at "leno") => `(tactic| first | (guard_target = XE _ _ (Expr.Call (Expr.Name "len" _) [Expr.Name "data" _] [] _) _ _; refine xe_leno 0 rfl T.z_len ?_))
local macro_rules | `(tactic| walk_at "ixo") => `(tactic| first | (guard_target = XE _ _ (Expr.Subscript (Expr.Name "data" _) _ _) _ _; first | refine xe_ixoL 0 ⟨_, _, rfl⟩ ?_ | refine xe_dget 0 hu ⟨_, .ow rfl, .inl ⟨_, rfl⟩⟩ ?_ | refine xe_dget 0 hu ⟨_, .ow rfl, .inr ⟨_, rfl⟩⟩ ?_ | refine xe_dget 0 hu ⟨_, .va rfl, .inl ⟨_, rfl⟩⟩ ?_ | refine xe_dget 0 hu ⟨_, .va rfl, .inr ⟨_, rfl⟩⟩ ?_))
local macro_rules | `(tactic| walk_at "sub") => `(tactic| first | (guard_target = XS _ _ (Stmt.Assign [Expr.Subscript (Expr.Name "data" _) _ _] _ _) _ _; first | refine xs_subL 0 ⟨_, _, rfl⟩ ?_ | refine xs_dput 0 hu ⟨_, _, rfl⟩ ?_))
local macro_rules | `(tactic| walk_at "tino") => `(tactic| first | (guard_target = XT _ _ (Expr.Compare _ _ [Expr.Name "data" _] _) _ _; first | refine xt_inoL 0 ⟨_, _, rfl⟩ ?_ | refine xt_din 0 hu ⟨_, .ow rfl, .inl ⟨_, rfl⟩⟩ ?_ | refine xt_din 0 hu ⟨_, .ow rfl, .inr ⟨_, rfl⟩⟩ ?_ | refine xt_din 0 hu ⟨_, .va rfl, .inl ⟨_, rfl⟩⟩ ?_ | refine xt_din 0 hu ⟨_, .va rfl, .inr ⟨_, rfl⟩⟩ ?_))
local macro_rules | `(tactic| walk_at "tnio") => `(tactic| first | (guard_target = XT _ _ (Expr.Compare _ _ [Expr.Name "data" _] _) _ _; first | refine xt_nioL 0 ⟨_, _, rfl⟩ ?_ | refine xt_dni 0 hu ⟨_, .ow rfl, .inl ⟨_, rfl⟩⟩ ?_ | refine xt_dni 0 hu ⟨_, .ow rfl, .inr ⟨_, rfl⟩⟩ ?_ | refine xt_dni 0 hu ⟨_, .va rfl, .inl ⟨_, rfl⟩⟩ ?_ | refine xt_dni 0 hu ⟨_, .va rfl, .inr ⟨_, rfl⟩⟩ ?_))
local macro_rules | `(tactic| walk_at "tru") => `(tactic| first | (guard_target = XT _ _ (Expr.Name "data" _) _ _; refine xt_truO 0 rfl ?_))
local macro_rules | `(tactic| walk_at "ldt") => `(tactic| first | (guard_target = XE _ _ (Expr.Call (Expr.Name "list" _) [Expr.Name "data" _] [] _) _ _; first | refine xe_listOw 0 rfl T.z_list ?_ | refine xe_listDT 0 rfl T.z_list ?_))
local macro_rules | `(tactic| walk_at "xr") => `(tactic| first | (guard_target = XR _ _ (Expr.Name "data" _ :: _) _ _; refine xr_own 0 ⟨_, _, rfl⟩ ?_))
local macro_rules | `(tactic| walk_at "fld") => `(tactic| first | (guard_target = XE _ _ (Expr.Attribute (Expr.Name "data" _) "data" _) _ _; refine xe_fldo 0 T.cl_ByteReader T.na_ByteReader_data rfl rfl ?_))
local macro_rules | `(tactic| walk_at "sx") => `(tactic| first | (guard_target = XS _ _ (Stmt.Assign [Expr.Attribute (Expr.Name "data" _) "data" _] _ _) _ _; refine xs_flds 0 T.cl_ByteReader T.na_ByteReader_data ⟨_, _, rfl⟩ ?_))
local macro_rules | `(tactic| walk_at "sx") => `(tactic| first | (guard_target = XS _ _ (Stmt.AugAssign (Expr.Attribute (Expr.Name "data" _) "data" _) .Add _ _) _ _; refine xs_flda 0 T.cl_ByteReader T.na_ByteReader_data rfl rfl ?_))
local macro_rules | `(tactic| walk_at "fld") => `(tactic| first | (guard_target = XE _ _ (Expr.Attribute (Expr.Name "data" _) "at" _) _ _; refine xe_fldo 0 T.cl_ByteReader T.na_ByteReader_at rfl rfl ?_))
local macro_rules | `(tactic| walk_at "sx") => `(tactic| first | (guard_target = XS _ _ (Stmt.Assign [Expr.Attribute (Expr.Name "data" _) "at" _] _ _) _ _; refine xs_flds 0 T.cl_ByteReader T.na_ByteReader_at ⟨_, _, rfl⟩ ?_))
local macro_rules | `(tactic| walk_at "sx") => `(tactic| first | (guard_target = XS _ _ (Stmt.AugAssign (Expr.Attribute (Expr.Name "data" _) "at" _) .Add _ _) _ _; refine xs_flda 0 T.cl_ByteReader T.na_ByteReader_at rfl rfl ?_))
local macro_rules | `(tactic| walk_at "ext") => `(tactic| first | (guard_target = XS _ _ (Stmt.Expr (Expr.Call (Expr.Attribute (Expr.Name "data" _) "extend" _) _ _ _) _) _ _; refine xs_ext 0 ⟨_, _, rfl⟩ ?_))
theorem ok_sum_bytes (T : Tx K mg) : FnOk P w K mg base CX0 2 T.f_sum_bytes T.d_sum_bytes ["data"] (SpD K RSumB) := by
  refine fn_okD T.F_sum_bytes sc_sum_bytes (fun ds Φ h => by obtain ⟨_, rfl, _⟩ := h; rfl) (fun cdv A outer s H E F hr ds Φ h => ?_)
  have nd := sc_sum_bytes.nd
  obtain ⟨l, rfl, q⟩ := h
  walk_at "st"
  refine ⟨l, rfl, ?_⟩
  walk_at "go"
  exact ⟨_, rfl, q⟩

end
local macro_rules | `(tactic| walk_at "call") => `(tactic| ((guard_target = XE _ _ (Expr.Call (Expr.Name "sum_bytes" _) _ _ _) _ _); refine xe_callx (ok_sum_bytes T) hr.in1' T.m_sum_bytes T.F_sum_bytes.kp T.b_sum_bytes ?_))
def rdO (C : Addr) (l : List Int) (a : Int) : D := .ins C [("data", Il l), ("at", .int a)]
theorem sda : ¬ (("data" : Str) = "at") := by decide
theorem put_at (d x y : D) : putD "at" d [(("data" : Str), x), (("at" : Str), y)] = ([("data", x), ("at", d)] : List (Str × D)) := by
  show (if ("data" : Str) = "at" then (("data" : Str), d) :: [(("at" : Str), y)] else (("data" : Str), x) :: (if ("at" : Str) = "at" then [(("at" : Str), d)] else (("at" : Str), y) :: putD "at" d [])) = _
  rw [if_neg sda, if_pos rfl]
theorem put_at1 (d x : D) : putD "at" d [(("data" : Str), x)] = ([("data", x), ("at", d)] : List (Str × D)) := by
  show (if ("data" : Str) = "at" then [(("data" : Str), d)] else (("data" : Str), x) :: [(("at" : Str), d)]) = _
  rw [if_neg sda]
theorem put_data (d : D) : putD "data" d [] = ([("data", d)] : List (Str × D)) := rfl
theorem rdO_at (C : Addr) (l : List Int) (a b : Int) : D.ins C (putD "at" (.int b) [("data", Il l), ("at", .int a)]) = rdO C l b := by rw [put_at]; rfl
def numsB (ns : List Nat) : List Int := numB ns.length ++ (ns.map numB).flatten
def RInit (C : Addr) (c : D) (ds : List D) (Φ : D → D → Prop) : Prop := ∃ l : List Int, c = .ins C [] ∧ ds = [Il l] ∧ Φ .non (rdO C l 0)
/-- the reader stands ahead of a number -/
def RTakeN (C : Addr) (c : D) (ds : List D) (Φ : D → D → Prop) : Prop := ∃ (pre suf : List Int) (n : Nat), c = rdO C (pre ++ (numB n ++ suf)) pre.length ∧ ds = [] ∧ (pre ++ (numB n ++ suf)).length ≤ 200000 ∧ Φ (.int n) (rdO C (pre ++ (numB n ++ suf)) (pre ++ numB n).length)
def RTakeNs (C : Addr) (c : D) (ds : List D) (Φ : D → D → Prop) : Prop := ∃ (pre suf : List Int) (ns : List Nat), c = rdO C (pre ++ (numsB ns ++ suf)) pre.length ∧ ds = [] ∧ (pre ++ (numsB ns ++ suf)).length ≤ 200000 ∧ ns.length ≤ 10000 ∧ Φ (Il (ns.map fun n : Nat => (n : Int))) (rdO C (pre ++ (numsB ns ++ suf)) (pre ++ numsB ns).length)
def RTakeE (C : Addr) (c : D) (ds : List D) (Φ : D → D → Prop) : Prop := ∃ l : List Int, c = rdO C l l.length ∧ ds = [] ∧ Φ .non (rdO C l l.length)
theorem rdn_good {pre suf : List Int} {n j : Nat} (hj : RdEnd (pre ++ (numB n ++ suf)) pre.length j) : ¬ BadN (pre ++ (numB n ++ suf)) pre.length j ∧ valB (((pre ++ (numB n ++ suf)).drop pre.length).take (j + 1)) = n ∧ pre.length + j + 1 = (pre ++ numB n).length := by
  obtain ⟨hs, t, p⟩ := numP n
  have e : numB n ++ suf = hs ++ t :: suf := by rw [p.eq]; simp
  rw [e] at hj ⊢
  have ej := hj.uniq (rd_at p.hi p.t1)
  subst ej
  refine ⟨fun z => ?_, ?_, ?_⟩
  · rcases z with z | ⟨z1, z2⟩
    · rw [List.length_append, List.length_append, List.length_cons] at z; omega
    · rw [rd_get] at z2
      cases z2
      exact p.nz (fun e => by rw [e] at z1; exact absurd z1 (by decide)) rfl
  · rw [rd_cut, p.val]
  · rw [List.length_append, p.eq, List.length_append]; rfl
section
local macro_rules | `(tactic| walk_at "n") => `(tactic| first | (guard_target = XE _ _ (Expr.Name "self" _) _ _; first | refine xe_n 0 rfl ?_ | refine xe_nf 0 rfl ?_) | (guard_target = XE _ _ (Expr.Name "data" _) _ _; first | refine xe_n 1 rfl ?_ | refine xe_nf 1 rfl ?_))
local macro_rules | `(tactic| walk_at "set") => `(tactic| first | (guard_target = XS _ _ (Stmt.Assign [Expr.Name "self" _] _ _) _ _; refine xs_set 0 nd ?_) | (guard_target = XS _ _ (Stmt.Assign [Expr.Name "data" _] _ _) _ _; refine xs_set 1 nd ?_))
local macro_rules | `(tactic| walk_at "own") => `(tactic| first | (guard_target = XS _ _ (Stmt.Assign [Expr.Name "self" _] _ _) _ _; refine xs_own 0 nd ?_) | (guard_target = XS _ _ (Stmt.Assign [Expr.Name "data" _] _ _) _ _; refine xs_own 1 nd ?_))
local macro_rules | `(tactic| walk_at "app") => `(tactic| first | (guard_target = XS _ _ (Stmt.Expr (Expr.Call (Expr.Attribute (Expr.Name "self" _) _ _) _ _ _) _) _ _; refine xs_app 0 ⟨_, _, rfl⟩ ?_) | (guard_target = XS _ _ (Stmt.Expr (Expr.Call (Expr.Attribute (Expr.Name "data" _) _ _) _ _ _) _) _ _; refine xs_app 1 ⟨_, _, rfl⟩ ?_))
local macro_rules | `(tactic| walk_at "aug") => `(tactic| first | (guard_target = XS _ _ (Stmt.AugAssign (Expr.Name "self" _) _ _ _) _ _; refine xs_aug 0 nd rfl ?_) | (guard_target = XS _ _ (Stmt.AugAssign (Expr.Name "data" _) _ _ _) _ _; refine xs_aug 1 nd rfl ?_))
local macro_rules | `(tactic| walk_at "gn") => `(tactic| first | (guard_target = XG _ _ (Expr.Name "self" _) _ _ _ _; refine xg_n 0 nd ?_) | (guard_target = XG _ _ (Expr.Name "data" _) _ _ _ _; refine xg_n 1 nd ?_))
local macro_rules | `(tactic| walk_at "leno") => `(tactic| first | (guard_target = XE _ _ (Expr.Call (Expr.Name "len" _) [Expr.Name "self" _] [] _) _ _; refine xe_leno 0 rfl T.z_len ?_) | (guard_target = XE _ _ (Expr.Call (Expr.Name "len" _) [Expr.Name "data" _] [] _) _ _; refine xe_leno 1 rfl T.z_len ?_))
local macro_rules | `(tactic| walk_at "ixo") => `(tactic| first | (guard_target = XE _ _ (Expr.Subscript (Expr.Name "self" _) _ _) _ _; first | refine xe_ixoL 0 ⟨_, _, rfl⟩ ?_ | refine xe_dget 0 hu ⟨_, .ow rfl, .inl ⟨_, rfl⟩⟩ ?_ | refine xe_dget 0 hu ⟨_, .ow rfl, .inr ⟨_, rfl⟩⟩ ?_ | refine xe_dget 0 hu ⟨_, .va rfl, .inl ⟨_, rfl⟩⟩ ?_ | refine xe_dget 0 hu ⟨_, .va rfl, .inr ⟨_, rfl⟩⟩ ?_) | (guard_target = XE _ _ (Expr.Subscript (Expr.Name "data" _) _ _) _ _; first | refine xe_ixoL 1 ⟨_, _, rfl⟩ ?_ | refine xe_dget 1 hu ⟨_, .ow rfl, .inl ⟨_, rfl⟩⟩ ?_ | refine xe_dget 1 hu ⟨_, .ow rfl, .inr ⟨_, rfl⟩⟩ ?_ | refine xe_dget 1 hu ⟨_, .va rfl, .inl ⟨_, rfl⟩⟩ ?_ | refine xe_dget 1 hu ⟨_, .va rfl, .inr ⟨_, rfl⟩⟩ ?_))
local macro_rules | `(tactic| walk_at "sub") => `(tactic| first | (guard_target = XS _ _ (Stmt.Assign [Expr.Subscript (Expr.Name "self" _) _ _] _ _) _ _; first | refine xs_subL 0 ⟨_, _, rfl⟩ ?_ | refine xs_dput 0 hu ⟨_, _, rfl⟩ ?_) | (guard_target = XS _ _ (Stmt.Assign [Expr.Subscript (Expr.Name "data" _) _ _] _ _) _ _; first | refine xs_subL 1 ⟨_, _, rfl⟩ ?_ | refine xs_dput 1 hu ⟨_, _, rfl⟩ ?_))
local macro_rules | `(tactic| walk_at "tino") => `(tactic| first | (guard_target = XT _ _ (Expr.Compare _ _ [Expr.Name "self" _] _) _ _; first | refine xt_inoL 0 ⟨_, _, rfl⟩ ?_ | refine xt_din 0 hu ⟨_, .ow rfl, .inl ⟨_, rfl⟩⟩ ?_ | refine xt_din 0 hu ⟨_, .ow rfl, .inr ⟨_, rfl⟩⟩ ?_ | refine xt_din 0 hu ⟨_, .va rfl, .inl ⟨_, rfl⟩⟩ ?_ | refine xt_din 0 hu ⟨_, .va rfl, .inr ⟨_, rfl⟩⟩ ?_) | (guard_target = XT _ _ (Expr.Compare _ _ [Expr.Name "data" _] _) _ _; first | refine xt_inoL 1 ⟨_, _, rfl⟩ ?_ | refine xt_din 1 hu ⟨_, .ow rfl, .inl ⟨_, rfl⟩⟩ ?_ | refine xt_din 1 hu ⟨_, .ow rfl, .inr ⟨_, rfl⟩⟩ ?_ | refine xt_din 1 hu ⟨_, .va rfl, .inl ⟨_, rfl⟩⟩ ?_ | refine xt_din 1 hu ⟨_, .va rfl, .inr ⟨_, rfl⟩⟩ ?_))
local macro_rules | `(tactic| walk_at "tnio") => `(tactic| first | (guard_target = XT _ _ (Expr.Compare _ _ [Expr.Name "self" _] _) _ _; first | refine xt_nioL 0 ⟨_, _, rfl⟩ ?_ | refine xt_dni 0 hu ⟨_, .ow rfl, .inl ⟨_, rfl⟩⟩ ?_ | refine xt_dni 0 hu ⟨_, .ow rfl, .inr ⟨_, rfl⟩⟩ ?_ | refine xt_dni 0 hu ⟨_, .va rfl, .inl ⟨_, rfl⟩⟩ ?_ | refine xt_dni 0 hu ⟨_, .va rfl, .inr ⟨_, rfl⟩⟩ ?_) | (guard_target = XT _ _ (Expr.Compare _ _ [Expr.Name "data" _] _) _ _; first | refine xt_nioL 1 ⟨_, _, rfl⟩ ?_ | refine xt_dni 1 hu ⟨_, .ow rfl, .inl ⟨_, rfl⟩⟩ ?_ | refine xt_dni 1 hu ⟨_, .ow rfl, .inr ⟨_, rfl⟩⟩ ?_ | refine xt_dni 1 hu ⟨_, .va rfl, .inl ⟨_, rfl⟩⟩ ?_ | refine xt_dni 1 hu ⟨_, .va rfl, .inr ⟨_, rfl⟩⟩ ?_))
local macro_rules | `(tactic| walk_at "tru") => `(tactic| first | (guard_target = XT _ _ (Expr.Name "self" _) _ _; refine xt_truO 0 rfl ?_) | (guard_target = XT _ _ (Expr.Name "data" _) _ _; refine xt_truO 1 rfl ?_))
local macro_rules | `(tactic| walk_at "ldt") => `(tactic| first | (guard_target = XE _ _ (Expr.Call (Expr.Name "list" _) [Expr.Name "self" _] [] _) _ _; first | refine xe_listOw 0 rfl T.z_list ?_ | refine xe_listDT 0 rfl T.z_list ?_) | (guard_target = XE _ _ (Expr.Call (Expr.Name "list" _) [Expr.Name "data" _] [] _) _ _; first | refine xe_listOw 1 rfl T.z_list ?_ | refine xe_listDT 1 rfl T.z_list ?_))
local macro_rules | `(tactic| walk_at "xr") => `(tactic| first | (guard_target = XR _ _ (Expr.Name "self" _ :: _) _ _; refine xr_own 0 ⟨_, _, rfl⟩ ?_) | (guard_target = XR _ _ (Expr.Name "data" _ :: _) _ _; refine xr_own 1 ⟨_, _, rfl⟩ ?_))
local macro_rules | `(tactic| walk_at "fld") => `(tactic| first | (guard_target = XE _ _ (Expr.Attribute (Expr.Name "self" _) "data" _) _ _; refine xe_fldo 0 T.cl_ByteReader T.na_ByteReader_data rfl rfl ?_) | (guard_target = XE _ _ (Expr.Attribute (Expr.Name "data" _) "data" _) _ _; refine xe_fldo 1 T.cl_ByteReader T.na_ByteReader_data rfl rfl ?_))
local macro_rules | `(tactic| walk_at "sx") => `(tactic| first | (guard_target = XS _ _ (Stmt.Assign [Expr.Attribute (Expr.Name "self" _) "data" _] _ _) _ _; refine xs_flds 0 T.cl_ByteReader T.na_ByteReader_data ⟨_, _, rfl⟩ ?_) | (guard_target = XS _ _ (Stmt.Assign [Expr.Attribute (Expr.Name "data" _) "data" _] _ _) _ _; refine xs_flds 1 T.cl_ByteReader T.na_ByteReader_data ⟨_, _, rfl⟩ ?_))
local macro_rules | `(tactic| walk_at "sx") => `(tactic| first | (guard_target = XS _ _ (Stmt.AugAssign (Expr.Attribute (Expr.Name "self" _) "data" _) .Add _ _) _ _; refine xs_flda 0 T.cl_ByteReader T.na_ByteReader_data rfl rfl ?_) | (guard_target = XS _ _ (Stmt.AugAssign (Expr.Attribute (Expr.Name "data" _) "data" _) .Add _ _) _ _; refine xs_flda 1 T.cl_ByteReader T.na_ByteReader_data rfl rfl ?_))
local macro_rules | `(tactic| walk_at "fld") => `(tactic| first | (guard_target = XE _ _ (Expr.Attribute (Expr.Name "self" _) "at" _) _ _; refine xe_fldo 0 T.cl_ByteReader T.na_ByteReader_at rfl rfl ?_) | (guard_target = XE _ _ (Expr.Attribute (Expr.Name "data" _) "at" _) _ _; refine xe_fldo 1 T.cl_ByteReader T.na_ByteReader_at rfl rfl ?_))
local macro_rules | `(tactic| walk_at "sx") => `(tactic| first | (guard_target = XS _ _ (Stmt.Assign [Expr.Attribute (Expr.Name "self" _) "at" _] _ _) _ _; refine xs_flds 0 T.cl_ByteReader T.na_ByteReader_at ⟨_, _, rfl⟩ ?_) | (guard_target = XS _ _ (Stmt.Assign [Expr.Attribute (Expr.Name "data" _) "at" _] _ _) _ _; refine xs_flds 1 T.cl_ByteReader T.na_ByteReader_at ⟨_, _, rfl⟩ ?_))
local macro_rules | `(tactic| walk_at "sx") => `(tactic| first | (guard_target = XS _ _ (Stmt.AugAssign (Expr.Attribute (Expr.Name "self" _) "at" _) .Add _ _) _ _; refine xs_flda 0 T.cl_ByteReader T.na_ByteReader_at rfl rfl ?_) | (guard_target = XS _ _ (Stmt.AugAssign (Expr.Attribute (Expr.Name "data" _) "at" _) .Add _ _) _ _; refine xs_flda 1 T.cl_ByteReader T.na_ByteReader_at rfl rfl ?_))
local macro_rules | `(tactic| walk_at "ext") => `(tactic| first | (guard_target = XS _ _ (Stmt.Expr (Expr.Call (Expr.Attribute (Expr.Name "self" _) "extend" _) _ _ _) _) _ _; refine xs_ext 0 ⟨_, _, rfl⟩ ?_) | (guard_target = XS _ _ (Stmt.Expr (Expr.Call (Expr.Attribute (Expr.Name "data" _) "extend" _) _ _ _) _) _ _; refine xs_ext 1 ⟨_, _, rfl⟩ ?_))
theorem ok_ByteReader_init__ (T : Tx K mg) : FnOk P w K mg base CX0 1 T.f_ByteReader_init__ T.d_ByteReader_init__ ["self", "data"] (SpB K (RInit T.C_ByteReader)) := by
  refine fn_okM T.F_ByteReader_init__ sc_ByteReader_init__ (fun c ds Φ h => by obtain ⟨_, rfl, rfl, _⟩ := h; rfl) (fun cdv A outer s H E F hr c ds Φ h => ?_)
  have nd := sc_ByteReader_init__.nd
  obtain ⟨l, rfl, rfl, q⟩ := h
  walk_at "st"
  rw [put_data]
  refine ⟨by show 1 < 900; decide, ?_⟩
  rw [put_at1]
  exact xss_nil ⟨_, rfl, q⟩
end
local macro_rules | `(tactic| walk_at "sx") => `(tactic| ((guard_target = XS _ _ (Stmt.Assign [Expr.Name _ _] (Expr.Call (Expr.Name "ByteReader" _) _ [] _) _) _ _); first | refine xs_mko 0 nd T.mk_ByteReader (ok_ByteReader_init__ T) (hr.mono (by decide)) T.g_ByteReader T.b_ByteReader_init__ ?_ | refine xs_mko 1 nd T.mk_ByteReader (ok_ByteReader_init__ T) (hr.mono (by decide)) T.g_ByteReader T.b_ByteReader_init__ ?_ | refine xs_mko 2 nd T.mk_ByteReader (ok_ByteReader_init__ T) (hr.mono (by decide)) T.g_ByteReader T.b_ByteReader_init__ ?_ | refine xs_mko 3 nd T.mk_ByteReader (ok_ByteReader_init__ T) (hr.mono (by decide)) T.g_ByteReader T.b_ByteReader_init__ ?_ | refine xs_mko 4 nd T.mk_ByteReader (ok_ByteReader_init__ T) (hr.mono (by decide)) T.g_ByteReader T.b_ByteReader_init__ ?_ | refine xs_mko 5 nd T.mk_ByteReader (ok_ByteReader_init__ T) (hr.mono (by decide)) T.g_ByteReader T.b_ByteReader_init__ ?_ | refine xs_mko 6 nd T.mk_ByteReader (ok_ByteReader_init__ T) (hr.mono (by decide)) T.g_ByteReader T.b_ByteReader_init__ ?_ | refine xs_mko 7 nd T.mk_ByteReader (ok_ByteReader_init__ T) (hr.mono (by decide)) T.g_ByteReader T.b_ByteReader_init__ ?_ | refine xs_mko 8 nd T.mk_ByteReader (ok_ByteReader_init__ T) (hr.mono (by decide)) T.g_ByteReader T.b_ByteReader_init__ ?_ | refine xs_mko 9 nd T.mk_ByteReader (ok_ByteReader_init__ T) (hr.mono (by decide)) T.g_ByteReader T.b_ByteReader_init__ ?_ | refine xs_mko 10 nd T.mk_ByteReader (ok_ByteReader_init__ T) (hr.mono (by decide)) T.g_ByteReader T.b_ByteReader_init__ ?_ | refine xs_mko 11 nd T.mk_ByteReader (ok_ByteReader_init__ T) (hr.mono (by decide)) T.g_ByteReader T.b_ByteReader_init__ ?_))
section
local macro_rules | `(tactic| walk_at "n") => `(tactic| first | (guard_target = XE _ _ (Expr.Name "self" _) _ _; first | refine xe_n 0 rfl ?_ | refine xe_nf 0 rfl ?_) | (guard_target = XE _ _ (Expr.Name "number" _) _ _; first | refine xe_n 1 rfl ?_ | refine xe_nf 1 rfl ?_) | (guard_target = XE _ _ (Expr.Name "behind" _) _ _; first | refine xe_n 2 rfl ?_ | refine xe_nf 2 rfl ?_))
local macro_rules | `(tactic| walk_at "set") => `(tactic| first | (guard_target = XS _ _ (Stmt.Assign [Expr.Name "self" _] _ _) _ _; refine xs_set 0 nd ?_) | (guard_target = XS _ _ (Stmt.Assign [Expr.Name "number" _] _ _) _ _; refine xs_set 1 nd ?_) | (guard_target = XS _ _ (Stmt.Assign [Expr.Name "behind" _] _ _) _ _; refine xs_set 2 nd ?_))
local macro_rules | `(tactic| walk_at "own") => `(tactic| first | (guard_target = XS _ _ (Stmt.Assign [Expr.Name "self" _] _ _) _ _; refine xs_own 0 nd ?_) | (guard_target = XS _ _ (Stmt.Assign [Expr.Name "number" _] _ _) _ _; refine xs_own 1 nd ?_) | (guard_target = XS _ _ (Stmt.Assign [Expr.Name "behind" _] _ _) _ _; refine xs_own 2 nd ?_))
local macro_rules | `(tactic| walk_at "app") => `(tactic| first | (guard_target = XS _ _ (Stmt.Expr (Expr.Call (Expr.Attribute (Expr.Name "self" _) _ _) _ _ _) _) _ _; refine xs_app 0 ⟨_, _, rfl⟩ ?_) | (guard_target = XS _ _ (Stmt.Expr (Expr.Call (Expr.Attribute (Expr.Name "number" _) _ _) _ _ _) _) _ _; refine xs_app 1 ⟨_, _, rfl⟩ ?_) | (guard_target = XS _ _ (Stmt.Expr (Expr.Call (Expr.Attribute (Expr.Name "behind" _) _ _) _ _ _) _) _ _; refine xs_app 2 ⟨_, _, rfl⟩ ?_))
local macro_rules | `(tactic| walk_at "aug") => `(tactic| first | (guard_target = XS _ _ (Stmt.AugAssign (Expr.Name "self" _) _ _ _) _ _; refine xs_aug 0 nd rfl ?_) | (guard_target = XS _ _ (Stmt.AugAssign (Expr.Name "number" _) _ _ _) _ _; refine xs_aug 1 nd rfl ?_) | (guard_target = XS _ _ (Stmt.AugAssign (Expr.Name "behind" _) _ _ _) _ _; refine xs_aug 2 nd rfl ?_))
local macro_rules | `(tactic| walk_at "gn") => `(tactic| first | (guard_target = XG _ _ (Expr.Name "self" _) _ _ _ _; refine xg_n 0 nd ?_) | (guard_target = XG _ _ (Expr.Name "number" _) _ _ _ _; refine xg_n 1 nd ?_) | (guard_target = XG _ _ (Expr.Name "behind" _) _ _ _ _; refine xg_n 2 nd ?_))
local macro_rules | `(tactic| walk_at "leno") => `(tactic| first | (guard_target = XE _ _ (Expr.Call (Expr.Name "len" _) [Expr.Name "self" _] [] _) _ _; refine xe_leno 0 rfl T.z_len ?_) | (guard_target = XE _ _ (Expr.Call (Expr.Name "len" _) [Expr.Name "number" _] [] _) _ _; refine xe_leno 1 rfl T.z_len ?_) | (guard_target = XE _ _ (Expr.Call (Expr.Name "len" _) [Expr.Name "behind" _] [] _) _ _; refine xe_leno 2 rfl T.z_len ?_))
local macro_rules | `(tactic| walk_at "ixo") => `(tactic| first | (guard_target = XE _ _ (Expr.Subscript (Expr.Name "self" _) _ _) _ _; first | refine xe_ixoL 0 ⟨_, _, rfl⟩ ?_ | refine xe_dget 0 hu ⟨_, .ow rfl, .inl ⟨_, rfl⟩⟩ ?_ | refine xe_dget 0 hu ⟨_, .ow rfl, .inr ⟨_, rfl⟩⟩ ?_ | refine xe_dget 0 hu ⟨_, .va rfl, .inl ⟨_, rfl⟩⟩ ?_ | refine xe_dget 0 hu ⟨_, .va rfl, .inr ⟨_, rfl⟩⟩ ?_) | (guard_target = XE _ _ (Expr.Subscript (Expr.Name "number" _) _ _) _ _; first | refine xe_ixoL 1 ⟨_, _, rfl⟩ ?_ | refine xe_dget 1 hu ⟨_, .ow rfl, .inl ⟨_, rfl⟩⟩ ?_ | refine xe_dget 1 hu ⟨_, .ow rfl, .inr ⟨_, rfl⟩⟩ ?_ | refine xe_dget 1 hu ⟨_, .va rfl, .inl ⟨_, rfl⟩⟩ ?_ | refine xe_dget 1 hu ⟨_, .va rfl, .inr ⟨_, rfl⟩⟩ ?_) | (guard_target = XE _ _ (Expr.Subscript (Expr.Name "behind" _) _ _) _ _; first | refine xe_ixoL 2 ⟨_, _, rfl⟩ ?_ | refine xe_dget 2 hu ⟨_, .ow rfl, .inl ⟨_, rfl⟩⟩ ?_ | refine xe_dget 2 hu ⟨_, .ow rfl, .inr ⟨_, rfl⟩⟩ ?_ | refine xe_dget 2 hu ⟨_, .va rfl, .inl ⟨_, rfl⟩⟩ ?_ | refine xe_dget 2 hu ⟨_, .va rfl, .inr ⟨_, rfl⟩⟩ ?_))
local macro_rules | `(tactic| walk_at "sub") => `(tactic| first | (guard_target = XS _ _ (Stmt.Assign [Expr.Subscript (Expr.Name "self" _) _ _] _ _) _ _; first | refine xs_subL 0 ⟨_, _, rfl⟩ ?_ | refine xs_dput 0 hu ⟨_, _, rfl⟩ ?_) | (guard_target = XS _ _ (Stmt.Assign [Expr.Subscript (Expr.Name "number" _) _ _] _ _) _ _; first | refine xs_subL 1 ⟨_, _, rfl⟩ ?_ | refine xs_dput 1 hu ⟨_, _, rfl⟩ ?_) | (guard_target = XS _ _ (Stmt.Assign [Expr.Subscript (Expr.Name "behind" _) _ _] _ _) _ _; first | refine xs_subL 2 ⟨_, _, rfl⟩ ?_ | refine xs_dput 2 hu ⟨_, _, rfl⟩ ?_))
local macro_rules | `(tactic| walk_at "tino") => `(tactic| first | (guard_target = XT _ _ (Expr.Compare _ _ [Expr.Name "self" _] _) _ _; first | refine xt_inoL 0 ⟨_, _, rfl⟩ ?_ | refine xt_din 0 hu ⟨_, .ow rfl, .inl ⟨_, rfl⟩⟩ ?_ | refine xt_din 0 hu ⟨_, .ow rfl, .inr ⟨_, rfl⟩⟩ ?_ | refine xt_din 0 hu ⟨_, .va rfl, .inl ⟨_, rfl⟩⟩ ?_ | refine xt_din 0 hu ⟨_, .va rfl, .inr ⟨_, rfl⟩⟩ ?_) | (guard_target = XT _ _ (Expr.Compare _ _ [Expr.Name "number" _] _) _ _; first | refine xt_inoL 1 ⟨_, _, rfl⟩ ?_ | refine xt_din 1 hu ⟨_, .ow rfl, .inl ⟨_, rfl⟩⟩ ?_ | refine xt_din 1 hu ⟨_, .ow rfl, .inr ⟨_, rfl⟩⟩ ?_ | refine xt_din 1 hu ⟨_, .va rfl, .inl ⟨_, rfl⟩⟩ ?_ | refine xt_din 1 hu ⟨_, .va rfl, .inr ⟨_, rfl⟩⟩ ?_) | (guard_target = XT _ _ (Expr.Compare _ _ [Expr.Name "behind" _] _) _ _; first | refine xt_inoL 2 ⟨_, _, rfl⟩ ?_ | refine xt_din 2 hu ⟨_, .ow rfl, .inl ⟨_, rfl⟩⟩ ?_ | refine xt_din 2 hu ⟨_, .ow rfl, .inr ⟨_, rfl⟩⟩ ?_ | refine xt_din 2 hu ⟨_, .va rfl, .inl ⟨_, rfl⟩⟩ ?_ | refine xt_din 2 hu ⟨_, .va rfl, .inr ⟨_, rfl⟩⟩ ?_))
local macro_rules | `(tactic| walk_at "tnio") => `(tactic| first | (guard_target = XT _ _ (Expr.Compare _ _ [Expr.Name "self" _] _) _ _; first | refine xt_nioL 0 ⟨_, _, rfl⟩ ?_ | refine xt_dni 0 hu ⟨_, .ow rfl, .inl ⟨_, rfl⟩⟩ ?_ | refine xt_dni 0 hu ⟨_, .ow rfl, .inr ⟨_, rfl⟩⟩ ?_ | refine xt_dni 0 hu ⟨_, .va rfl, .inl ⟨_, rfl⟩⟩ ?_ | refine xt_dni 0 hu ⟨_, .va rfl, .inr ⟨_, rfl⟩⟩ ?_) | (guard_target = XT _ _ (Expr.Compare _ _ [Expr.Name "number" _] _) _ _; first | refine xt_nioL 1 ⟨_, _, rfl⟩ ?_ | refine xt_dni 1 hu ⟨_, .ow rfl, .inl ⟨_, rfl⟩⟩ ?_ | refine xt_dni 1 hu ⟨_, .ow rfl, .inr ⟨_, rfl⟩⟩ ?_ | refine xt_dni 1 hu ⟨_, .va rfl, .inl ⟨_, rfl⟩⟩ ?_ | refine xt_dni 1 hu ⟨_, .va rfl, .inr ⟨_, rfl⟩⟩ ?_) | (guard_target = XT _ _ (Expr.Compare _ _ [Expr.Name "behind" _] _) _ _; first | refine xt_nioL 2 ⟨_, _, rfl⟩ ?_ | refine xt_dni 2 hu ⟨_, .ow rfl, .inl ⟨_, rfl⟩⟩ ?_ | refine xt_dni 2 hu ⟨_, .ow rfl, .inr ⟨_, rfl⟩⟩ ?_ | refine xt_dni 2 hu ⟨_, .va rfl, .inl ⟨_, rfl⟩⟩ ?_ | refine xt_dni 2 hu ⟨_, .va rfl, .inr ⟨_, rfl⟩⟩ ?_))
local macro_rules | `(tactic| walk_at "tru") => `(tactic| first | (guard_target = XT _ _ (Expr.Name "self" _) _ _; refine xt_truO 0 rfl ?_) | (guard_target = XT _ _ (Expr.Name "number" _) _ _; refine xt_truO 1 rfl ?_) | (guard_target = XT _ _ (Expr.Name "behind" _) _ _; refine xt_truO 2 rfl ?_))
local macro_rules | `(tactic| walk_at "ldt") => `(tactic| first | (guard_target = XE _ _ (Expr.Call (Expr.Name "list" _) [Expr.Name "self" _] [] _) _ _; first | refine xe_listOw 0 rfl T.z_list ?_ | refine xe_listDT 0 rfl T.z_list ?_) | (guard_target = XE _ _ (Expr.Call (Expr.Name "list" _) [Expr.Name "number" _] [] _) _ _; first | refine xe_listOw 1 rfl T.z_list ?_ | refine xe_listDT 1 rfl T.z_list ?_) | (guard_target = XE _ _ (Expr.Call (Expr.Name "list" _) [Expr.Name "behind" _] [] _) _ _; first | refine xe_listOw 2 rfl T.z_list ?_ | refine xe_listDT 2 rfl T.z_list ?_))
local macro_rules | `(tactic| walk_at "xr") => `(tactic| first | (guard_target = XR _ _ (Expr.Name "self" _ :: _) _ _; refine xr_own 0 ⟨_, _, rfl⟩ ?_) | (guard_target = XR _ _ (Expr.Name "number" _ :: _) _ _; refine xr_own 1 ⟨_, _, rfl⟩ ?_) | (guard_target = XR _ _ (Expr.Name "behind" _ :: _) _ _; refine xr_own 2 ⟨_, _, rfl⟩ ?_))
local macro_rules | `(tactic| walk_at "fld") => `(tactic| first | (guard_target = XE _ _ (Expr.Attribute (Expr.Name "self" _) "data" _) _ _; refine xe_fldo 0 T.cl_ByteReader T.na_ByteReader_data rfl rfl ?_) | (guard_target = XE _ _ (Expr.Attribute (Expr.Name "number" _) "data" _) _ _; refine xe_fldo 1 T.cl_ByteReader T.na_ByteReader_data rfl rfl ?_) | (guard_target = XE _ _ (Expr.Attribute (Expr.Name "behind" _) "data" _) _ _; refine xe_fldo 2 T.cl_ByteReader T.na_ByteReader_data rfl rfl ?_))
local macro_rules | `(tactic| walk_at "sx") => `(tactic| first | (guard_target = XS _ _ (Stmt.Assign [Expr.Attribute (Expr.Name "self" _) "data" _] _ _) _ _; refine xs_flds 0 T.cl_ByteReader T.na_ByteReader_data ⟨_, _, rfl⟩ ?_) | (guard_target = XS _ _ (Stmt.Assign [Expr.Attribute (Expr.Name "number" _) "data" _] _ _) _ _; refine xs_flds 1 T.cl_ByteReader T.na_ByteReader_data ⟨_, _, rfl⟩ ?_) | (guard_target = XS _ _ (Stmt.Assign [Expr.Attribute (Expr.Name "behind" _) "data" _] _ _) _ _; refine xs_flds 2 T.cl_ByteReader T.na_ByteReader_data ⟨_, _, rfl⟩ ?_))
local macro_rules | `(tactic| walk_at "sx") => `(tactic| first | (guard_target = XS _ _ (Stmt.AugAssign (Expr.Attribute (Expr.Name "self" _) "data" _) .Add _ _) _ _; refine xs_flda 0 T.cl_ByteReader T.na_ByteReader_data rfl rfl ?_) | (guard_target = XS _ _ (Stmt.AugAssign (Expr.Attribute (Expr.Name "number" _) "data" _) .Add _ _) _ _; refine xs_flda 1 T.cl_ByteReader T.na_ByteReader_data rfl rfl ?_) | (guard_target = XS _ _ (Stmt.AugAssign (Expr.Attribute (Expr.Name "behind" _) "data" _) .Add _ _) _ _; refine xs_flda 2 T.cl_ByteReader T.na_ByteReader_data rfl rfl ?_))
local macro_rules | `(tactic| walk_at "fld") => `(tactic| first | (guard_target = XE _ _ (Expr.Attribute (Expr.Name "self" _) "at" _) _ _; refine xe_fldo 0 T.cl_ByteReader T.na_ByteReader_at rfl rfl ?_) | (guard_target = XE _ _ (Expr.Attribute (Expr.Name "number" _) "at" _) _ _; refine xe_fldo 1 T.cl_ByteReader T.na_ByteReader_at rfl rfl ?_) | (guard_target = XE _ _ (Expr.Attribute (Expr.Name "behind" _) "at" _) _ _; refine xe_fldo 2 T.cl_ByteReader T.na_ByteReader_at rfl rfl ?_))
local macro_rules | `(tactic| walk_at "sx") => `(tactic| first | (guard_target = XS _ _ (Stmt.Assign [Expr.Attribute (Expr.Name "self" _) "at" _] _ _) _ _; refine xs_flds 0 T.cl_ByteReader T.na_ByteReader_at ⟨_, _, rfl⟩ ?_) | (guard_target = XS _ _ (Stmt.Assign [Expr.Attribute (Expr.Name "number" _) "at" _] _ _) _ _; refine xs_flds 1 T.cl_ByteReader T.na_ByteReader_at ⟨_, _, rfl⟩ ?_) | (guard_target = XS _ _ (Stmt.Assign [Expr.Attribute (Expr.Name "behind" _) "at" _] _ _) _ _; refine xs_flds 2 T.cl_ByteReader T.na_ByteReader_at ⟨_, _, rfl⟩ ?_))
local macro_rules | `(tactic| walk_at "sx") => `(tactic| first | (guard_target = XS _ _ (Stmt.AugAssign (Expr.Attribute (Expr.Name "self" _) "at" _) .Add _ _) _ _; refine xs_flda 0 T.cl_ByteReader T.na_ByteReader_at rfl rfl ?_) | (guard_target = XS _ _ (Stmt.AugAssign (Expr.Attribute (Expr.Name "number" _) "at" _) .Add _ _) _ _; refine xs_flda 1 T.cl_ByteReader T.na_ByteReader_at rfl rfl ?_) | (guard_target = XS _ _ (Stmt.AugAssign (Expr.Attribute (Expr.Name "behind" _) "at" _) .Add _ _) _ _; refine xs_flda 2 T.cl_ByteReader T.na_ByteReader_at rfl rfl ?_))
local macro_rules | `(tactic| walk_at "ext") => `(tactic| first | (guard_target = XS _ _ (Stmt.Expr (Expr.Call (Expr.Attribute (Expr.Name "self" _) "extend" _) _ _ _) _) _ _; refine xs_ext 0 ⟨_, _, rfl⟩ ?_) | (guard_target = XS _ _ (Stmt.Expr (Expr.Call (Expr.Attribute (Expr.Name "number" _) "extend" _) _ _ _) _) _ _; refine xs_ext 1 ⟨_, _, rfl⟩ ?_) | (guard_target = XS _ _ (Stmt.Expr (Expr.Call (Expr.Attribute (Expr.Name "behind" _) "extend" _) _ _ _) _) _ _; refine xs_ext 2 ⟨_, _, rfl⟩ ?_))
theorem ok_ByteReader_take_number (T : Tx K mg) : FnOk P w K mg base CX0 6 T.f_ByteReader_take_number T.d_ByteReader_take_number ["self"] (SpB K (RTakeN T.C_ByteReader)) := by
  refine fn_okM T.F_ByteReader_take_number sc_ByteReader_take_number (fun c ds Φ h => by obtain ⟨_, _, _, rfl, rfl, _⟩ := h; rfl) (fun cdv A outer s H E F hr c ds Φ h => ?_)
  have nd := sc_ByteReader_take_number.nd
  obtain ⟨pre, suf, n, rfl, rfl, hl, q⟩ := h
  apply xssn; (focus walk_at "nrm0")
  refine xs_try0 ?_
  walk_at "st"
  refine xe_callx (fn_cx0 (ok_read_number T)) hr.in1' T.m_read_number T.F_read_number.kp T.b_read_number ?_
  walk_at "go"
  refine ⟨_, _, rfl, hl, fun j hj => ?_⟩
  obtain ⟨g1, g2, g3⟩ := rdn_good hj
  refine ⟨fun z => g1 z, fun _ => ?_⟩
  rw [g2, g3]
  walk_at "go"
  rw [rdO_at]
  exact q
end
local macro_rules | `(tactic| walk_at "call") => `(tactic| ((guard_target = XE _ _ (Expr.Call (Expr.Attribute (Expr.Name _ _) "take_number" _) _ [] _) _ _); first | refine xe_metho0 0 T.cl_ByteReader T.me_ByteReader_take_number (ok_ByteReader_take_number T) hr.in1' T.b_ByteReader_take_number rfl rfl ?_ | refine xe_metho0 1 T.cl_ByteReader T.me_ByteReader_take_number (ok_ByteReader_take_number T) hr.in1' T.b_ByteReader_take_number rfl rfl ?_ | refine xe_metho0 2 T.cl_ByteReader T.me_ByteReader_take_number (ok_ByteReader_take_number T) hr.in1' T.b_ByteReader_take_number rfl rfl ?_ | refine xe_metho0 3 T.cl_ByteReader T.me_ByteReader_take_number (ok_ByteReader_take_number T) hr.in1' T.b_ByteReader_take_number rfl rfl ?_ | refine xe_metho0 4 T.cl_ByteReader T.me_ByteReader_take_number (ok_ByteReader_take_number T) hr.in1' T.b_ByteReader_take_number rfl rfl ?_ | refine xe_metho0 5 T.cl_ByteReader T.me_ByteReader_take_number (ok_ByteReader_take_number T) hr.in1' T.b_ByteReader_take_number rfl rfl ?_ | refine xe_metho0 6 T.cl_ByteReader T.me_ByteReader_take_number (ok_ByteReader_take_number T) hr.in1' T.b_ByteReader_take_number rfl rfl ?_ | refine xe_metho0 7 T.cl_ByteReader T.me_ByteReader_take_number (ok_ByteReader_take_number T) hr.in1' T.b_ByteReader_take_number rfl rfl ?_))
section
local macro_rules | `(tactic| walk_at "n") => `(tactic| first | (guard_target = XE _ _ (Expr.Name "self" _) _ _; first | refine xe_n 0 rfl ?_ | refine xe_nf 0 rfl ?_) | (guard_target = XE _ _ (Expr.Name "numbers" _) _ _; first | refine xe_n 1 rfl ?_ | refine xe_nf 1 rfl ?_) | (guard_target = XE _ _ (Expr.Name "_" _) _ _; first | refine xe_n 2 rfl ?_ | refine xe_nf 2 rfl ?_))
local macro_rules | `(tactic| walk_at "set") => `(tactic| first | (guard_target = XS _ _ (Stmt.Assign [Expr.Name "self" _] _ _) _ _; refine xs_set 0 nd ?_) | (guard_target = XS _ _ (Stmt.Assign [Expr.Name "numbers" _] _ _) _ _; refine xs_set 1 nd ?_) | (guard_target = XS _ _ (Stmt.Assign [Expr.Name "_" _] _ _) _ _; refine xs_set 2 nd ?_))
local macro_rules | `(tactic| walk_at "own") => `(tactic| first | (guard_target = XS _ _ (Stmt.Assign [Expr.Name "self" _] _ _) _ _; refine xs_own 0 nd ?_) | (guard_target = XS _ _ (Stmt.Assign [Expr.Name "numbers" _] _ _) _ _; refine xs_own 1 nd ?_) | (guard_target = XS _ _ (Stmt.Assign [Expr.Name "_" _] _ _) _ _; refine xs_own 2 nd ?_))
local macro_rules | `(tactic| walk_at "app") => `(tactic| first | (guard_target = XS _ _ (Stmt.Expr (Expr.Call (Expr.Attribute (Expr.Name "self" _) _ _) _ _ _) _) _ _; refine xs_app 0 ⟨_, _, rfl⟩ ?_) | (guard_target = XS _ _ (Stmt.Expr (Expr.Call (Expr.Attribute (Expr.Name "numbers" _) _ _) _ _ _) _) _ _; refine xs_app 1 ⟨_, _, rfl⟩ ?_) | (guard_target = XS _ _ (Stmt.Expr (Expr.Call (Expr.Attribute (Expr.Name "_" _) _ _) _ _ _) _) _ _; refine xs_app 2 ⟨_, _, rfl⟩ ?_))
local macro_rules | `(tactic| walk_at "aug") => `(tactic| first | (guard_target = XS _ _ (Stmt.AugAssign (Expr.Name "self" _) _ _ _) _ _; refine xs_aug 0 nd rfl ?_) | (guard_target = XS _ _ (Stmt.AugAssign (Expr.Name "numbers" _) _ _ _) _ _; refine xs_aug 1 nd rfl ?_) | (guard_target = XS _ _ (Stmt.AugAssign (Expr.Name "_" _) _ _ _) _ _; refine xs_aug 2 nd rfl ?_))
local macro_rules | `(tactic| walk_at "gn") => `(tactic| first | (guard_target = XG _ _ (Expr.Name "self" _) _ _ _ _; refine xg_n 0 nd ?_) | (guard_target = XG _ _ (Expr.Name "numbers" _) _ _ _ _; refine xg_n 1 nd ?_) | (guard_target = XG _ _ (Expr.Name "_" _) _ _ _ _; refine xg_n 2 nd ?_))
local macro_rules | `(tactic| walk_at "leno") => `(tactic| first | (guard_target = XE _ _ (Expr.Call (Expr.Name "len" _) [Expr.Name "self" _] [] _) _ _; refine xe_leno 0 rfl T.z_len ?_) | (guard_target = XE _ _ (Expr.Call (Expr.Name "len" _) [Expr.Name "numbers" _] [] _) _ _; refine xe_leno 1 rfl T.z_len ?_) | (guard_target = XE _ _ (Expr.Call (Expr.Name "len" _) [Expr.Name "_" _] [] _) _ _; refine xe_leno 2 rfl T.z_len ?_))
local macro_rules | `(tactic| walk_at "ixo") => `(tactic| first | (guard_target = XE _ _ (Expr.Subscript (Expr.Name "self" _) _ _) _ _; first | refine xe_ixoL 0 ⟨_, _, rfl⟩ ?_ | refine xe_dget 0 hu ⟨_, .ow rfl, .inl ⟨_, rfl⟩⟩ ?_ | refine xe_dget 0 hu ⟨_, .ow rfl, .inr ⟨_, rfl⟩⟩ ?_ | refine xe_dget 0 hu ⟨_, .va rfl, .inl ⟨_, rfl⟩⟩ ?_ | refine xe_dget 0 hu ⟨_, .va rfl, .inr ⟨_, rfl⟩⟩ ?_) | (guard_target = XE _ _ (Expr.Subscript (Expr.Name "numbers" _) _ _) _ _; first | refine xe_ixoL 1 ⟨_, _, rfl⟩ ?_ | refine xe_dget 1 hu ⟨_, .ow rfl, .inl ⟨_, rfl⟩⟩ ?_ | refine xe_dget 1 hu ⟨_, .ow rfl, .inr ⟨_, rfl⟩⟩ ?_ | refine xe_dget 1 hu ⟨_, .va rfl, .inl ⟨_, rfl⟩⟩ ?_ | refine xe_dget 1 hu ⟨_, .va rfl, .inr ⟨_, rfl⟩⟩ ?_) | (guard_target = XE _ _ (Expr.Subscript (Expr.Name "_" _) _ _) _ _; first | refine xe_ixoL 2 ⟨_, _, rfl⟩ ?_ | refine xe_dget 2 hu ⟨_, .ow rfl, .inl ⟨_, rfl⟩⟩ ?_ | refine xe_dget 2 hu ⟨_, .ow rfl, .inr ⟨_, rfl⟩⟩ ?_ | refine xe_dget 2 hu ⟨_, .va rfl, .inl ⟨_, rfl⟩⟩ ?_ | refine xe_dget 2 hu ⟨_, .va rfl, .inr ⟨_, rfl⟩⟩ ?_))
local macro_rules | `(tactic| walk_at "sub") => `(tactic| first | (guard_target = XS _ _ (Stmt.Assign [Expr.Subscript (Expr.Name "self" _) _ _] _ _) _ _; first | refine xs_subL 0 ⟨_, _, rfl⟩ ?_ | refine xs_dput 0 hu ⟨_, _, rfl⟩ ?_) | (guard_target = XS _ _ (Stmt.Assign [Expr.Subscript (Expr.Name "numbers" _) _ _] _ _) _ _; first | refine xs_subL 1 ⟨_, _, rfl⟩ ?_ | refine xs_dput 1 hu ⟨_, _, rfl⟩ ?_) | (guard_target = XS _ _ (Stmt.Assign [Expr.Subscript (Expr.Name "_" _) _ _] _ _) _ _; first | refine xs_subL 2 ⟨_, _, rfl⟩ ?_ | refine xs_dput 2 hu ⟨_, _, rfl⟩ ?_))
local macro_rules | `(tactic| walk_at "tino") => `(tactic| first | (guard_target = XT _ _ (Expr.Compare _ _ [Expr.Name "self" _] _) _ _; first | refine xt_inoL 0 ⟨_, _, rfl⟩ ?_ | refine xt_din 0 hu ⟨_, .ow rfl, .inl ⟨_, rfl⟩⟩ ?_ | refine xt_din 0 hu ⟨_, .ow rfl, .inr ⟨_, rfl⟩⟩ ?_ | refine xt_din 0 hu ⟨_, .va rfl, .inl ⟨_, rfl⟩⟩ ?_ | refine xt_din 0 hu ⟨_, .va rfl, .inr ⟨_, rfl⟩⟩ ?_) | (guard_target = XT _ _ (Expr.Compare _ _ [Expr.Name "numbers" _] _) _ _; first | refine xt_inoL 1 ⟨_, _, rfl⟩ ?_ | refine xt_din 1 hu ⟨_, .ow rfl, .inl ⟨_, rfl⟩⟩ ?_ | refine xt_din 1 hu ⟨_, .ow rfl, .inr ⟨_, rfl⟩⟩ ?_ | refine xt_din 1 hu ⟨_, .va rfl, .inl ⟨_, rfl⟩⟩ ?_ | refine xt_din 1 hu ⟨_, .va rfl, .inr ⟨_, rfl⟩⟩ ?_) | (guard_target = XT _ _ (Expr.Compare _ _ [Expr.Name "_" _] _) _ _; first | refine xt_inoL 2 ⟨_, _, rfl⟩ ?_ | refine xt_din 2 hu ⟨_, .ow rfl, .inl ⟨_, rfl⟩⟩ ?_ | refine xt_din 2 hu ⟨_, .ow rfl, .inr ⟨_, rfl⟩⟩ ?_ | refine xt_din 2 hu ⟨_, .va rfl, .inl ⟨_, rfl⟩⟩ ?_ | refine xt_din 2 hu ⟨_, .va rfl, .inr ⟨_, rfl⟩⟩ ?_))
local macro_rules | `(tactic| walk_at "tnio") => `(tactic| first | (guard_target = XT _ _ (Expr.Compare _ _ [Expr.Name "self" _] _) _ _; first | refine xt_nioL 0 ⟨_, _, rfl⟩ ?_ | refine xt_dni 0 hu ⟨_, .ow rfl, .inl ⟨_, rfl⟩⟩ ?_ | refine xt_dni 0 hu ⟨_, .ow rfl, .inr ⟨_, rfl⟩⟩ ?_ | refine xt_dni 0 hu ⟨_, .va rfl, .inl ⟨_, rfl⟩⟩ ?_ | refine xt_dni 0 hu ⟨_, .va rfl, .inr ⟨_, rfl⟩⟩ ?_) | (guard_target = XT _ _ (Expr.Compare _ _ [Expr.Name "numbers" _] _) _ _; first | refine xt_nioL 1 ⟨_, _, rfl⟩ ?_ | refine xt_dni 1 hu ⟨_, .ow rfl, .inl ⟨_, rfl⟩⟩ ?_ | refine xt_dni 1 hu ⟨_, .ow rfl, .inr ⟨_, rfl⟩⟩ ?_ | refine xt_dni 1 hu ⟨_, .va rfl, .inl ⟨_, rfl⟩⟩ ?_ | refine xt_dni 1 hu ⟨_, .va rfl, .inr ⟨_, rfl⟩⟩ ?_) | (guard_target = XT _ _ (Expr.Compare _ _ [Expr.Name "_" _] _) _ _; first | refine xt_nioL 2 ⟨_, _, rfl⟩ ?_ | refine xt_dni 2 hu ⟨_, .ow rfl, .inl ⟨_, rfl⟩⟩ ?_ | refine xt_dni 2 hu ⟨_, .ow rfl, .inr ⟨_, rfl⟩⟩ ?_ | refine xt_dni 2 hu ⟨_, .va rfl, .inl ⟨_, rfl⟩⟩ ?_ | refine xt_dni 2 hu ⟨_, .va rfl, .inr ⟨_, rfl⟩⟩ ?_))
local macro_rules | `(tactic| walk_at "tru") => `(tactic| first | (guard_target = XT _ _ (Expr.Name "self" _) _ _; refine xt_truO 0 rfl ?_) | (guard_target = XT _ _ (Expr.Name "numbers" _) _ _; refine xt_truO 1 rfl ?_) | (guard_target = XT _ _ (Expr.Name "_" _) _ _; refine xt_truO 2 rfl ?_))
local macro_rules | `(tactic| walk_at "ldt") => `(tactic| first | (guard_target = XE _ _ (Expr.Call (Expr.Name "list" _) [Expr.Name "self" _] [] _) _ _; first | refine xe_listOw 0 rfl T.z_list ?_ | refine xe_listDT 0 rfl T.z_list ?_) | (guard_target = XE _ _ (Expr.Call (Expr.Name "list" _) [Expr.Name "numbers" _] [] _) _ _; first | refine xe_listOw 1 rfl T.z_list ?_ | refine xe_listDT 1 rfl T.z_list ?_) | (guard_target = XE _ _ (Expr.Call (Expr.Name "list" _) [Expr.Name "_" _] [] _) _ _; first | refine xe_listOw 2 rfl T.z_list ?_ | refine xe_listDT 2 rfl T.z_list ?_))
local macro_rules | `(tactic| walk_at "xr") => `(tactic| first | (guard_target = XR _ _ (Expr.Name "self" _ :: _) _ _; refine xr_own 0 ⟨_, _, rfl⟩ ?_) | (guard_target = XR _ _ (Expr.Name "numbers" _ :: _) _ _; refine xr_own 1 ⟨_, _, rfl⟩ ?_) | (guard_target = XR _ _ (Expr.Name "_" _ :: _) _ _; refine xr_own 2 ⟨_, _, rfl⟩ ?_))
local macro_rules | `(tactic| walk_at "fld") => `(tactic| first | (guard_target = XE _ _ (Expr.Attribute (Expr.Name "self" _) "data" _) _ _; refine xe_fldo 0 T.cl_ByteReader T.na_ByteReader_data rfl rfl ?_) | (guard_target = XE _ _ (Expr.Attribute (Expr.Name "numbers" _) "data" _) _ _; refine xe_fldo 1 T.cl_ByteReader T.na_ByteReader_data rfl rfl ?_) | (guard_target = XE _ _ (Expr.Attribute (Expr.Name "_" _) "data" _) _ _; refine xe_fldo 2 T.cl_ByteReader T.na_ByteReader_data rfl rfl ?_))
local macro_rules | `(tactic| walk_at "sx") => `(tactic| first | (guard_target = XS _ _ (Stmt.Assign [Expr.Attribute (Expr.Name "self" _) "data" _] _ _) _ _; refine xs_flds 0 T.cl_ByteReader T.na_ByteReader_data ⟨_, _, rfl⟩ ?_) | (guard_target = XS _ _ (Stmt.Assign [Expr.Attribute (Expr.Name "numbers" _) "data" _] _ _) _ _; refine xs_flds 1 T.cl_ByteReader T.na_ByteReader_data ⟨_, _, rfl⟩ ?_) | (guard_target = XS _ _ (Stmt.Assign [Expr.Attribute (Expr.Name "_" _) "data" _] _ _) _ _; refine xs_flds 2 T.cl_ByteReader T.na_ByteReader_data ⟨_, _, rfl⟩ ?_))
local macro_rules | `(tactic| walk_at "sx") => `(tactic| first | (guard_target = XS _ _ (Stmt.AugAssign (Expr.Attribute (Expr.Name "self" _) "data" _) .Add _ _) _ _; refine xs_flda 0 T.cl_ByteReader T.na_ByteReader_data rfl rfl ?_) | (guard_target = XS _ _ (Stmt.AugAssign (Expr.Attribute (Expr.Name "numbers" _) "data" _) .Add _ _) _ _; refine xs_flda 1 T.cl_ByteReader T.na_ByteReader_data rfl rfl ?_) | (guard_target = XS _ _ (Stmt.AugAssign (Expr.Attribute (Expr.Name "_" _) "data" _) .Add _ _) _ _; refine xs_flda 2 T.cl_ByteReader T.na_ByteReader_data rfl rfl ?_))
local macro_rules | `(tactic| walk_at "fld") => `(tactic| first | (guard_target = XE _ _ (Expr.Attribute (Expr.Name "self" _) "at" _) _ _; refine xe_fldo 0 T.cl_ByteReader T.na_ByteReader_at rfl rfl ?_) | (guard_target = XE _ _ (Expr.Attribute (Expr.Name "numbers" _) "at" _) _ _; refine xe_fldo 1 T.cl_ByteReader T.na_ByteReader_at rfl rfl ?_) | (guard_target = XE _ _ (Expr.Attribute (Expr.Name "_" _) "at" _) _ _; refine xe_fldo 2 T.cl_ByteReader T.na_ByteReader_at rfl rfl ?_))
local macro_rules | `(tactic| walk_at "sx") => `(tactic| first | (guard_target = XS _ _ (Stmt.Assign [Expr.Attribute (Expr.Name "self" _) "at" _] _ _) _ _; refine xs_flds 0 T.cl_ByteReader T.na_ByteReader_at ⟨_, _, rfl⟩ ?_) | (guard_target = XS _ _ (Stmt.Assign [Expr.Attribute (Expr.Name "numbers" _) "at" _] _ _) _ _; refine xs_flds 1 T.cl_ByteReader T.na_ByteReader_at ⟨_, _, rfl⟩ ?_) | (guard_target = XS _ _ (Stmt.Assign [Expr.Attribute (Expr.Name "_" _) "at" _] _ _) _ _; refine xs_flds 2 T.cl_ByteReader T.na_ByteReader_at ⟨_, _, rfl⟩ ?_))
local macro_rules | `(tactic| walk_at "sx") => `(tactic| first | (guard_target = XS _ _ (Stmt.AugAssign (Expr.Attribute (Expr.Name "self" _) "at" _) .Add _ _) _ _; refine xs_flda 0 T.cl_ByteReader T.na_ByteReader_at rfl rfl ?_) | (guard_target = XS _ _ (Stmt.AugAssign (Expr.Attribute (Expr.Name "numbers" _) "at" _) .Add _ _) _ _; refine xs_flda 1 T.cl_ByteReader T.na_ByteReader_at rfl rfl ?_) | (guard_target = XS _ _ (Stmt.AugAssign (Expr.Attribute (Expr.Name "_" _) "at" _) .Add _ _) _ _; refine xs_flda 2 T.cl_ByteReader T.na_ByteReader_at rfl rfl ?_))
local macro_rules | `(tactic| walk_at "ext") => `(tactic| first | (guard_target = XS _ _ (Stmt.Expr (Expr.Call (Expr.Attribute (Expr.Name "self" _) "extend" _) _ _ _) _) _ _; refine xs_ext 0 ⟨_, _, rfl⟩ ?_) | (guard_target = XS _ _ (Stmt.Expr (Expr.Call (Expr.Attribute (Expr.Name "numbers" _) "extend" _) _ _ _) _) _ _; refine xs_ext 1 ⟨_, _, rfl⟩ ?_) | (guard_target = XS _ _ (Stmt.Expr (Expr.Call (Expr.Attribute (Expr.Name "_" _) "extend" _) _ _ _) _) _ _; refine xs_ext 2 ⟨_, _, rfl⟩ ?_))
theorem ok_ByteReader_take_numbers (T : Tx K mg) : FnOk P w K mg base CX0 8 T.f_ByteReader_take_numbers T.d_ByteReader_take_numbers ["self"] (SpB K (RTakeNs T.C_ByteReader)) := by
  refine fn_okM T.F_ByteReader_take_numbers sc_ByteReader_take_numbers (fun c ds Φ h => by obtain ⟨_, _, _, rfl, rfl, _⟩ := h; rfl) (fun cdv A outer s H E F hr c ds Φ h => ?_)
  have nd := sc_ByteReader_take_numbers.nd
  obtain ⟨pre, suf, ns, rfl, rfl, hl, hn, q⟩ := h
  have split0 : pre ++ (numsB ns ++ suf) = pre ++ (numB ns.length ++ ((ns.map numB).flatten ++ suf)) := by unfold numsB; simp
  have splitI : ∀ (i n : Nat), ns[i]? = some n → pre ++ (numsB ns ++ suf) = (pre ++ numB ns.length ++ ((ns.take i).map numB).flatten) ++ (numB n ++ (((ns.drop (i + 1)).map numB).flatten ++ suf)) := fun i n hi => by
    have e : ns = ns.take i ++ n :: ns.drop (i + 1) := by
      have := (List.getElem?_eq_some_iff.mp hi).2
      rw [← this]; simp
    have e2 : (ns.map numB).flatten = ((ns.take i).map numB).flatten ++ (numB n ++ ((ns.drop (i + 1)).map numB).flatten) := by
      conv => lhs; rw [e]
      rw [List.map_append, List.flatten_append, List.map_cons, List.flatten_cons]
    unfold numsB
    rw [e2]
    simp only [List.append_assoc]
  generalize hL : pre ++ (numsB ns ++ suf) = L at *
  walk_at "st"
  refine ⟨pre, (ns.map numB).flatten ++ suf, ns.length, by rw [split0]; rfl, rfl, by rw [← split0]; exact hl, ?_⟩
  rw [← split0]
  walk_at "go"
  refine ⟨fun i G => G = [.ow true (rdO T.C_ByteReader L (pre ++ numB ns.length ++ ((ns.take i).map numB).flatten).length), oIs false ((ns.take i).map fun n : Nat => (n : Int)), .no], ⟨_, rfl, ?_⟩, fun i d G hd eG => ?_, fun G eG => ?_⟩
  · rw [List.take_zero, List.map_nil, List.flatten_nil, List.append_nil]
    walk_at "cov"
  · subst eG
    obtain ⟨hi, rfl⟩ := get_range_int hd
    have hi2 : i < ns.length := by omega
    have hni : ns[i]? = some ns[i] := List.getElem?_eq_getElem hi2
    generalize ns[i] = n at hni
    have sp := splitI i n hni
    have e0 : (((ns.take i).map fun n : Nat => (n : Int)).map D.int).length < 1000000 := by rw [List.length_map, List.length_map, List.length_take]; omega
    have tk2 : ns.take (i + 1) = ns.take i ++ [n] := by rw [List.take_add_one, hni]; rfl
    walk_at "go"
    refine ⟨_, _, n, by rw [← sp]; rfl, rfl, by rw [← sp]; exact hl, ?_⟩
    rw [← sp]
    walk_at "go"
    rw [tk2, List.map_append, List.flatten_append, List.map_append, ← List.append_assoc]
    simp only [List.map_cons, List.map_nil, List.flatten_cons, List.flatten_nil, List.append_nil]
    walk_at "cova"
  · subst eG
    rw [List.length_map, List.length_range, Int.toNat_natCast, List.take_length]
    rw [show pre ++ numB ns.length ++ (ns.map numB).flatten = pre ++ numsB ns by unfold numsB; simp]
    walk_at "go"
    exact q
end
local macro_rules | `(tactic| walk_at "call") => `(tactic| ((guard_target = XE _ _ (Expr.Call (Expr.Attribute (Expr.Name _ _) "take_numbers" _) _ [] _) _ _); first | refine xe_metho0 0 T.cl_ByteReader T.me_ByteReader_take_numbers (ok_ByteReader_take_numbers T) hr.in1' T.b_ByteReader_take_numbers rfl rfl ?_ | refine xe_metho0 1 T.cl_ByteReader T.me_ByteReader_take_numbers (ok_ByteReader_take_numbers T) hr.in1' T.b_ByteReader_take_numbers rfl rfl ?_ | refine xe_metho0 2 T.cl_ByteReader T.me_ByteReader_take_numbers (ok_ByteReader_take_numbers T) hr.in1' T.b_ByteReader_take_numbers rfl rfl ?_ | refine xe_metho0 3 T.cl_ByteReader T.me_ByteReader_take_numbers (ok_ByteReader_take_numbers T) hr.in1' T.b_ByteReader_take_numbers rfl rfl ?_ | refine xe_metho0 4 T.cl_ByteReader T.me_ByteReader_take_numbers (ok_ByteReader_take_numbers T) hr.in1' T.b_ByteReader_take_numbers rfl rfl ?_ | refine xe_metho0 5 T.cl_ByteReader T.me_ByteReader_take_numbers (ok_ByteReader_take_numbers T) hr.in1' T.b_ByteReader_take_numbers rfl rfl ?_ | refine xe_metho0 6 T.cl_ByteReader T.me_ByteReader_take_numbers (ok_ByteReader_take_numbers T) hr.in1' T.b_ByteReader_take_numbers rfl rfl ?_ | refine xe_metho0 7 T.cl_ByteReader T.me_ByteReader_take_numbers (ok_ByteReader_take_numbers T) hr.in1' T.b_ByteReader_take_numbers rfl rfl ?_))
section
local macro_rules | `(tactic| walk_at "n") => `(tactic| first | (guard_target = XE _ _ (Expr.Name "self" _) _ _; first | refine xe_n 0 rfl ?_ | refine xe_nf 0 rfl ?_))
local macro_rules | `(tactic| walk_at "set") => `(tactic| first | (guard_target = XS _ _ (Stmt.Assign [Expr.Name "self" _] _ _) _ _; refine xs_set 0 nd ?_))
local macro_rules | `(tactic| walk_at "own") => `(tactic| first | (guard_target = XS _ _ (Stmt.Assign [Expr.Name "self" _] _ _) _ _; refine xs_own 0 nd ?_))
local macro_rules | `(tactic| walk_at "app") => `(tactic| first | (guard_target = XS _ _ (Stmt.Expr (Expr.Call (Expr.Attribute (Expr.Name "self" _) _ _) _ _ _) _) _ _; refine xs_app 0 ⟨_, _, rfl⟩ ?_))
local macro_rules | `(tactic| walk_at "aug") => `(tactic| first | (guard_target = XS _ _ (Stmt.AugAssign (Expr.Name "self" _) _ _ _) _ _; refine xs_aug 0 nd rfl ?_))
local macro_rules | `(tactic| walk_at "gn") => `(tactic| first | (guard_target = XG _ _ (Expr.Name "self" _) _ _ _ _; refine xg_n 0 nd ?_))
local macro_rules | `(tactic| walk_at "leno") => `(tactic| first | (guard_target = XE _ _ (Expr.Call (Expr.Name "len" _) [Expr.Name "self" _] [] _) _ _; refine xe_leno 0 rfl T.z_len ?_))
local macro_rules | `(tactic| walk_at "ixo") => `(tactic| first | (guard_target = XE _ _ (Expr.Subscript (Expr.Name "self" _) _ _) _ _; first | refine xe_ixoL 0 ⟨_, _, rfl⟩ ?_ | refine xe_dget 0 hu ⟨_, .ow rfl, .inl ⟨_, rfl⟩⟩ ?_ | refine xe_dget 0 hu ⟨_, .ow rfl, .inr ⟨_, rfl⟩⟩ ?_ | refine xe_dget 0 hu ⟨_, .va rfl, .inl ⟨_, rfl⟩⟩ ?_ | refine xe_dget 0 hu ⟨_, .va rfl, .inr ⟨_, rfl⟩⟩ ?_))
local macro_rules | `(tactic| walk_at "sub") => `(tactic| first | (guard_target = XS _ _ (Stmt.Assign [Expr.Subscript (Expr.Name "self" _) _ _] _ _) _ _; first | refine xs_subL 0 ⟨_, _, rfl⟩ ?_ | refine xs_dput 0 hu ⟨_, _, rfl⟩ ?_))
local macro_rules | `(tactic| walk_at "tino") => `(tactic| first | (guard_target = XT _ _ (Expr.Compare _ _ [Expr.Name "self" _] _) _ _; first | refine xt_inoL 0 ⟨_, _, rfl⟩ ?_ | refine xt_din 0 hu ⟨_, .ow rfl, .inl ⟨_, rfl⟩⟩ ?_ | refine xt_din 0 hu ⟨_, .ow rfl, .inr ⟨_, rfl⟩⟩ ?_ | refine xt_din 0 hu ⟨_, .va rfl, .inl ⟨_, rfl⟩⟩ ?_ | refine xt_din 0 hu ⟨_, .va rfl, .inr ⟨_, rfl⟩⟩ ?_))
local macro_rules | `(tactic| walk_at "tnio") => `(tactic| first | (guard_target = XT _ _ (Expr.Compare _ _ [Expr.Name "self" _] _) _ _; first | refine xt_nioL 0 ⟨_, _, rfl⟩ ?_ | refine xt_dni 0 hu ⟨_, .ow rfl, .inl ⟨_, rfl⟩⟩ ?_ | refine xt_dni 0 hu ⟨_, .ow rfl, .inr ⟨_, rfl⟩⟩ ?_ | refine xt_dni 0 hu ⟨_, .va rfl, .inl ⟨_, rfl⟩⟩ ?_ | refine xt_dni 0 hu ⟨_, .va rfl, .inr ⟨_, rfl⟩⟩ ?_))
local macro_rules | `(tactic| walk_at "tru") => `(tactic| first | (guard_target = XT _ _ (Expr.Name "self" _) _ _; refine xt_truO 0 rfl ?_))
local macro_rules | `(tactic| walk_at "ldt") => `(tactic| first | (guard_target = XE _ _ (Expr.Call (Expr.Name "list" _) [Expr.Name "self" _] [] _) _ _; first | refine xe_listOw 0 rfl T.z_list ?_ | refine xe_listDT 0 rfl T.z_list ?_))
local macro_rules | `(tactic| walk_at "xr") => `(tactic| first | (guard_target = XR _ _ (Expr.Name "self" _ :: _) _ _; refine xr_own 0 ⟨_, _, rfl⟩ ?_))
local macro_rules | `(tactic| walk_at "fld") => `(tactic| first | (guard_target = XE _ _ (Expr.Attribute (Expr.Name "self" _) "data" _) _ _; refine xe_fldo 0 T.cl_ByteReader T.na_ByteReader_data rfl rfl ?_))
local macro_rules | `(tactic| walk_at "sx") => `(tactic| first | (guard_target = XS _ _ (Stmt.Assign [Expr.Attribute (Expr.Name "self" _) "data" _] _ _) _ _; refine xs_flds 0 T.cl_ByteReader T.na_ByteReader_data ⟨_, _, rfl⟩ ?_))
local macro_rules | `(tactic| walk_at "sx") => `(tactic| first | (guard_target = XS _ _ (Stmt.AugAssign (Expr.Attribute (Expr.Name "self" _) "data" _) .Add _ _) _ _; refine xs_flda 0 T.cl_ByteReader T.na_ByteReader_data rfl rfl ?_))
local macro_rules | `(tactic| walk_at "fld") => `(tactic| first | (guard_target = XE _ _ (Expr.Attribute (Expr.Name "self" _) "at" _) _ _; refine xe_fldo 0 T.cl_ByteReader T.na_ByteReader_at rfl rfl ?_))
local macro_rules | `(tactic| walk_at "sx") => `(tactic| first | (guard_target = XS _ _ (Stmt.Assign [Expr.Attribute (Expr.Name "self" _) "at" _] _ _) _ _; refine xs_flds 0 T.cl_ByteReader T.na_ByteReader_at ⟨_, _, rfl⟩ ?_))
local macro_rules | `(tactic| walk_at "sx") => `(tactic| first | (guard_target = XS _ _ (Stmt.AugAssign (Expr.Attribute (Expr.Name "self" _) "at" _) .Add _ _) _ _; refine xs_flda 0 T.cl_ByteReader T.na_ByteReader_at rfl rfl ?_))
local macro_rules | `(tactic| walk_at "ext") => `(tactic| first | (guard_target = XS _ _ (Stmt.Expr (Expr.Call (Expr.Attribute (Expr.Name "self" _) "extend" _) _ _ _) _) _ _; refine xs_ext 0 ⟨_, _, rfl⟩ ?_))
theorem ok_ByteReader_take_end (T : Tx K mg) : FnOk P w K mg base CX0 4 T.f_ByteReader_take_end T.d_ByteReader_take_end ["self"] (SpB K (RTakeE T.C_ByteReader)) := by
  refine fn_okM T.F_ByteReader_take_end sc_ByteReader_take_end (fun c ds Φ h => by obtain ⟨_, rfl, rfl, _⟩ := h; rfl) (fun cdv A outer s H E F hr c ds Φ h => ?_)
  have nd := sc_ByteReader_take_end.nd
  have tk : TkX (CXf P w K mg base n_ByteReader_take_end "ByteReader.take_end" s_ByteReader_take_end T.f_ByteReader_take_end cdv A outer s H E) F (fun _ _ _ => False) := tk_none
  obtain ⟨l, rfl, rfl, q⟩ := h
  walk_at "st"
  · rw [List.length_map] at h; omega
  · exact q

end
local macro_rules | `(tactic| walk_at "call") => `(tactic| ((guard_target = XE _ _ (Expr.Call (Expr.Attribute (Expr.Name _ _) "take_end" _) _ [] _) _ _); first | refine xe_metho0 0 T.cl_ByteReader T.me_ByteReader_take_end (ok_ByteReader_take_end T) hr.in1' T.b_ByteReader_take_end rfl rfl ?_ | refine xe_metho0 1 T.cl_ByteReader T.me_ByteReader_take_end (ok_ByteReader_take_end T) hr.in1' T.b_ByteReader_take_end rfl rfl ?_ | refine xe_metho0 2 T.cl_ByteReader T.me_ByteReader_take_end (ok_ByteReader_take_end T) hr.in1' T.b_ByteReader_take_end rfl rfl ?_ | refine xe_metho0 3 T.cl_ByteReader T.me_ByteReader_take_end (ok_ByteReader_take_end T) hr.in1' T.b_ByteReader_take_end rfl rfl ?_ | refine xe_metho0 4 T.cl_ByteReader T.me_ByteReader_take_end (ok_ByteReader_take_end T) hr.in1' T.b_ByteReader_take_end rfl rfl ?_ | refine xe_metho0 5 T.cl_ByteReader T.me_ByteReader_take_end (ok_ByteReader_take_end T) hr.in1' T.b_ByteReader_take_end rfl rfl ?_ | refine xe_metho0 6 T.cl_ByteReader T.me_ByteReader_take_end (ok_ByteReader_take_end T) hr.in1' T.b_ByteReader_take_end rfl rfl ?_ | refine xe_metho0 7 T.cl_ByteReader T.me_ByteReader_take_end (ok_ByteReader_take_end T) hr.in1' T.b_ByteReader_take_end rfl rfl ?_))
abbrev nI2 (ns : List Nat) : List Int := ns.map fun n : Nat => (n : Int)
def pgB (p : Nat × List Nat) : List Int := numB p.1 ++ numsB p.2
def bodyB (ps : List (Nat × List Nat)) : List Int := numB ps.length ++ (ps.map pgB).flatten
def volB (ps : List (Nat × List Nat)) : List Int := bodyB ps ++ sumB (bodyB ps)
def pD (p : Nat × List Nat) : D := .tup [.int p.1, Il (nI2 p.2)]
def PsOk (ps : List (Nat × List Nat)) : Prop := ps.length ≤ 1000 ∧ (∀ p ∈ ps, p.2.length ≤ 1000) ∧ (bodyB ps).length ≤ 100000
theorem flat_le {α : Type} {ls : List (List α)} {l : List α} (h : l ∈ ls) : l.length ≤ ls.flatten.length := by
  induction ls with
  | nil => cases h
  | cons a ls ih =>
    rw [List.flatten_cons, List.length_append]
    rcases List.mem_cons.mp h with e | e
    · subst e; omega
    · have := ih e; omega
theorem flat_bytes {ls : List (List Int)} (h : ∀ l ∈ ls, ∀ x ∈ l, 0 ≤ x ∧ x < 256) : ∀ x ∈ ls.flatten, 0 ≤ x ∧ x < 256 := fun x hx => by
  obtain ⟨l, h1, h2⟩ := List.mem_flatten.mp hx
  exact h l h1 x h2
theorem nums_bytes (ns : List Nat) : ∀ x ∈ numsB ns, 0 ≤ x ∧ x < 256 := fun x hx => by
  rcases List.mem_append.mp hx with e | e
  · exact numB_bytes x e
  · refine flat_bytes (fun l hl => ?_) x e
    obtain ⟨n, _, rfl⟩ := List.mem_map.mp hl
    exact numB_bytes
theorem body_bytes (ps : List (Nat × List Nat)) : ∀ x ∈ bodyB ps, 0 ≤ x ∧ x < 256 := fun x hx => by
  rcases List.mem_append.mp hx with e | e
  · exact numB_bytes x e
  · refine flat_bytes (fun l hl => ?_) x e
    obtain ⟨p, _, rfl⟩ := List.mem_map.mp hl
    intro x hx
    rcases List.mem_append.mp hx with e | e
    · exact numB_bytes x e
    · exact nums_bytes _ x e
theorem vol_bytes (ps : List (Nat × List Nat)) : ∀ x ∈ volB ps, 0 ≤ x ∧ x < 256 := fun x hx => by
  rcases List.mem_append.mp hx with e | e
  · exact body_bytes ps x e
  · exact four_bytes _ x e
theorem nums_n_len {ns : List Nat} {n : Nat} (h : n ∈ ns) : (numB n).length ≤ (numsB ns).length := by
  unfold numsB
  rw [List.length_append]
  have := flat_le (ls := ns.map numB) (List.mem_map_of_mem h)
  omega
theorem body_pg_len {ps : List (Nat × List Nat)} {p : Nat × List Nat} (h : p ∈ ps) : (pgB p).length ≤ (bodyB ps).length := by
  unfold bodyB
  rw [List.length_append]
  have := flat_le (ls := ps.map pgB) (List.mem_map_of_mem h)
  omega
def RWrNs (ds : List D) (Φ : D → Prop) : Prop := ∃ ns : List Nat, ds = [Il (nI2 ns)] ∧ (numsB ns).length ≤ 100000 ∧ Φ (Il (numsB ns))
def RWrV (ds : List D) (Φ : D → Prop) : Prop := ∃ ps, ds = [.lst (ps.map pD)] ∧ PsOk ps ∧ Φ (Il (volB ps))
def SumBad (data : List Int) : Prop := data.drop (data.length - 4) ≠ sumB (data.take (data.length - 4))
def RRdV (C : Addr) (ds : List D) (Φ : D → Prop) (Ψ : Value → Fs → Prop) : Prop := ∃ data : List Int, ds = [Il data] ∧ data.length ≤ 200000 ∧ ((SumBad data ∧ Ψ (.ref C) (atF 0)) ∨ ∃ ps, PsOk ps ∧ data = volB ps ∧ Φ (.lst (ps.map pD)))
theorem vol_take (ps : List (Nat × List Nat)) : (volB ps).take ((volB ps).length - 4) = bodyB ps := by
  unfold volB
  rw [List.length_append, sum_len, Nat.add_sub_cancel, List.take_left]
theorem vol_drop (ps : List (Nat × List Nat)) : (volB ps).drop ((volB ps).length - 4) = sumB (bodyB ps) := by
  unfold volB
  rw [List.length_append, sum_len, Nat.add_sub_cancel, List.drop_left]
theorem vol_good (ps : List (Nat × List Nat)) : ¬ SumBad (volB ps) := fun z => z (by rw [vol_drop, vol_take])
section
local macro_rules | `(tactic| walk_at "n") => `(tactic| first | (guard_target = XE _ _ (Expr.Name "data" _) _ _; first | refine xe_n 0 rfl ?_ | refine xe_nf 0 rfl ?_) | (guard_target = XE _ _ (Expr.Name "body" _) _ _; first | refine xe_n 1 rfl ?_ | refine xe_nf 1 rfl ?_) | (guard_target = XE _ _ (Expr.Name "reader" _) _ _; first | refine xe_n 2 rfl ?_ | refine xe_nf 2 rfl ?_) | (guard_target = XE _ _ (Expr.Name "pages" _) _ _; first | refine xe_n 3 rfl ?_ | refine xe_nf 3 rfl ?_) | (guard_target = XE _ _ (Expr.Name "_" _) _ _; first | refine xe_n 4 rfl ?_ | refine xe_nf 4 rfl ?_) | (guard_target = XE _ _ (Expr.Name "source" _) _ _; first | refine xe_n 5 rfl ?_ | refine xe_nf 5 rfl ?_))
local macro_rules | `(tactic| walk_at "set") => `(tactic| first | (guard_target = XS _ _ (Stmt.Assign [Expr.Name "data" _] _ _) _ _; refine xs_set 0 nd ?_) | (guard_target = XS _ _ (Stmt.Assign [Expr.Name "body" _] _ _) _ _; refine xs_set 1 nd ?_) | (guard_target = XS _ _ (Stmt.Assign [Expr.Name "reader" _] _ _) _ _; refine xs_set 2 nd ?_) | (guard_target = XS _ _ (Stmt.Assign [Expr.Name "pages" _] _ _) _ _; refine xs_set 3 nd ?_) | (guard_target = XS _ _ (Stmt.Assign [Expr.Name "_" _] _ _) _ _; refine xs_set 4 nd ?_) | (guard_target = XS _ _ (Stmt.Assign [Expr.Name "source" _] _ _) _ _; refine xs_set 5 nd ?_))
local macro_rules | `(tactic| walk_at "own") => `(tactic| first | (guard_target = XS _ _ (Stmt.Assign [Expr.Name "data" _] _ _) _ _; refine xs_own 0 nd ?_) | (guard_target = XS _ _ (Stmt.Assign [Expr.Name "body" _] _ _) _ _; refine xs_own 1 nd ?_) | (guard_target = XS _ _ (Stmt.Assign [Expr.Name "reader" _] _ _) _ _; refine xs_own 2 nd ?_) | (guard_target = XS _ _ (Stmt.Assign [Expr.Name "pages" _] _ _) _ _; refine xs_own 3 nd ?_) | (guard_target = XS _ _ (Stmt.Assign [Expr.Name "_" _] _ _) _ _; refine xs_own 4 nd ?_) | (guard_target = XS _ _ (Stmt.Assign [Expr.Name "source" _] _ _) _ _; refine xs_own 5 nd ?_))
local macro_rules | `(tactic| walk_at "app") => `(tactic| first | (guard_target = XS _ _ (Stmt.Expr (Expr.Call (Expr.Attribute (Expr.Name "data" _) _ _) _ _ _) _) _ _; refine xs_app 0 ⟨_, _, rfl⟩ ?_) | (guard_target = XS _ _ (Stmt.Expr (Expr.Call (Expr.Attribute (Expr.Name "body" _) _ _) _ _ _) _) _ _; refine xs_app 1 ⟨_, _, rfl⟩ ?_) | (guard_target = XS _ _ (Stmt.Expr (Expr.Call (Expr.Attribute (Expr.Name "reader" _) _ _) _ _ _) _) _ _; refine xs_app 2 ⟨_, _, rfl⟩ ?_) | (guard_target = XS _ _ (Stmt.Expr (Expr.Call (Expr.Attribute (Expr.Name "pages" _) _ _) _ _ _) _) _ _; refine xs_app 3 ⟨_, _, rfl⟩ ?_) | (guard_target = XS _ _ (Stmt.Expr (Expr.Call (Expr.Attribute (Expr.Name "_" _) _ _) _ _ _) _) _ _; refine xs_app 4 ⟨_, _, rfl⟩ ?_) | (guard_target = XS _ _ (Stmt.Expr (Expr.Call (Expr.Attribute (Expr.Name "source" _) _ _) _ _ _) _) _ _; refine xs_app 5 ⟨_, _, rfl⟩ ?_))
local macro_rules | `(tactic| walk_at "aug") => `(tactic| first | (guard_target = XS _ _ (Stmt.AugAssign (Expr.Name "data" _) _ _ _) _ _; refine xs_aug 0 nd rfl ?_) | (guard_target = XS _ _ (Stmt.AugAssign (Expr.Name "body" _) _ _ _) _ _; refine xs_aug 1 nd rfl ?_) | (guard_target = XS _ _ (Stmt.AugAssign (Expr.Name "reader" _) _ _ _) _ _; refine xs_aug 2 nd rfl ?_) | (guard_target = XS _ _ (Stmt.AugAssign (Expr.Name "pages" _) _ _ _) _ _; refine xs_aug 3 nd rfl ?_) | (guard_target = XS _ _ (Stmt.AugAssign (Expr.Name "_" _) _ _ _) _ _; refine xs_aug 4 nd rfl ?_) | (guard_target = XS _ _ (Stmt.AugAssign (Expr.Name "source" _) _ _ _) _ _; refine xs_aug 5 nd rfl ?_))
local macro_rules | `(tactic| walk_at "gn") => `(tactic| first | (guard_target = XG _ _ (Expr.Name "data" _) _ _ _ _; refine xg_n 0 nd ?_) | (guard_target = XG _ _ (Expr.Name "body" _) _ _ _ _; refine xg_n 1 nd ?_) | (guard_target = XG _ _ (Expr.Name "reader" _) _ _ _ _; refine xg_n 2 nd ?_) | (guard_target = XG _ _ (Expr.Name "pages" _) _ _ _ _; refine xg_n 3 nd ?_) | (guard_target = XG _ _ (Expr.Name "_" _) _ _ _ _; refine xg_n 4 nd ?_) | (guard_target = XG _ _ (Expr.Name "source" _) _ _ _ _; refine xg_n 5 nd ?_))
local macro_rules | `(tactic| walk_at "leno") => `(tactic| first | (guard_target = XE _ _ (Expr.Call (Expr.Name "len" _) [Expr.Name "data" _] [] _) _ _; refine xe_leno 0 rfl T.z_len ?_) | (guard_target = XE _ _ (Expr.Call (Expr.Name "len" _) [Expr.Name "body" _] [] _) _ _; refine xe_leno 1 rfl T.z_len ?_) | (guard_target = XE _ _ (Expr.Call (Expr.Name "len" _) [Expr.Name "reader" _] [] _) _ _; refine xe_leno 2 rfl T.z_len ?_) | (guard_target = XE _ _ (Expr.Call (Expr.Name "len" _) [Expr.Name "pages" _] [] _) _ _; refine xe_leno 3 rfl T.z_len ?_) | (guard_target = XE _ _ (Expr.Call (Expr.Name "len" _) [Expr.Name "_" _] [] _) _ _; refine xe_leno 4 rfl T.z_len ?_) | (guard_target = XE _ _ (Expr.Call (Expr.Name "len" _) [Expr.Name "source" _] [] _) _ _; refine xe_leno 5 rfl T.z_len ?_))
local macro_rules | `(tactic| walk_at "ixo") => `(tactic| first | (guard_target = XE _ _ (Expr.Subscript (Expr.Name "data" _) _ _) _ _; first | refine xe_ixoL 0 ⟨_, _, rfl⟩ ?_ | refine xe_dget 0 hu ⟨_, .ow rfl, .inl ⟨_, rfl⟩⟩ ?_ | refine xe_dget 0 hu ⟨_, .ow rfl, .inr ⟨_, rfl⟩⟩ ?_ | refine xe_dget 0 hu ⟨_, .va rfl, .inl ⟨_, rfl⟩⟩ ?_ | refine xe_dget 0 hu ⟨_, .va rfl, .inr ⟨_, rfl⟩⟩ ?_) | (guard_target = XE _ _ (Expr.Subscript (Expr.Name "body" _) _ _) _ _; first | refine xe_ixoL 1 ⟨_, _, rfl⟩ ?_ | refine xe_dget 1 hu ⟨_, .ow rfl, .inl ⟨_, rfl⟩⟩ ?_ | refine xe_dget 1 hu ⟨_, .ow rfl, .inr ⟨_, rfl⟩⟩ ?_ | refine xe_dget 1 hu ⟨_, .va rfl, .inl ⟨_, rfl⟩⟩ ?_ | refine xe_dget 1 hu ⟨_, .va rfl, .inr ⟨_, rfl⟩⟩ ?_) | (guard_target = XE _ _ (Expr.Subscript (Expr.Name "reader" _) _ _) _ _; first | refine xe_ixoL 2 ⟨_, _, rfl⟩ ?_ | refine xe_dget 2 hu ⟨_, .ow rfl, .inl ⟨_, rfl⟩⟩ ?_ | refine xe_dget 2 hu ⟨_, .ow rfl, .inr ⟨_, rfl⟩⟩ ?_ | refine xe_dget 2 hu ⟨_, .va rfl, .inl ⟨_, rfl⟩⟩ ?_ | refine xe_dget 2 hu ⟨_, .va rfl, .inr ⟨_, rfl⟩⟩ ?_) | (guard_target = XE _ _ (Expr.Subscript (Expr.Name "pages" _) _ _) _ _; first | refine xe_ixoL 3 ⟨_, _, rfl⟩ ?_ | refine xe_dget 3 hu ⟨_, .ow rfl, .inl ⟨_, rfl⟩⟩ ?_ | refine xe_dget 3 hu ⟨_, .ow rfl, .inr ⟨_, rfl⟩⟩ ?_ | refine xe_dget 3 hu ⟨_, .va rfl, .inl ⟨_, rfl⟩⟩ ?_ | refine xe_dget 3 hu ⟨_, .va rfl, .inr ⟨_, rfl⟩⟩ ?_) | (guard_target = XE _ _ (Expr.Subscript (Expr.Name "_" _) _ _) _ _; first | refine xe_ixoL 4 ⟨_, _, rfl⟩ ?_ | refine xe_dget 4 hu ⟨_, .ow rfl, .inl ⟨_, rfl⟩⟩ ?_ | refine xe_dget 4 hu ⟨_, .ow rfl, .inr ⟨_, rfl⟩⟩ ?_ | refine xe_dget 4 hu ⟨_, .va rfl, .inl ⟨_, rfl⟩⟩ ?_ | refine xe_dget 4 hu ⟨_, .va rfl, .inr ⟨_, rfl⟩⟩ ?_) | (guard_target = XE _ _ (Expr.Subscript (Expr.Name "source" _) _ _) _ _; first | refine xe_ixoL 5 ⟨_, _, rfl⟩ ?_ | refine xe_dget 5 hu ⟨_, .ow rfl, .inl ⟨_, rfl⟩⟩ ?_ | refine xe_dget 5 hu ⟨_, .ow rfl, .inr ⟨_, rfl⟩⟩ ?_ | refine xe_dget 5 hu ⟨_, .va rfl, .inl ⟨_, rfl⟩⟩ ?_ | refine xe_dget 5 hu ⟨_, .va rfl, .inr ⟨_, rfl⟩⟩ ?_))
local macro_rules | `(tactic| walk_at "sub") => `(tactic| first | (guard_target = XS _ _ (Stmt.Assign [Expr.Subscript (Expr.Name "data" _) _ _] _ _) _ _; first | refine xs_subL 0 ⟨_, _, rfl⟩ ?_ | refine xs_dput 0 hu ⟨_, _, rfl⟩ ?_) | (guard_target = XS _ _ (Stmt.Assign [Expr.Subscript (Expr.Name "body" _) _ _] _ _) _ _; first | refine xs_subL 1 ⟨_, _, rfl⟩ ?_ | refine xs_dput 1 hu ⟨_, _, rfl⟩ ?_) | (guard_target = XS _ _ (Stmt.Assign [Expr.Subscript (Expr.Name "reader" _) _ _] _ _) _ _; first | refine xs_subL 2 ⟨_, _, rfl⟩ ?_ | refine xs_dput 2 hu ⟨_, _, rfl⟩ ?_) | (guard_target = XS _ _ (Stmt.Assign [Expr.Subscript (Expr.Name "pages" _) _ _] _ _) _ _; first | refine xs_subL 3 ⟨_, _, rfl⟩ ?_ | refine xs_dput 3 hu ⟨_, _, rfl⟩ ?_) | (guard_target = XS _ _ (Stmt.Assign [Expr.Subscript (Expr.Name "_" _) _ _] _ _) _ _; first | refine xs_subL 4 ⟨_, _, rfl⟩ ?_ | refine xs_dput 4 hu ⟨_, _, rfl⟩ ?_) | (guard_target = XS _ _ (Stmt.Assign [Expr.Subscript (Expr.Name "source" _) _ _] _ _) _ _; first | refine xs_subL 5 ⟨_, _, rfl⟩ ?_ | refine xs_dput 5 hu ⟨_, _, rfl⟩ ?_))
local macro_rules | `(tactic| walk_at "tino") => `(tactic| first | (guard_target = XT _ _ (Expr.Compare _ _ [Expr.Name "data" _] _) _ _; first | refine xt_inoL 0 ⟨_, _, rfl⟩ ?_ | refine xt_din 0 hu ⟨_, .ow rfl, .inl ⟨_, rfl⟩⟩ ?_ | refine xt_din 0 hu ⟨_, .ow rfl, .inr ⟨_, rfl⟩⟩ ?_ | refine xt_din 0 hu ⟨_, .va rfl, .inl ⟨_, rfl⟩⟩ ?_ | refine xt_din 0 hu ⟨_, .va rfl, .inr ⟨_, rfl⟩⟩ ?_) | (guard_target = XT _ _ (Expr.Compare _ _ [Expr.Name "body" _] _) _ _; first | refine xt_inoL 1 ⟨_, _, rfl⟩ ?_ | refine xt_din 1 hu ⟨_, .ow rfl, .inl ⟨_, rfl⟩⟩ ?_ | refine xt_din 1 hu ⟨_, .ow rfl, .inr ⟨_, rfl⟩⟩ ?_ | refine xt_din 1 hu ⟨_, .va rfl, .inl ⟨_, rfl⟩⟩ ?_ | refine xt_din 1 hu ⟨_, .va rfl, .inr ⟨_, rfl⟩⟩ ?_) | (guard_target = XT _ _ (Expr.Compare _ _ [Expr.Name "reader" _] _) _ _; first | refine xt_inoL 2 ⟨_, _, rfl⟩ ?_ | refine xt_din 2 hu ⟨_, .ow rfl, .inl ⟨_, rfl⟩⟩ ?_ | refine xt_din 2 hu ⟨_, .ow rfl, .inr ⟨_, rfl⟩⟩ ?_ | refine xt_din 2 hu ⟨_, .va rfl, .inl ⟨_, rfl⟩⟩ ?_ | refine xt_din 2 hu ⟨_, .va rfl, .inr ⟨_, rfl⟩⟩ ?_) | (guard_target = XT _ _ (Expr.Compare _ _ [Expr.Name "pages" _] _) _ _; first | refine xt_inoL 3 ⟨_, _, rfl⟩ ?_ | refine xt_din 3 hu ⟨_, .ow rfl, .inl ⟨_, rfl⟩⟩ ?_ | refine xt_din 3 hu ⟨_, .ow rfl, .inr ⟨_, rfl⟩⟩ ?_ | refine xt_din 3 hu ⟨_, .va rfl, .inl ⟨_, rfl⟩⟩ ?_ | refine xt_din 3 hu ⟨_, .va rfl, .inr ⟨_, rfl⟩⟩ ?_) | (guard_target = XT _ _ (Expr.Compare _ _ [Expr.Name "_" _] _) _ _; first | refine xt_inoL 4 ⟨_, _, rfl⟩ ?_ | refine xt_din 4 hu ⟨_, .ow rfl, .inl ⟨_, rfl⟩⟩ ?_ | refine xt_din 4 hu ⟨_, .ow rfl, .inr ⟨_, rfl⟩⟩ ?_ | refine xt_din 4 hu ⟨_, .va rfl, .inl ⟨_, rfl⟩⟩ ?_ | refine xt_din 4 hu ⟨_, .va rfl, .inr ⟨_, rfl⟩⟩ ?_) | (guard_target = XT _ _ (Expr.Compare _ _ [Expr.Name "source" _] _) _ _; first | refine xt_inoL 5 ⟨_, _, rfl⟩ ?_ | refine xt_din 5 hu ⟨_, .ow rfl, .inl ⟨_, rfl⟩⟩ ?_ | refine xt_din 5 hu ⟨_, .ow rfl, .inr ⟨_, rfl⟩⟩ ?_ | refine xt_din 5 hu ⟨_, .va rfl, .inl ⟨_, rfl⟩⟩ ?_ | refine xt_din 5 hu ⟨_, .va rfl, .inr ⟨_, rfl⟩⟩ ?_))
local macro_rules | `(tactic| walk_at "tnio") => `(tactic| first | (guard_target = XT _ _ (Expr.Compare _ _ [Expr.Name "data" _] _) _ _; first | refine xt_nioL 0 ⟨_, _, rfl⟩ ?_ | refine xt_dni 0 hu ⟨_, .ow rfl, .inl ⟨_, rfl⟩⟩ ?_ | refine xt_dni 0 hu ⟨_, .ow rfl, .inr ⟨_, rfl⟩⟩ ?_ | refine xt_dni 0 hu ⟨_, .va rfl, .inl ⟨_, rfl⟩⟩ ?_ | refine xt_dni 0 hu ⟨_, .va rfl, .inr ⟨_, rfl⟩⟩ ?_) | (guard_target = XT _ _ (Expr.Compare _ _ [Expr.Name "body" _] _) _ _; first | refine xt_nioL 1 ⟨_, _, rfl⟩ ?_ | refine xt_dni 1 hu ⟨_, .ow rfl, .inl ⟨_, rfl⟩⟩ ?_ | refine xt_dni 1 hu ⟨_, .ow rfl, .inr ⟨_, rfl⟩⟩ ?_ | refine xt_dni 1 hu ⟨_, .va rfl, .inl ⟨_, rfl⟩⟩ ?_ | refine xt_dni 1 hu ⟨_, .va rfl, .inr ⟨_, rfl⟩⟩ ?_) | (guard_target = XT _ _ (Expr.Compare _ _ [Expr.Name "reader" _] _) _ _; first | refine xt_nioL 2 ⟨_, _, rfl⟩ ?_ | refine xt_dni 2 hu ⟨_, .ow rfl, .inl ⟨_, rfl⟩⟩ ?_ | refine xt_dni 2 hu ⟨_, .ow rfl, .inr ⟨_, rfl⟩⟩ ?_ | refine xt_dni 2 hu ⟨_, .va rfl, .inl ⟨_, rfl⟩⟩ ?_ | refine xt_dni 2 hu ⟨_, .va rfl, .inr ⟨_, rfl⟩⟩ ?_) | (guard_target = XT _ _ (Expr.Compare _ _ [Expr.Name "pages" _] _) _ _; first | refine xt_nioL 3 ⟨_, _, rfl⟩ ?_ | refine xt_dni 3 hu ⟨_, .ow rfl, .inl ⟨_, rfl⟩⟩ ?_ | refine xt_dni 3 hu ⟨_, .ow rfl, .inr ⟨_, rfl⟩⟩ ?_ | refine xt_dni 3 hu ⟨_, .va rfl, .inl ⟨_, rfl⟩⟩ ?_ | refine xt_dni 3 hu ⟨_, .va rfl, .inr ⟨_, rfl⟩⟩ ?_) | (guard_target = XT _ _ (Expr.Compare _ _ [Expr.Name "_" _] _) _ _; first | refine xt_nioL 4 ⟨_, _, rfl⟩ ?_ | refine xt_dni 4 hu ⟨_, .ow rfl, .inl ⟨_, rfl⟩⟩ ?_ | refine xt_dni 4 hu ⟨_, .ow rfl, .inr ⟨_, rfl⟩⟩ ?_ | refine xt_dni 4 hu ⟨_, .va rfl, .inl ⟨_, rfl⟩⟩ ?_ | refine xt_dni 4 hu ⟨_, .va rfl, .inr ⟨_, rfl⟩⟩ ?_) | (guard_target = XT _ _ (Expr.Compare _ _ [Expr.Name "source" _] _) _ _; first | refine xt_nioL 5 ⟨_, _, rfl⟩ ?_ | refine xt_dni 5 hu ⟨_, .ow rfl, .inl ⟨_, rfl⟩⟩ ?_ | refine xt_dni 5 hu ⟨_, .ow rfl, .inr ⟨_, rfl⟩⟩ ?_ | refine xt_dni 5 hu ⟨_, .va rfl, .inl ⟨_, rfl⟩⟩ ?_ | refine xt_dni 5 hu ⟨_, .va rfl, .inr ⟨_, rfl⟩⟩ ?_))
local macro_rules | `(tactic| walk_at "tru") => `(tactic| first | (guard_target = XT _ _ (Expr.Name "data" _) _ _; refine xt_truO 0 rfl ?_) | (guard_target = XT _ _ (Expr.Name "body" _) _ _; refine xt_truO 1 rfl ?_) | (guard_target = XT _ _ (Expr.Name "reader" _) _ _; refine xt_truO 2 rfl ?_) | (guard_target = XT _ _ (Expr.Name "pages" _) _ _; refine xt_truO 3 rfl ?_) | (guard_target = XT _ _ (Expr.Name "_" _) _ _; refine xt_truO 4 rfl ?_) | (guard_target = XT _ _ (Expr.Name "source" _) _ _; refine xt_truO 5 rfl ?_))
local macro_rules | `(tactic| walk_at "ldt") => `(tactic| first | (guard_target = XE _ _ (Expr.Call (Expr.Name "list" _) [Expr.Name "data" _] [] _) _ _; first | refine xe_listOw 0 rfl T.z_list ?_ | refine xe_listDT 0 rfl T.z_list ?_) | (guard_target = XE _ _ (Expr.Call (Expr.Name "list" _) [Expr.Name "body" _] [] _) _ _; first | refine xe_listOw 1 rfl T.z_list ?_ | refine xe_listDT 1 rfl T.z_list ?_) | (guard_target = XE _ _ (Expr.Call (Expr.Name "list" _) [Expr.Name "reader" _] [] _) _ _; first | refine xe_listOw 2 rfl T.z_list ?_ | refine xe_listDT 2 rfl T.z_list ?_) | (guard_target = XE _ _ (Expr.Call (Expr.Name "list" _) [Expr.Name "pages" _] [] _) _ _; first | refine xe_listOw 3 rfl T.z_list ?_ | refine xe_listDT 3 rfl T.z_list ?_) | (guard_target = XE _ _ (Expr.Call (Expr.Name "list" _) [Expr.Name "_" _] [] _) _ _; first | refine xe_listOw 4 rfl T.z_list ?_ | refine xe_listDT 4 rfl T.z_list ?_) | (guard_target = XE _ _ (Expr.Call (Expr.Name "list" _) [Expr.Name "source" _] [] _) _ _; first | refine xe_listOw 5 rfl T.z_list ?_ | refine xe_listDT 5 rfl T.z_list ?_))
local macro_rules | `(tactic| walk_at "xr") => `(tactic| first | (guard_target = XR _ _ (Expr.Name "data" _ :: _) _ _; refine xr_own 0 ⟨_, _, rfl⟩ ?_) | (guard_target = XR _ _ (Expr.Name "body" _ :: _) _ _; refine xr_own 1 ⟨_, _, rfl⟩ ?_) | (guard_target = XR _ _ (Expr.Name "reader" _ :: _) _ _; refine xr_own 2 ⟨_, _, rfl⟩ ?_) | (guard_target = XR _ _ (Expr.Name "pages" _ :: _) _ _; refine xr_own 3 ⟨_, _, rfl⟩ ?_) | (guard_target = XR _ _ (Expr.Name "_" _ :: _) _ _; refine xr_own 4 ⟨_, _, rfl⟩ ?_) | (guard_target = XR _ _ (Expr.Name "source" _ :: _) _ _; refine xr_own 5 ⟨_, _, rfl⟩ ?_))
local macro_rules | `(tactic| walk_at "fld") => `(tactic| first | (guard_target = XE _ _ (Expr.Attribute (Expr.Name "data" _) "data" _) _ _; refine xe_fldo 0 T.cl_ByteReader T.na_ByteReader_data rfl rfl ?_) | (guard_target = XE _ _ (Expr.Attribute (Expr.Name "body" _) "data" _) _ _; refine xe_fldo 1 T.cl_ByteReader T.na_ByteReader_data rfl rfl ?_) | (guard_target = XE _ _ (Expr.Attribute (Expr.Name "reader" _) "data" _) _ _; refine xe_fldo 2 T.cl_ByteReader T.na_ByteReader_data rfl rfl ?_) | (guard_target = XE _ _ (Expr.Attribute (Expr.Name "pages" _) "data" _) _ _; refine xe_fldo 3 T.cl_ByteReader T.na_ByteReader_data rfl rfl ?_) | (guard_target = XE _ _ (Expr.Attribute (Expr.Name "_" _) "data" _) _ _; refine xe_fldo 4 T.cl_ByteReader T.na_ByteReader_data rfl rfl ?_) | (guard_target = XE _ _ (Expr.Attribute (Expr.Name "source" _) "data" _) _ _; refine xe_fldo 5 T.cl_ByteReader T.na_ByteReader_data rfl rfl ?_))
local macro_rules | `(tactic| walk_at "sx") => `(tactic| first | (guard_target = XS _ _ (Stmt.Assign [Expr.Attribute (Expr.Name "data" _) "data" _] _ _) _ _; refine xs_flds 0 T.cl_ByteReader T.na_ByteReader_data ⟨_, _, rfl⟩ ?_) | (guard_target = XS _ _ (Stmt.Assign [Expr.Attribute (Expr.Name "body" _) "data" _] _ _) _ _; refine xs_flds 1 T.cl_ByteReader T.na_ByteReader_data ⟨_, _, rfl⟩ ?_) | (guard_target = XS _ _ (Stmt.Assign [Expr.Attribute (Expr.Name "reader" _) "data" _] _ _) _ _; refine xs_flds 2 T.cl_ByteReader T.na_ByteReader_data ⟨_, _, rfl⟩ ?_) | (guard_target = XS _ _ (Stmt.Assign [Expr.Attribute (Expr.Name "pages" _) "data" _] _ _) _ _; refine xs_flds 3 T.cl_ByteReader T.na_ByteReader_data ⟨_, _, rfl⟩ ?_) | (guard_target = XS _ _ (Stmt.Assign [Expr.Attribute (Expr.Name "_" _) "data" _] _ _) _ _; refine xs_flds 4 T.cl_ByteReader T.na_ByteReader_data ⟨_, _, rfl⟩ ?_) | (guard_target = XS _ _ (Stmt.Assign [Expr.Attribute (Expr.Name "source" _) "data" _] _ _) _ _; refine xs_flds 5 T.cl_ByteReader T.na_ByteReader_data ⟨_, _, rfl⟩ ?_))
local macro_rules | `(tactic| walk_at "sx") => `(tactic| first | (guard_target = XS _ _ (Stmt.AugAssign (Expr.Attribute (Expr.Name "data" _) "data" _) .Add _ _) _ _; refine xs_flda 0 T.cl_ByteReader T.na_ByteReader_data rfl rfl ?_) | (guard_target = XS _ _ (Stmt.AugAssign (Expr.Attribute (Expr.Name "body" _) "data" _) .Add _ _) _ _; refine xs_flda 1 T.cl_ByteReader T.na_ByteReader_data rfl rfl ?_) | (guard_target = XS _ _ (Stmt.AugAssign (Expr.Attribute (Expr.Name "reader" _) "data" _) .Add _ _) _ _; refine xs_flda 2 T.cl_ByteReader T.na_ByteReader_data rfl rfl ?_) | (guard_target = XS _ _ (Stmt.AugAssign (Expr.Attribute (Expr.Name "pages" _) "data" _) .Add _ _) _ _; refine xs_flda 3 T.cl_ByteReader T.na_ByteReader_data rfl rfl ?_) | (guard_target = XS _ _ (Stmt.AugAssign (Expr.Attribute (Expr.Name "_" _) "data" _) .Add _ _) _ _; refine xs_flda 4 T.cl_ByteReader T.na_ByteReader_data rfl rfl ?_) | (guard_target = XS _ _ (Stmt.AugAssign (Expr.Attribute (Expr.Name "source" _) "data" _) .Add _ _) _ _; refine xs_flda 5 T.cl_ByteReader T.na_ByteReader_data rfl rfl ?_))
local macro_rules | `(tactic| walk_at "fld") => `(tactic| first | (guard_target = XE _ _ (Expr.Attribute (Expr.Name "data" _) "at" _) _ _; refine xe_fldo 0 T.cl_ByteReader T.na_ByteReader_at rfl rfl ?_) | (guard_target = XE _ _ (Expr.Attribute (Expr.Name "body" _) "at" _) _ _; refine xe_fldo 1 T.cl_ByteReader T.na_ByteReader_at rfl rfl ?_) | (guard_target = XE _ _ (Expr.Attribute (Expr.Name "reader" _) "at" _) _ _; refine xe_fldo 2 T.cl_ByteReader T.na_ByteReader_at rfl rfl ?_) | (guard_target = XE _ _ (Expr.Attribute (Expr.Name "pages" _) "at" _) _ _; refine xe_fldo 3 T.cl_ByteReader T.na_ByteReader_at rfl rfl ?_) | (guard_target = XE _ _ (Expr.Attribute (Expr.Name "_" _) "at" _) _ _; refine xe_fldo 4 T.cl_ByteReader T.na_ByteReader_at rfl rfl ?_) | (guard_target = XE _ _ (Expr.Attribute (Expr.Name "source" _) "at" _) _ _; refine xe_fldo 5 T.cl_ByteReader T.na_ByteReader_at rfl rfl ?_))
local macro_rules | `(tactic| walk_at "sx") => `(tactic| first | (guard_target = XS _ _ (Stmt.Assign [Expr.Attribute (Expr.Name "data" _) "at" _] _ _) _ _; refine xs_flds 0 T.cl_ByteReader T.na_ByteReader_at ⟨_, _, rfl⟩ ?_) | (guard_target = XS _ _ (Stmt.Assign [Expr.Attribute (Expr.Name "body" _) "at" _] _ _) _ _; refine xs_flds 1 T.cl_ByteReader T.na_ByteReader_at ⟨_, _, rfl⟩ ?_) | (guard_target = XS _ _ (Stmt.Assign [Expr.Attribute (Expr.Name "reader" _) "at" _] _ _) _ _; refine xs_flds 2 T.cl_ByteReader T.na_ByteReader_at ⟨_, _, rfl⟩ ?_) | (guard_target = XS _ _ (Stmt.Assign [Expr.Attribute (Expr.Name "pages" _) "at" _] _ _) _ _; refine xs_flds 3 T.cl_ByteReader T.na_ByteReader_at ⟨_, _, rfl⟩ ?_) | (guard_target = XS _ _ (Stmt.Assign [Expr.Attribute (Expr.Name "_" _) "at" _] _ _) _ _; refine xs_flds 4 T.cl_ByteReader T.na_ByteReader_at ⟨_, _, rfl⟩ ?_) | (guard_target = XS _ _ (Stmt.Assign [Expr.Attribute (Expr.Name "source" _) "at" _] _ _) _ _; refine xs_flds 5 T.cl_ByteReader T.na_ByteReader_at ⟨_, _, rfl⟩ ?_))
local macro_rules | `(tactic| walk_at "sx") => `(tactic| first | (guard_target = XS _ _ (Stmt.AugAssign (Expr.Attribute (Expr.Name "data" _) "at" _) .Add _ _) _ _; refine xs_flda 0 T.cl_ByteReader T.na_ByteReader_at rfl rfl ?_) | (guard_target = XS _ _ (Stmt.AugAssign (Expr.Attribute (Expr.Name "body" _) "at" _) .Add _ _) _ _; refine xs_flda 1 T.cl_ByteReader T.na_ByteReader_at rfl rfl ?_) | (guard_target = XS _ _ (Stmt.AugAssign (Expr.Attribute (Expr.Name "reader" _) "at" _) .Add _ _) _ _; refine xs_flda 2 T.cl_ByteReader T.na_ByteReader_at rfl rfl ?_) | (guard_target = XS _ _ (Stmt.AugAssign (Expr.Attribute (Expr.Name "pages" _) "at" _) .Add _ _) _ _; refine xs_flda 3 T.cl_ByteReader T.na_ByteReader_at rfl rfl ?_) | (guard_target = XS _ _ (Stmt.AugAssign (Expr.Attribute (Expr.Name "_" _) "at" _) .Add _ _) _ _; refine xs_flda 4 T.cl_ByteReader T.na_ByteReader_at rfl rfl ?_) | (guard_target = XS _ _ (Stmt.AugAssign (Expr.Attribute (Expr.Name "source" _) "at" _) .Add _ _) _ _; refine xs_flda 5 T.cl_ByteReader T.na_ByteReader_at rfl rfl ?_))
local macro_rules | `(tactic| walk_at "ext") => `(tactic| first | (guard_target = XS _ _ (Stmt.Expr (Expr.Call (Expr.Attribute (Expr.Name "data" _) "extend" _) _ _ _) _) _ _; refine xs_ext 0 ⟨_, _, rfl⟩ ?_) | (guard_target = XS _ _ (Stmt.Expr (Expr.Call (Expr.Attribute (Expr.Name "body" _) "extend" _) _ _ _) _) _ _; refine xs_ext 1 ⟨_, _, rfl⟩ ?_) | (guard_target = XS _ _ (Stmt.Expr (Expr.Call (Expr.Attribute (Expr.Name "reader" _) "extend" _) _ _ _) _) _ _; refine xs_ext 2 ⟨_, _, rfl⟩ ?_) | (guard_target = XS _ _ (Stmt.Expr (Expr.Call (Expr.Attribute (Expr.Name "pages" _) "extend" _) _ _ _) _) _ _; refine xs_ext 3 ⟨_, _, rfl⟩ ?_) | (guard_target = XS _ _ (Stmt.Expr (Expr.Call (Expr.Attribute (Expr.Name "_" _) "extend" _) _ _ _) _) _ _; refine xs_ext 4 ⟨_, _, rfl⟩ ?_) | (guard_target = XS _ _ (Stmt.Expr (Expr.Call (Expr.Attribute (Expr.Name "source" _) "extend" _) _ _ _) _) _ _; refine xs_ext 5 ⟨_, _, rfl⟩ ?_))
theorem ok_read_volume (T : Tx K mg) : FnOk P w K mg base (L2.CX P w) 12 T.f_read_volume T.d_read_volume ["data"] (SpX K (RRdV T.C_InvalidBytes)) := by
  refine fn_okX T.F_read_volume sc_read_volume (fun ds Φ Ψ h => by obtain ⟨_, rfl, _⟩ := h; rfl) (fun cdv A outer s H E F hr ds Φ Ψ h hpo tk => ?_)
  have nd := sc_read_volume.nd
  have hu := hr.u64
  obtain ⟨data, rfl, hl, hor⟩ := h
  have e1 : Pu.cutD (data.map D.int) none (some (-4)) = (data.take (data.length - 4)).map D.int := cut_toNeg D.int data 4 (by decide)
  have e2 : Pu.cutD (data.map D.int) (some (-4)) none = (data.drop (data.length - 4)).map D.int := cut_ofNeg D.int data 4 (by decide)
  walk_at "st"
  rw [e1]
  walk_at "go"
  refine xss_mid (fun G => G = [.no, .va (Il (data.take (data.length - 4))), .no, .no, .no, .no] ∧ ¬ SumBad data) ?_ ?_
  · refine xs_if ?_
    walk_at "go"
    rw [e2]
    walk_at "go"
    refine ⟨_, rfl, ?_⟩
    refine xo_neIs hu (by rw [List.length_drop]; omega) (by rw [sum_len]; decide) ?_
    walk_at "go"
    · exact ⟨_, ⟨rfl, fun z => z h⟩, by walk_at "cov"⟩
    · rcases hor with ⟨_, q1⟩ | ⟨ps, _, ed, _⟩
      · exact q1
      · exact absurd (show SumBad data from h) (by rw [ed]; exact vol_good ps)
  rintro G ⟨rfl, hg⟩
  obtain ⟨ps, hps, ed, q3⟩ := hor.resolve_left fun z => hg z.1
  subst ed
  rw [vol_take]
  obtain ⟨p1, p2, p3⟩ := hps
  walk_at "go"
  have splitI : ∀ (i : Nat) (p : Nat × List Nat), ps[i]? = some p → bodyB ps = (numB ps.length ++ ((ps.take i).map pgB).flatten) ++ (numB p.1 ++ (numsB p.2 ++ ((ps.drop (i + 1)).map pgB).flatten)) := fun i p hi => by
    have e : ps = ps.take i ++ p :: ps.drop (i + 1) := by
      have := (List.getElem?_eq_some_iff.mp hi).2
      rw [← this]; simp
    have e2 : (ps.map pgB).flatten = ((ps.take i).map pgB).flatten ++ (numB p.1 ++ (numsB p.2 ++ ((ps.drop (i + 1)).map pgB).flatten)) := by
      conv => lhs; rw [e]
      rw [List.map_append, List.flatten_append, List.map_cons, List.flatten_cons]
      unfold pgB
      simp only [List.append_assoc]
    conv => lhs; unfold bodyB
    rw [e2, List.append_assoc]
  have split0 : bodyB ps = [] ++ (numB ps.length ++ (ps.map pgB).flatten) := rfl
  have splitN : bodyB ps = numB ps.length ++ (ps.map pgB).flatten := rfl
  generalize hB : bodyB ps = B at *
  refine ⟨B, rfl, rfl, rfl, ?_⟩
  walk_at "go"
  refine ⟨[], (ps.map pgB).flatten, ps.length, by rw [← split0]; rfl, rfl, by rw [← split0]; omega, ?_⟩
  rw [← split0, List.nil_append]
  walk_at "go"
  refine ⟨fun i G => G = [.no, .no, .ow false (rdO T.C_ByteReader B (numB ps.length ++ ((ps.take i).map pgB).flatten).length), .ow false (.lst ((ps.take i).map pD)), .no, .no], ⟨_, rfl, ?_⟩, fun i d G hd eG => ?_, fun G eG => ?_⟩
  · rw [List.take_zero, List.map_nil, List.flatten_nil, List.append_nil]
    walk_at "cov"
  · subst eG
    obtain ⟨hi, rfl⟩ := get_range_int hd
    have hi2 : i < ps.length := by omega
    have hp : ps[i]? = some ps[i] := List.getElem?_eq_getElem hi2
    generalize ps[i] = p at hp
    have sp := splitI i p hp
    have sp2 : B = (numB ps.length ++ ((ps.take i).map pgB).flatten ++ numB p.1) ++ (numsB p.2 ++ ((ps.drop (i + 1)).map pgB).flatten) := by rw [sp]; simp only [List.append_assoc]
    have e0 : ((ps.take i).map pD).length < 1000000 := by rw [List.length_map, List.length_take]; omega
    have tk2 : ps.take (i + 1) = ps.take i ++ [p] := by rw [List.take_add_one, hp]; rfl
    have hp2 := p2 p (List.mem_of_getElem? hp)
    walk_at "go"
    refine ⟨_, _, p.1, by rw [← sp]; rfl, rfl, by rw [← sp]; omega, ?_⟩
    rw [← sp]
    walk_at "go"
    refine ⟨_, _, p.2, by rw [← sp2]; rfl, rfl, by rw [← sp2]; omega, by omega, ?_⟩
    rw [← sp2]
    walk_at "go"
    have ee : numB ps.length ++ ((ps.take (i + 1)).map pgB).flatten = numB ps.length ++ ((ps.take i).map pgB).flatten ++ numB p.1 ++ numsB p.2 := by
      rw [tk2, List.map_append, List.flatten_append]; simp [pgB]
    rw [ee, tk2, List.map_append]
    walk_at "cov"
  · subst eG
    rw [List.length_map, List.length_range, Int.toNat_natCast, List.take_length, ← splitN]
    walk_at "go"
    refine ⟨B, rfl, rfl, ?_⟩
    walk_at "go"
    exact q3

end
local macro_rules | `(tactic| walk_at "call") => `(tactic| ((guard_target = XE _ _ (Expr.Call (Expr.Name "read_volume" _) _ _ _) _ _); refine xe_callX (ok_read_volume T) hr.in1' T.m_read_volume T.F_read_volume.kp T.b_read_volume tk ?_))
def qn (n : Int) : Nat → Int
  | 0 => n
  | t + 1 => qn n t / 256
def qL (n : Int) (t : Nat) : List Int := (List.range t).map fun i => qn n i % 256
theorem qL_succ (n : Int) (t : Nat) : qL n (t + 1) = qL n t ++ [qn n t % 256] := by unfold qL; rw [List.range_succ, List.map_append]; rfl
theorem qL_four (n : Int) : qL n 4 = fourI n := by
  show [n % 256, n / 256 % 256, n / 256 / 256 % 256, n / 256 / 256 / 256 % 256] = [n % 256, n / 256 % 256, n / 65536 % 256, n / 16777216 % 256]
  have e1 : n / 256 / 256 = n / 65536 := by omega
  have e2 : n / 65536 / 256 = n / 16777216 := by omega
  rw [e1, e2]
theorem qL_len (n : Int) (t : Nat) : (qL n t).length = t := by unfold qL; rw [List.length_map, List.length_range]
section
local macro_rules | `(tactic| walk_at "n") => `(tactic| first | (guard_target = XE _ _ (Expr.Name "data" _) _ _; first | refine xe_n 0 rfl ?_ | refine xe_nf 0 rfl ?_) | (guard_target = XE _ _ (Expr.Name "total" _) _ _; first | refine xe_n 1 rfl ?_ | refine xe_nf 1 rfl ?_) | (guard_target = XE _ _ (Expr.Name "byte" _) _ _; first | refine xe_n 2 rfl ?_ | refine xe_nf 2 rfl ?_) | (guard_target = XE _ _ (Expr.Name "four" _) _ _; first | refine xe_n 3 rfl ?_ | refine xe_nf 3 rfl ?_) | (guard_target = XE _ _ (Expr.Name "turn" _) _ _; first | refine xe_n 4 rfl ?_ | refine xe_nf 4 rfl ?_))
local macro_rules | `(tactic| walk_at "set") => `(tactic| first | (guard_target = XS _ _ (Stmt.Assign [Expr.Name "data" _] _ _) _ _; refine xs_set 0 nd ?_) | (guard_target = XS _ _ (Stmt.Assign [Expr.Name "total" _] _ _) _ _; refine xs_set 1 nd ?_) | (guard_target = XS _ _ (Stmt.Assign [Expr.Name "byte" _] _ _) _ _; refine xs_set 2 nd ?_) | (guard_target = XS _ _ (Stmt.Assign [Expr.Name "four" _] _ _) _ _; refine xs_set 3 nd ?_) | (guard_target = XS _ _ (Stmt.Assign [Expr.Name "turn" _] _ _) _ _; refine xs_set 4 nd ?_))
local macro_rules | `(tactic| walk_at "own") => `(tactic| first | (guard_target = XS _ _ (Stmt.Assign [Expr.Name "data" _] _ _) _ _; refine xs_own 0 nd ?_) | (guard_target = XS _ _ (Stmt.Assign [Expr.Name "total" _] _ _) _ _; refine xs_own 1 nd ?_) | (guard_target = XS _ _ (Stmt.Assign [Expr.Name "byte" _] _ _) _ _; refine xs_own 2 nd ?_) | (guard_target = XS _ _ (Stmt.Assign [Expr.Name "four" _] _ _) _ _; refine xs_own 3 nd ?_) | (guard_target = XS _ _ (Stmt.Assign [Expr.Name "turn" _] _ _) _ _; refine xs_own 4 nd ?_))
local macro_rules | `(tactic| walk_at "app") => `(tactic| first | (guard_target = XS _ _ (Stmt.Expr (Expr.Call (Expr.Attribute (Expr.Name "data" _) _ _) _ _ _) _) _ _; refine xs_app 0 ⟨_, _, rfl⟩ ?_) | (guard_target = XS _ _ (Stmt.Expr (Expr.Call (Expr.Attribute (Expr.Name "total" _) _ _) _ _ _) _) _ _; refine xs_app 1 ⟨_, _, rfl⟩ ?_) | (guard_target = XS _ _ (Stmt.Expr (Expr.Call (Expr.Attribute (Expr.Name "byte" _) _ _) _ _ _) _) _ _; refine xs_app 2 ⟨_, _, rfl⟩ ?_) | (guard_target = XS _ _ (Stmt.Expr (Expr.Call (Expr.Attribute (Expr.Name "four" _) _ _) _ _ _) _) _ _; refine xs_app 3 ⟨_, _, rfl⟩ ?_) | (guard_target = XS _ _ (Stmt.Expr (Expr.Call (Expr.Attribute (Expr.Name "turn" _) _ _) _ _ _) _) _ _; refine xs_app 4 ⟨_, _, rfl⟩ ?_))
local macro_rules | `(tactic| walk_at "aug") => `(tactic| first | (guard_target = XS _ _ (Stmt.AugAssign (Expr.Name "data" _) _ _ _) _ _; refine xs_aug 0 nd rfl ?_) | (guard_target = XS _ _ (Stmt.AugAssign (Expr.Name "total" _) _ _ _) _ _; refine xs_aug 1 nd rfl ?_) | (guard_target = XS _ _ (Stmt.AugAssign (Expr.Name "byte" _) _ _ _) _ _; refine xs_aug 2 nd rfl ?_) | (guard_target = XS _ _ (Stmt.AugAssign (Expr.Name "four" _) _ _ _) _ _; refine xs_aug 3 nd rfl ?_) | (guard_target = XS _ _ (Stmt.AugAssign (Expr.Name "turn" _) _ _ _) _ _; refine xs_aug 4 nd rfl ?_))
local macro_rules | `(tactic| walk_at "gn") => `(tactic| first | (guard_target = XG _ _ (Expr.Name "data" _) _ _ _ _; refine xg_n 0 nd ?_) | (guard_target = XG _ _ (Expr.Name "total" _) _ _ _ _; refine xg_n 1 nd ?_) | (guard_target = XG _ _ (Expr.Name "byte" _) _ _ _ _; refine xg_n 2 nd ?_) | (guard_target = XG _ _ (Expr.Name "four" _) _ _ _ _; refine xg_n 3 nd ?_) | (guard_target = XG _ _ (Expr.Name "turn" _) _ _ _ _; refine xg_n 4 nd ?_))
local macro_rules | `(tactic| walk_at "leno") => `(tactic| first | (guard_target = XE _ _ (Expr.Call (Expr.Name "len" _) [Expr.Name "data" _] [] _) _ _; refine xe_leno 0 rfl T.z_len ?_) | (guard_target = XE _ _ (Expr.Call (Expr.Name "len" _) [Expr.Name "total" _] [] _) _ _; refine xe_leno 1 rfl T.z_len ?_) | (guard_target = XE _ _ (Expr.Call (Expr.Name "len" _) [Expr.Name "byte" _] [] _) _ _; refine xe_leno 2 rfl T.z_len ?_) | (guard_target = XE _ _ (Expr.Call (Expr.Name "len" _) [Expr.Name "four" _] [] _) _ _; refine xe_leno 3 rfl T.z_len ?_) | (guard_target = XE _ _ (Expr.Call (Expr.Name "len" _) [Expr.Name "turn" _] [] _) _ _; refine xe_leno 4 rfl T.z_len ?_))
local macro_rules | `(tactic| walk_at "ixo") => `(tactic| first | (guard_target = XE _ _ (Expr.Subscript (Expr.Name "data" _) _ _) _ _; first | refine xe_ixoL 0 ⟨_, _, rfl⟩ ?_ | refine xe_dget 0 hu ⟨_, .ow rfl, .inl ⟨_, rfl⟩⟩ ?_ | refine xe_dget 0 hu ⟨_, .ow rfl, .inr ⟨_, rfl⟩⟩ ?_ | refine xe_dget 0 hu ⟨_, .va rfl, .inl ⟨_, rfl⟩⟩ ?_ | refine xe_dget 0 hu ⟨_, .va rfl, .inr ⟨_, rfl⟩⟩ ?_) | (guard_target = XE _ _ (Expr.Subscript (Expr.Name "total" _) _ _) _ _; first | refine xe_ixoL 1 ⟨_, _, rfl⟩ ?_ | refine xe_dget 1 hu ⟨_, .ow rfl, .inl ⟨_, rfl⟩⟩ ?_ | refine xe_dget 1 hu ⟨_, .ow rfl, .inr ⟨_, rfl⟩⟩ ?_ | refine xe_dget 1 hu ⟨_, .va rfl, .inl ⟨_, rfl⟩⟩ ?_ | refine xe_dget 1 hu ⟨_, .va rfl, .inr ⟨_, rfl⟩⟩ ?_) | (guard_target = XE _ _ (Expr.Subscript (Expr.Name "byte" _) _ _) _ _; first | refine xe_ixoL 2 ⟨_, _, rfl⟩ ?_ | refine xe_dget 2 hu ⟨_, .ow rfl, .inl ⟨_, rfl⟩⟩ ?_ | refine xe_dget 2 hu ⟨_, .ow rfl, .inr ⟨_, rfl⟩⟩ ?_ | refine xe_dget 2 hu ⟨_, .va rfl, .inl ⟨_, rfl⟩⟩ ?_ | refine xe_dget 2 hu ⟨_, .va rfl, .inr ⟨_, rfl⟩⟩ ?_) | (guard_target = XE _ _ (Expr.Subscript (Expr.Name "four" _) _ _) _ _; first | refine xe_ixoL 3 ⟨_, _, rfl⟩ ?_ | refine xe_dget 3 hu ⟨_, .ow rfl, .inl ⟨_, rfl⟩⟩ ?_ | refine xe_dget 3 hu ⟨_, .ow rfl, .inr ⟨_, rfl⟩⟩ ?_ | refine xe_dget 3 hu ⟨_, .va rfl, .inl ⟨_, rfl⟩⟩ ?_ | refine xe_dget 3 hu ⟨_, .va rfl, .inr ⟨_, rfl⟩⟩ ?_) | (guard_target = XE _ _ (Expr.Subscript (Expr.Name "turn" _) _ _) _ _; first | refine xe_ixoL 4 ⟨_, _, rfl⟩ ?_ | refine xe_dget 4 hu ⟨_, .ow rfl, .inl ⟨_, rfl⟩⟩ ?_ | refine xe_dget 4 hu ⟨_, .ow rfl, .inr ⟨_, rfl⟩⟩ ?_ | refine xe_dget 4 hu ⟨_, .va rfl, .inl ⟨_, rfl⟩⟩ ?_ | refine xe_dget 4 hu ⟨_, .va rfl, .inr ⟨_, rfl⟩⟩ ?_))
local macro_rules | `(tactic| walk_at "sub") => `(tactic| first | (guard_target = XS _ _ (Stmt.Assign [Expr.Subscript (Expr.Name "data" _) _ _] _ _) _ _; first | refine xs_subL 0 ⟨_, _, rfl⟩ ?_ | refine xs_dput 0 hu ⟨_, _, rfl⟩ ?_) | (guard_target = XS _ _ (Stmt.Assign [Expr.Subscript (Expr.Name "total" _) _ _] _ _) _ _; first | refine xs_subL 1 ⟨_, _, rfl⟩ ?_ | refine xs_dput 1 hu ⟨_, _, rfl⟩ ?_) | (guard_target = XS _ _ (Stmt.Assign [Expr.Subscript (Expr.Name "byte" _) _ _] _ _) _ _; first | refine xs_subL 2 ⟨_, _, rfl⟩ ?_ | refine xs_dput 2 hu ⟨_, _, rfl⟩ ?_) | (guard_target = XS _ _ (Stmt.Assign [Expr.Subscript (Expr.Name "four" _) _ _] _ _) _ _; first | refine xs_subL 3 ⟨_, _, rfl⟩ ?_ | refine xs_dput 3 hu ⟨_, _, rfl⟩ ?_) | (guard_target = XS _ _ (Stmt.Assign [Expr.Subscript (Expr.Name "turn" _) _ _] _ _) _ _; first | refine xs_subL 4 ⟨_, _, rfl⟩ ?_ | refine xs_dput 4 hu ⟨_, _, rfl⟩ ?_))
local macro_rules | `(tactic| walk_at "tino") => `(tactic| first | (guard_target = XT _ _ (Expr.Compare _ _ [Expr.Name "data" _] _) _ _; first | refine xt_inoL 0 ⟨_, _, rfl⟩ ?_ | refine xt_din 0 hu ⟨_, .ow rfl, .inl ⟨_, rfl⟩⟩ ?_ | refine xt_din 0 hu ⟨_, .ow rfl, .inr ⟨_, rfl⟩⟩ ?_ | refine xt_din 0 hu ⟨_, .va rfl, .inl ⟨_, rfl⟩⟩ ?_ | refine xt_din 0 hu ⟨_, .va rfl, .inr ⟨_, rfl⟩⟩ ?_) | (guard_target = XT _ _ (Expr.Compare _ _ [Expr.Name "total" _] _) _ _; first | refine xt_inoL 1 ⟨_, _, rfl⟩ ?_ | refine xt_din 1 hu ⟨_, .ow rfl, .inl ⟨_, rfl⟩⟩ ?_ | refine xt_din 1 hu ⟨_, .ow rfl, .inr ⟨_, rfl⟩⟩ ?_ | refine xt_din 1 hu ⟨_, .va rfl, .inl ⟨_, rfl⟩⟩ ?_ | refine xt_din 1 hu ⟨_, .va rfl, .inr ⟨_, rfl⟩⟩ ?_) | (guard_target = XT _ _ (Expr.Compare _ _ [Expr.Name "byte" _] _) _ _; first | refine xt_inoL 2 ⟨_, _, rfl⟩ ?_ | refine xt_din 2 hu ⟨_, .ow rfl, .inl ⟨_, rfl⟩⟩ ?_ | refine xt_din 2 hu ⟨_, .ow rfl, .inr ⟨_, rfl⟩⟩ ?_ | refine xt_din 2 hu ⟨_, .va rfl, .inl ⟨_, rfl⟩⟩ ?_ | refine xt_din 2 hu ⟨_, .va rfl, .inr ⟨_, rfl⟩⟩ ?_) | (guard_target = XT _ _ (Expr.Compare _ _ [Expr.Name "four" _] _) _ _; first | refine xt_inoL 3 ⟨_, _, rfl⟩ ?_ | refine xt_din 3 hu ⟨_, .ow rfl, .inl ⟨_, rfl⟩⟩ ?_ | refine xt_din 3 hu ⟨_, .ow rfl, .inr ⟨_, rfl⟩⟩ ?_ | refine xt_din 3 hu ⟨_, .va rfl, .inl ⟨_, rfl⟩⟩ ?_ | refine xt_din 3 hu ⟨_, .va rfl, .inr ⟨_, rfl⟩⟩ ?_) | (guard_target = XT _ _ (Expr.Compare _ _ [Expr.Name "turn" _] _) _ _; first | refine xt_inoL 4 ⟨_, _, rfl⟩ ?_ | refine xt_din 4 hu ⟨_, .ow rfl, .inl ⟨_, rfl⟩⟩ ?_ | refine xt_din 4 hu ⟨_, .ow rfl, .inr ⟨_, rfl⟩⟩ ?_ | refine xt_din 4 hu ⟨_, .va rfl, .inl ⟨_, rfl⟩⟩ ?_ | refine xt_din 4 hu ⟨_, .va rfl, .inr ⟨_, rfl⟩⟩ ?_))
local macro_rules | `(tactic| walk_at "tnio") => `(tactic| first | (guard_target = XT _ _ (Expr.Compare _ _ [Expr.Name "data" _] _) _ _; first | refine xt_nioL 0 ⟨_, _, rfl⟩ ?_ | refine xt_dni 0 hu ⟨_, .ow rfl, .inl ⟨_, rfl⟩⟩ ?_ | refine xt_dni 0 hu ⟨_, .ow rfl, .inr ⟨_, rfl⟩⟩ ?_ | refine xt_dni 0 hu ⟨_, .va rfl, .inl ⟨_, rfl⟩⟩ ?_ | refine xt_dni 0 hu ⟨_, .va rfl, .inr ⟨_, rfl⟩⟩ ?_) | (guard_target = XT _ _ (Expr.Compare _ _ [Expr.Name "total" _] _) _ _; first | refine xt_nioL 1 ⟨_, _, rfl⟩ ?_ | refine xt_dni 1 hu ⟨_, .ow rfl, .inl ⟨_, rfl⟩⟩ ?_ | refine xt_dni 1 hu ⟨_, .ow rfl, .inr ⟨_, rfl⟩⟩ ?_ | refine xt_dni 1 hu ⟨_, .va rfl, .inl ⟨_, rfl⟩⟩ ?_ | refine xt_dni 1 hu ⟨_, .va rfl, .inr ⟨_, rfl⟩⟩ ?_) | (guard_target = XT _ _ (Expr.Compare _ _ [Expr.Name "byte" _] _) _ _; first | refine xt_nioL 2 ⟨_, _, rfl⟩ ?_ | refine xt_dni 2 hu ⟨_, .ow rfl, .inl ⟨_, rfl⟩⟩ ?_ | refine xt_dni 2 hu ⟨_, .ow rfl, .inr ⟨_, rfl⟩⟩ ?_ | refine xt_dni 2 hu ⟨_, .va rfl, .inl ⟨_, rfl⟩⟩ ?_ | refine xt_dni 2 hu ⟨_, .va rfl, .inr ⟨_, rfl⟩⟩ ?_) | (guard_target = XT _ _ (Expr.Compare _ _ [Expr.Name "four" _] _) _ _; first | refine xt_nioL 3 ⟨_, _, rfl⟩ ?_ | refine xt_dni 3 hu ⟨_, .ow rfl, .inl ⟨_, rfl⟩⟩ ?_ | refine xt_dni 3 hu ⟨_, .ow rfl, .inr ⟨_, rfl⟩⟩ ?_ | refine xt_dni 3 hu ⟨_, .va rfl, .inl ⟨_, rfl⟩⟩ ?_ | refine xt_dni 3 hu ⟨_, .va rfl, .inr ⟨_, rfl⟩⟩ ?_) | (guard_target = XT _ _ (Expr.Compare _ _ [Expr.Name "turn" _] _) _ _; first | refine xt_nioL 4 ⟨_, _, rfl⟩ ?_ | refine xt_dni 4 hu ⟨_, .ow rfl, .inl ⟨_, rfl⟩⟩ ?_ | refine xt_dni 4 hu ⟨_, .ow rfl, .inr ⟨_, rfl⟩⟩ ?_ | refine xt_dni 4 hu ⟨_, .va rfl, .inl ⟨_, rfl⟩⟩ ?_ | refine xt_dni 4 hu ⟨_, .va rfl, .inr ⟨_, rfl⟩⟩ ?_))
local macro_rules | `(tactic| walk_at "tru") => `(tactic| first | (guard_target = XT _ _ (Expr.Name "data" _) _ _; refine xt_truO 0 rfl ?_) | (guard_target = XT _ _ (Expr.Name "total" _) _ _; refine xt_truO 1 rfl ?_) | (guard_target = XT _ _ (Expr.Name "byte" _) _ _; refine xt_truO 2 rfl ?_) | (guard_target = XT _ _ (Expr.Name "four" _) _ _; refine xt_truO 3 rfl ?_) | (guard_target = XT _ _ (Expr.Name "turn" _) _ _; refine xt_truO 4 rfl ?_))
local macro_rules | `(tactic| walk_at "ldt") => `(tactic| first | (guard_target = XE _ _ (Expr.Call (Expr.Name "list" _) [Expr.Name "data" _] [] _) _ _; first | refine xe_listOw 0 rfl T.z_list ?_ | refine xe_listDT 0 rfl T.z_list ?_) | (guard_target = XE _ _ (Expr.Call (Expr.Name "list" _) [Expr.Name "total" _] [] _) _ _; first | refine xe_listOw 1 rfl T.z_list ?_ | refine xe_listDT 1 rfl T.z_list ?_) | (guard_target = XE _ _ (Expr.Call (Expr.Name "list" _) [Expr.Name "byte" _] [] _) _ _; first | refine xe_listOw 2 rfl T.z_list ?_ | refine xe_listDT 2 rfl T.z_list ?_) | (guard_target = XE _ _ (Expr.Call (Expr.Name "list" _) [Expr.Name "four" _] [] _) _ _; first | refine xe_listOw 3 rfl T.z_list ?_ | refine xe_listDT 3 rfl T.z_list ?_) | (guard_target = XE _ _ (Expr.Call (Expr.Name "list" _) [Expr.Name "turn" _] [] _) _ _; first | refine xe_listOw 4 rfl T.z_list ?_ | refine xe_listDT 4 rfl T.z_list ?_))
local macro_rules | `(tactic| walk_at "xr") => `(tactic| first | (guard_target = XR _ _ (Expr.Name "data" _ :: _) _ _; refine xr_own 0 ⟨_, _, rfl⟩ ?_) | (guard_target = XR _ _ (Expr.Name "total" _ :: _) _ _; refine xr_own 1 ⟨_, _, rfl⟩ ?_) | (guard_target = XR _ _ (Expr.Name "byte" _ :: _) _ _; refine xr_own 2 ⟨_, _, rfl⟩ ?_) | (guard_target = XR _ _ (Expr.Name "four" _ :: _) _ _; refine xr_own 3 ⟨_, _, rfl⟩ ?_) | (guard_target = XR _ _ (Expr.Name "turn" _ :: _) _ _; refine xr_own 4 ⟨_, _, rfl⟩ ?_))
local macro_rules | `(tactic| walk_at "fld") => `(tactic| first | (guard_target = XE _ _ (Expr.Attribute (Expr.Name "data" _) "data" _) _ _; refine xe_fldo 0 T.cl_ByteReader T.na_ByteReader_data rfl rfl ?_) | (guard_target = XE _ _ (Expr.Attribute (Expr.Name "total" _) "data" _) _ _; refine xe_fldo 1 T.cl_ByteReader T.na_ByteReader_data rfl rfl ?_) | (guard_target = XE _ _ (Expr.Attribute (Expr.Name "byte" _) "data" _) _ _; refine xe_fldo 2 T.cl_ByteReader T.na_ByteReader_data rfl rfl ?_) | (guard_target = XE _ _ (Expr.Attribute (Expr.Name "four" _) "data" _) _ _; refine xe_fldo 3 T.cl_ByteReader T.na_ByteReader_data rfl rfl ?_) | (guard_target = XE _ _ (Expr.Attribute (Expr.Name "turn" _) "data" _) _ _; refine xe_fldo 4 T.cl_ByteReader T.na_ByteReader_data rfl rfl ?_))
local macro_rules | `(tactic| walk_at "sx") => `(tactic| first | (guard_target = XS _ _ (Stmt.Assign [Expr.Attribute (Expr.Name "data" _) "data" _] _ _) _ _; refine xs_flds 0 T.cl_ByteReader T.na_ByteReader_data ⟨_, _, rfl⟩ ?_) | (guard_target = XS _ _ (Stmt.Assign [Expr.Attribute (Expr.Name "total" _) "data" _] _ _) _ _; refine xs_flds 1 T.cl_ByteReader T.na_ByteReader_data ⟨_, _, rfl⟩ ?_) | (guard_target = XS _ _ (Stmt.Assign [Expr.Attribute (Expr.Name "byte" _) "data" _] _ _) _ _; refine xs_flds 2 T.cl_ByteReader T.na_ByteReader_data ⟨_, _, rfl⟩ ?_) | (guard_target = XS _ _ (Stmt.Assign [Expr.Attribute (Expr.Name "four" _) "data" _] _ _) _ _; refine xs_flds 3 T.cl_ByteReader T.na_ByteReader_data ⟨_, _, rfl⟩ ?_) | (guard_target = XS _ _ (Stmt.Assign [Expr.Attribute (Expr.Name "turn" _) "data" _] _ _) _ _; refine xs_flds 4 T.cl_ByteReader T.na_ByteReader_data ⟨_, _, rfl⟩ ?_))
local macro_rules | `(tactic| walk_at "sx") => `(tactic| first | (guard_target = XS _ _ (Stmt.AugAssign (Expr.Attribute (Expr.Name "data" _) "data" _) .Add _ _) _ _; refine xs_flda 0 T.cl_ByteReader T.na_ByteReader_data rfl rfl ?_) | (guard_target = XS _ _ (Stmt.AugAssign (Expr.Attribute (Expr.Name "total" _) "data" _) .Add _ _) _ _; refine xs_flda 1 T.cl_ByteReader T.na_ByteReader_data rfl rfl ?_) | (guard_target = XS _ _ (Stmt.AugAssign (Expr.Attribute (Expr.Name "byte" _) "data" _) .Add _ _) _ _; refine xs_flda 2 T.cl_ByteReader T.na_ByteReader_data rfl rfl ?_) | (guard_target = XS _ _ (Stmt.AugAssign (Expr.Attribute (Expr.Name "four" _) "data" _) .Add _ _) _ _; refine xs_flda 3 T.cl_ByteReader T.na_ByteReader_data rfl rfl ?_) | (guard_target = XS _ _ (Stmt.AugAssign (Expr.Attribute (Expr.Name "turn" _) "data" _) .Add _ _) _ _; refine xs_flda 4 T.cl_ByteReader T.na_ByteReader_data rfl rfl ?_))
local macro_rules | `(tactic| walk_at "fld") => `(tactic| first | (guard_target = XE _ _ (Expr.Attribute (Expr.Name "data" _) "at" _) _ _; refine xe_fldo 0 T.cl_ByteReader T.na_ByteReader_at rfl rfl ?_) | (guard_target = XE _ _ (Expr.Attribute (Expr.Name "total" _) "at" _) _ _; refine xe_fldo 1 T.cl_ByteReader T.na_ByteReader_at rfl rfl ?_) | (guard_target = XE _ _ (Expr.Attribute (Expr.Name "byte" _) "at" _) _ _; refine xe_fldo 2 T.cl_ByteReader T.na_ByteReader_at rfl rfl ?_) | (guard_target = XE _ _ (Expr.Attribute (Expr.Name "four" _) "at" _) _ _; refine xe_fldo 3 T.cl_ByteReader T.na_ByteReader_at rfl rfl ?_) | (guard_target = XE _ _ (Expr.Attribute (Expr.Name "turn" _) "at" _) _ _; refine xe_fldo 4 T.cl_ByteReader T.na_ByteReader_at rfl rfl ?_))
local macro_rules | `(tactic| walk_at "sx") => `(tactic| first | (guard_target = XS _ _ (Stmt.Assign [Expr.Attribute (Expr.Name "data" _) "at" _] _ _) _ _; refine xs_flds 0 T.cl_ByteReader T.na_ByteReader_at ⟨_, _, rfl⟩ ?_) | (guard_target = XS _ _ (Stmt.Assign [Expr.Attribute (Expr.Name "total" _) "at" _] _ _) _ _; refine xs_flds 1 T.cl_ByteReader T.na_ByteReader_at ⟨_, _, rfl⟩ ?_) | (guard_target = XS _ _ (Stmt.Assign [Expr.Attribute (Expr.Name "byte" _) "at" _] _ _) _ _; refine xs_flds 2 T.cl_ByteReader T.na_ByteReader_at ⟨_, _, rfl⟩ ?_) | (guard_target = XS _ _ (Stmt.Assign [Expr.Attribute (Expr.Name "four" _) "at" _] _ _) _ _; refine xs_flds 3 T.cl_ByteReader T.na_ByteReader_at ⟨_, _, rfl⟩ ?_) | (guard_target = XS _ _ (Stmt.Assign [Expr.Attribute (Expr.Name "turn" _) "at" _] _ _) _ _; refine xs_flds 4 T.cl_ByteReader T.na_ByteReader_at ⟨_, _, rfl⟩ ?_))
local macro_rules | `(tactic| walk_at "sx") => `(tactic| first | (guard_target = XS _ _ (Stmt.AugAssign (Expr.Attribute (Expr.Name "data" _) "at" _) .Add _ _) _ _; refine xs_flda 0 T.cl_ByteReader T.na_ByteReader_at rfl rfl ?_) | (guard_target = XS _ _ (Stmt.AugAssign (Expr.Attribute (Expr.Name "total" _) "at" _) .Add _ _) _ _; refine xs_flda 1 T.cl_ByteReader T.na_ByteReader_at rfl rfl ?_) | (guard_target = XS _ _ (Stmt.AugAssign (Expr.Attribute (Expr.Name "byte" _) "at" _) .Add _ _) _ _; refine xs_flda 2 T.cl_ByteReader T.na_ByteReader_at rfl rfl ?_) | (guard_target = XS _ _ (Stmt.AugAssign (Expr.Attribute (Expr.Name "four" _) "at" _) .Add _ _) _ _; refine xs_flda 3 T.cl_ByteReader T.na_ByteReader_at rfl rfl ?_) | (guard_target = XS _ _ (Stmt.AugAssign (Expr.Attribute (Expr.Name "turn" _) "at" _) .Add _ _) _ _; refine xs_flda 4 T.cl_ByteReader T.na_ByteReader_at rfl rfl ?_))
local macro_rules | `(tactic| walk_at "ext") => `(tactic| first | (guard_target = XS _ _ (Stmt.Expr (Expr.Call (Expr.Attribute (Expr.Name "data" _) "extend" _) _ _ _) _) _ _; refine xs_ext 0 ⟨_, _, rfl⟩ ?_) | (guard_target = XS _ _ (Stmt.Expr (Expr.Call (Expr.Attribute (Expr.Name "total" _) "extend" _) _ _ _) _) _ _; refine xs_ext 1 ⟨_, _, rfl⟩ ?_) | (guard_target = XS _ _ (Stmt.Expr (Expr.Call (Expr.Attribute (Expr.Name "byte" _) "extend" _) _ _ _) _) _ _; refine xs_ext 2 ⟨_, _, rfl⟩ ?_) | (guard_target = XS _ _ (Stmt.Expr (Expr.Call (Expr.Attribute (Expr.Name "four" _) "extend" _) _ _ _) _) _ _; refine xs_ext 3 ⟨_, _, rfl⟩ ?_) | (guard_target = XS _ _ (Stmt.Expr (Expr.Call (Expr.Attribute (Expr.Name "turn" _) "extend" _) _ _ _) _) _ _; refine xs_ext 4 ⟨_, _, rfl⟩ ?_))
theorem ok_law_sum (T : Tx K mg) : FnOk P w K mg base CX0 1 T.f_law_sum T.d_law_sum ["data"] (SpD K RSumB) := by
  refine fn_okD T.F_law_sum sc_law_sum (fun ds Φ h => by obtain ⟨_, rfl, _⟩ := h; rfl) (fun cdv A outer s H E F hr ds Φ h => ?_)
  have nd := sc_law_sum.nd
  obtain ⟨l, rfl, q⟩ := h
  walk_at "st"
  refine ⟨fun i G => G = [.va (Il l), vI (ckI (l.take i)), .no, .no, .no], ⟨_, rfl, by walk_at "cov"⟩, fun i d G hd eG => ?_, fun G eG => ?_⟩
  · subst eG
    obtain ⟨x, hx, rfl⟩ := get_map hd
    walk_at "go"
    rw [ck_take hx]
    walk_at "cov"
  · subst eG
    rw [List.length_map, List.take_length]
    walk_at "go"
    refine ⟨fun t G => G = [.no, vI (qn (ckI l) t), .no, oIs false (qL (ckI l) t), .no], ⟨_, rfl, by walk_at "cov"⟩, fun t d G hd eG => ?_, fun G eG => ?_⟩
    · subst eG
      obtain ⟨ht, rfl⟩ := get_range_int hd
      have ht' : t < 4 := ht
      have e0 : ((qL (ckI l) t).map D.int).length < 1000000 := by rw [List.length_map, qL_len]; omega
      walk_at "go"
      rw [qL_succ]
      walk_at "cova"
    · subst eG
      rw [len_range_int, show Int.toNat 4 = 4 from rfl, qL_four]
      walk_at "go"
      exact q

end
local macro_rules | `(tactic| walk_at "call") => `(tactic| ((guard_target = XE _ _ (Expr.Call (Expr.Name "_law_sum" _) _ _ _) _ _); refine xe_callx (ok_law_sum T) hr.in1' T.m_law_sum T.F_law_sum.kp T.b_law_sum ?_))
section
local macro_rules | `(tactic| walk_at "n") => `(tactic| first | (guard_target = XE _ _ (Expr.Name "n" _) _ _; first | refine xe_n 0 rfl ?_ | refine xe_nf 0 rfl ?_) | (guard_target = XE _ _ (Expr.Name "data" _) _ _; first | refine xe_n 1 rfl ?_ | refine xe_nf 1 rfl ?_) | (guard_target = XE _ _ (Expr.Name "turn" _) _ _; first | refine xe_n 2 rfl ?_ | refine xe_nf 2 rfl ?_))
local macro_rules | `(tactic| walk_at "set") => `(tactic| first | (guard_target = XS _ _ (Stmt.Assign [Expr.Name "n" _] _ _) _ _; refine xs_set 0 nd ?_) | (guard_target = XS _ _ (Stmt.Assign [Expr.Name "data" _] _ _) _ _; refine xs_set 1 nd ?_) | (guard_target = XS _ _ (Stmt.Assign [Expr.Name "turn" _] _ _) _ _; refine xs_set 2 nd ?_))
local macro_rules | `(tactic| walk_at "own") => `(tactic| first | (guard_target = XS _ _ (Stmt.Assign [Expr.Name "n" _] _ _) _ _; refine xs_own 0 nd ?_) | (guard_target = XS _ _ (Stmt.Assign [Expr.Name "data" _] _ _) _ _; refine xs_own 1 nd ?_) | (guard_target = XS _ _ (Stmt.Assign [Expr.Name "turn" _] _ _) _ _; refine xs_own 2 nd ?_))
local macro_rules | `(tactic| walk_at "app") => `(tactic| first | (guard_target = XS _ _ (Stmt.Expr (Expr.Call (Expr.Attribute (Expr.Name "n" _) _ _) _ _ _) _) _ _; refine xs_app 0 ⟨_, _, rfl⟩ ?_) | (guard_target = XS _ _ (Stmt.Expr (Expr.Call (Expr.Attribute (Expr.Name "data" _) _ _) _ _ _) _) _ _; refine xs_app 1 ⟨_, _, rfl⟩ ?_) | (guard_target = XS _ _ (Stmt.Expr (Expr.Call (Expr.Attribute (Expr.Name "turn" _) _ _) _ _ _) _) _ _; refine xs_app 2 ⟨_, _, rfl⟩ ?_))
local macro_rules | `(tactic| walk_at "aug") => `(tactic| first | (guard_target = XS _ _ (Stmt.AugAssign (Expr.Name "n" _) _ _ _) _ _; refine xs_aug 0 nd rfl ?_) | (guard_target = XS _ _ (Stmt.AugAssign (Expr.Name "data" _) _ _ _) _ _; refine xs_aug 1 nd rfl ?_) | (guard_target = XS _ _ (Stmt.AugAssign (Expr.Name "turn" _) _ _ _) _ _; refine xs_aug 2 nd rfl ?_))
local macro_rules | `(tactic| walk_at "gn") => `(tactic| first | (guard_target = XG _ _ (Expr.Name "n" _) _ _ _ _; refine xg_n 0 nd ?_) | (guard_target = XG _ _ (Expr.Name "data" _) _ _ _ _; refine xg_n 1 nd ?_) | (guard_target = XG _ _ (Expr.Name "turn" _) _ _ _ _; refine xg_n 2 nd ?_))
local macro_rules | `(tactic| walk_at "leno") => `(tactic| first | (guard_target = XE _ _ (Expr.Call (Expr.Name "len" _) [Expr.Name "n" _] [] _) _ _; refine xe_leno 0 rfl T.z_len ?_) | (guard_target = XE _ _ (Expr.Call (Expr.Name "len" _) [Expr.Name "data" _] [] _) _ _; refine xe_leno 1 rfl T.z_len ?_) | (guard_target = XE _ _ (Expr.Call (Expr.Name "len" _) [Expr.Name "turn" _] [] _) _ _; refine xe_leno 2 rfl T.z_len ?_))
local macro_rules | `(tactic| walk_at "ixo") => `(tactic| first | (guard_target = XE _ _ (Expr.Subscript (Expr.Name "n" _) _ _) _ _; first | refine xe_ixoL 0 ⟨_, _, rfl⟩ ?_ | refine xe_dget 0 hu ⟨_, .ow rfl, .inl ⟨_, rfl⟩⟩ ?_ | refine xe_dget 0 hu ⟨_, .ow rfl, .inr ⟨_, rfl⟩⟩ ?_ | refine xe_dget 0 hu ⟨_, .va rfl, .inl ⟨_, rfl⟩⟩ ?_ | refine xe_dget 0 hu ⟨_, .va rfl, .inr ⟨_, rfl⟩⟩ ?_) | (guard_target = XE _ _ (Expr.Subscript (Expr.Name "data" _) _ _) _ _; first | refine xe_ixoL 1 ⟨_, _, rfl⟩ ?_ | refine xe_dget 1 hu ⟨_, .ow rfl, .inl ⟨_, rfl⟩⟩ ?_ | refine xe_dget 1 hu ⟨_, .ow rfl, .inr ⟨_, rfl⟩⟩ ?_ | refine xe_dget 1 hu ⟨_, .va rfl, .inl ⟨_, rfl⟩⟩ ?_ | refine xe_dget 1 hu ⟨_, .va rfl, .inr ⟨_, rfl⟩⟩ ?_) | (guard_target = XE _ _ (Expr.Subscript (Expr.Name "turn" _) _ _) _ _; first | refine xe_ixoL 2 ⟨_, _, rfl⟩ ?_ | refine xe_dget 2 hu ⟨_, .ow rfl, .inl ⟨_, rfl⟩⟩ ?_ | refine xe_dget 2 hu ⟨_, .ow rfl, .inr ⟨_, rfl⟩⟩ ?_ | refine xe_dget 2 hu ⟨_, .va rfl, .inl ⟨_, rfl⟩⟩ ?_ | refine xe_dget 2 hu ⟨_, .va rfl, .inr ⟨_, rfl⟩⟩ ?_))
local macro_rules | `(tactic| walk_at "sub") => `(tactic| first | (guard_target = XS _ _ (Stmt.Assign [Expr.Subscript (Expr.Name "n" _) _ _] _ _) _ _; first | refine xs_subL 0 ⟨_, _, rfl⟩ ?_ | refine xs_dput 0 hu ⟨_, _, rfl⟩ ?_) | (guard_target = XS _ _ (Stmt.Assign [Expr.Subscript (Expr.Name "data" _) _ _] _ _) _ _; first | refine xs_subL 1 ⟨_, _, rfl⟩ ?_ | refine xs_dput 1 hu ⟨_, _, rfl⟩ ?_) | (guard_target = XS _ _ (Stmt.Assign [Expr.Subscript (Expr.Name "turn" _) _ _] _ _) _ _; first | refine xs_subL 2 ⟨_, _, rfl⟩ ?_ | refine xs_dput 2 hu ⟨_, _, rfl⟩ ?_))
local macro_rules | `(tactic| walk_at "tino") => `(tactic| first | (guard_target = XT _ _ (Expr.Compare _ _ [Expr.Name "n" _] _) _ _; first | refine xt_inoL 0 ⟨_, _, rfl⟩ ?_ | refine xt_din 0 hu ⟨_, .ow rfl, .inl ⟨_, rfl⟩⟩ ?_ | refine xt_din 0 hu ⟨_, .ow rfl, .inr ⟨_, rfl⟩⟩ ?_ | refine xt_din 0 hu ⟨_, .va rfl, .inl ⟨_, rfl⟩⟩ ?_ | refine xt_din 0 hu ⟨_, .va rfl, .inr ⟨_, rfl⟩⟩ ?_) | (guard_target = XT _ _ (Expr.Compare _ _ [Expr.Name "data" _] _) _ _; first | refine xt_inoL 1 ⟨_, _, rfl⟩ ?_ | refine xt_din 1 hu ⟨_, .ow rfl, .inl ⟨_, rfl⟩⟩ ?_ | refine xt_din 1 hu ⟨_, .ow rfl, .inr ⟨_, rfl⟩⟩ ?_ | refine xt_din 1 hu ⟨_, .va rfl, .inl ⟨_, rfl⟩⟩ ?_ | refine xt_din 1 hu ⟨_, .va rfl, .inr ⟨_, rfl⟩⟩ ?_) | (guard_target = XT _ _ (Expr.Compare _ _ [Expr.Name "turn" _] _) _ _; first | refine xt_inoL 2 ⟨_, _, rfl⟩ ?_ | refine xt_din 2 hu ⟨_, .ow rfl, .inl ⟨_, rfl⟩⟩ ?_ | refine xt_din 2 hu ⟨_, .ow rfl, .inr ⟨_, rfl⟩⟩ ?_ | refine xt_din 2 hu ⟨_, .va rfl, .inl ⟨_, rfl⟩⟩ ?_ | refine xt_din 2 hu ⟨_, .va rfl, .inr ⟨_, rfl⟩⟩ ?_))
local macro_rules | `(tactic| walk_at "tnio") => `(tactic| first | (guard_target = XT _ _ (Expr.Compare _ _ [Expr.Name "n" _] _) _ _; first | refine xt_nioL 0 ⟨_, _, rfl⟩ ?_ | refine xt_dni 0 hu ⟨_, .ow rfl, .inl ⟨_, rfl⟩⟩ ?_ | refine xt_dni 0 hu ⟨_, .ow rfl, .inr ⟨_, rfl⟩⟩ ?_ | refine xt_dni 0 hu ⟨_, .va rfl, .inl ⟨_, rfl⟩⟩ ?_ | refine xt_dni 0 hu ⟨_, .va rfl, .inr ⟨_, rfl⟩⟩ ?_) | (guard_target = XT _ _ (Expr.Compare _ _ [Expr.Name "data" _] _) _ _; first | refine xt_nioL 1 ⟨_, _, rfl⟩ ?_ | refine xt_dni 1 hu ⟨_, .ow rfl, .inl ⟨_, rfl⟩⟩ ?_ | refine xt_dni 1 hu ⟨_, .ow rfl, .inr ⟨_, rfl⟩⟩ ?_ | refine xt_dni 1 hu ⟨_, .va rfl, .inl ⟨_, rfl⟩⟩ ?_ | refine xt_dni 1 hu ⟨_, .va rfl, .inr ⟨_, rfl⟩⟩ ?_) | (guard_target = XT _ _ (Expr.Compare _ _ [Expr.Name "turn" _] _) _ _; first | refine xt_nioL 2 ⟨_, _, rfl⟩ ?_ | refine xt_dni 2 hu ⟨_, .ow rfl, .inl ⟨_, rfl⟩⟩ ?_ | refine xt_dni 2 hu ⟨_, .ow rfl, .inr ⟨_, rfl⟩⟩ ?_ | refine xt_dni 2 hu ⟨_, .va rfl, .inl ⟨_, rfl⟩⟩ ?_ | refine xt_dni 2 hu ⟨_, .va rfl, .inr ⟨_, rfl⟩⟩ ?_))
local macro_rules | `(tactic| walk_at "tru") => `(tactic| first | (guard_target = XT _ _ (Expr.Name "n" _) _ _; refine xt_truO 0 rfl ?_) | (guard_target = XT _ _ (Expr.Name "data" _) _ _; refine xt_truO 1 rfl ?_) | (guard_target = XT _ _ (Expr.Name "turn" _) _ _; refine xt_truO 2 rfl ?_))
local macro_rules | `(tactic| walk_at "ldt") => `(tactic| first | (guard_target = XE _ _ (Expr.Call (Expr.Name "list" _) [Expr.Name "n" _] [] _) _ _; first | refine xe_listOw 0 rfl T.z_list ?_ | refine xe_listDT 0 rfl T.z_list ?_) | (guard_target = XE _ _ (Expr.Call (Expr.Name "list" _) [Expr.Name "data" _] [] _) _ _; first | refine xe_listOw 1 rfl T.z_list ?_ | refine xe_listDT 1 rfl T.z_list ?_) | (guard_target = XE _ _ (Expr.Call (Expr.Name "list" _) [Expr.Name "turn" _] [] _) _ _; first | refine xe_listOw 2 rfl T.z_list ?_ | refine xe_listDT 2 rfl T.z_list ?_))
local macro_rules | `(tactic| walk_at "xr") => `(tactic| first | (guard_target = XR _ _ (Expr.Name "n" _ :: _) _ _; refine xr_own 0 ⟨_, _, rfl⟩ ?_) | (guard_target = XR _ _ (Expr.Name "data" _ :: _) _ _; refine xr_own 1 ⟨_, _, rfl⟩ ?_) | (guard_target = XR _ _ (Expr.Name "turn" _ :: _) _ _; refine xr_own 2 ⟨_, _, rfl⟩ ?_))
local macro_rules | `(tactic| walk_at "fld") => `(tactic| first | (guard_target = XE _ _ (Expr.Attribute (Expr.Name "n" _) "data" _) _ _; refine xe_fldo 0 T.cl_ByteReader T.na_ByteReader_data rfl rfl ?_) | (guard_target = XE _ _ (Expr.Attribute (Expr.Name "data" _) "data" _) _ _; refine xe_fldo 1 T.cl_ByteReader T.na_ByteReader_data rfl rfl ?_) | (guard_target = XE _ _ (Expr.Attribute (Expr.Name "turn" _) "data" _) _ _; refine xe_fldo 2 T.cl_ByteReader T.na_ByteReader_data rfl rfl ?_))
local macro_rules | `(tactic| walk_at "sx") => `(tactic| first | (guard_target = XS _ _ (Stmt.Assign [Expr.Attribute (Expr.Name "n" _) "data" _] _ _) _ _; refine xs_flds 0 T.cl_ByteReader T.na_ByteReader_data ⟨_, _, rfl⟩ ?_) | (guard_target = XS _ _ (Stmt.Assign [Expr.Attribute (Expr.Name "data" _) "data" _] _ _) _ _; refine xs_flds 1 T.cl_ByteReader T.na_ByteReader_data ⟨_, _, rfl⟩ ?_) | (guard_target = XS _ _ (Stmt.Assign [Expr.Attribute (Expr.Name "turn" _) "data" _] _ _) _ _; refine xs_flds 2 T.cl_ByteReader T.na_ByteReader_data ⟨_, _, rfl⟩ ?_))
local macro_rules | `(tactic| walk_at "sx") => `(tactic| first | (guard_target = XS _ _ (Stmt.AugAssign (Expr.Attribute (Expr.Name "n" _) "data" _) .Add _ _) _ _; refine xs_flda 0 T.cl_ByteReader T.na_ByteReader_data rfl rfl ?_) | (guard_target = XS _ _ (Stmt.AugAssign (Expr.Attribute (Expr.Name "data" _) "data" _) .Add _ _) _ _; refine xs_flda 1 T.cl_ByteReader T.na_ByteReader_data rfl rfl ?_) | (guard_target = XS _ _ (Stmt.AugAssign (Expr.Attribute (Expr.Name "turn" _) "data" _) .Add _ _) _ _; refine xs_flda 2 T.cl_ByteReader T.na_ByteReader_data rfl rfl ?_))
local macro_rules | `(tactic| walk_at "fld") => `(tactic| first | (guard_target = XE _ _ (Expr.Attribute (Expr.Name "n" _) "at" _) _ _; refine xe_fldo 0 T.cl_ByteReader T.na_ByteReader_at rfl rfl ?_) | (guard_target = XE _ _ (Expr.Attribute (Expr.Name "data" _) "at" _) _ _; refine xe_fldo 1 T.cl_ByteReader T.na_ByteReader_at rfl rfl ?_) | (guard_target = XE _ _ (Expr.Attribute (Expr.Name "turn" _) "at" _) _ _; refine xe_fldo 2 T.cl_ByteReader T.na_ByteReader_at rfl rfl ?_))
local macro_rules | `(tactic| walk_at "sx") => `(tactic| first | (guard_target = XS _ _ (Stmt.Assign [Expr.Attribute (Expr.Name "n" _) "at" _] _ _) _ _; refine xs_flds 0 T.cl_ByteReader T.na_ByteReader_at ⟨_, _, rfl⟩ ?_) | (guard_target = XS _ _ (Stmt.Assign [Expr.Attribute (Expr.Name "data" _) "at" _] _ _) _ _; refine xs_flds 1 T.cl_ByteReader T.na_ByteReader_at ⟨_, _, rfl⟩ ?_) | (guard_target = XS _ _ (Stmt.Assign [Expr.Attribute (Expr.Name "turn" _) "at" _] _ _) _ _; refine xs_flds 2 T.cl_ByteReader T.na_ByteReader_at ⟨_, _, rfl⟩ ?_))
local macro_rules | `(tactic| walk_at "sx") => `(tactic| first | (guard_target = XS _ _ (Stmt.AugAssign (Expr.Attribute (Expr.Name "n" _) "at" _) .Add _ _) _ _; refine xs_flda 0 T.cl_ByteReader T.na_ByteReader_at rfl rfl ?_) | (guard_target = XS _ _ (Stmt.AugAssign (Expr.Attribute (Expr.Name "data" _) "at" _) .Add _ _) _ _; refine xs_flda 1 T.cl_ByteReader T.na_ByteReader_at rfl rfl ?_) | (guard_target = XS _ _ (Stmt.AugAssign (Expr.Attribute (Expr.Name "turn" _) "at" _) .Add _ _) _ _; refine xs_flda 2 T.cl_ByteReader T.na_ByteReader_at rfl rfl ?_))
local macro_rules | `(tactic| walk_at "ext") => `(tactic| first | (guard_target = XS _ _ (Stmt.Expr (Expr.Call (Expr.Attribute (Expr.Name "n" _) "extend" _) _ _ _) _) _ _; refine xs_ext 0 ⟨_, _, rfl⟩ ?_) | (guard_target = XS _ _ (Stmt.Expr (Expr.Call (Expr.Attribute (Expr.Name "data" _) "extend" _) _ _ _) _) _ _; refine xs_ext 1 ⟨_, _, rfl⟩ ?_) | (guard_target = XS _ _ (Stmt.Expr (Expr.Call (Expr.Attribute (Expr.Name "turn" _) "extend" _) _ _ _) _) _ _; refine xs_ext 2 ⟨_, _, rfl⟩ ?_))
def RLNum (ds : List D) (Φ : D → Prop) : Prop := ∃ n : Nat, ds = [.int n] ∧ n < 128 ^ 81 ∧ Φ (Il (numB n))
theorem ok_law_number (T : Tx K mg) : FnOk P w K mg base CX0 1 T.f_law_number T.d_law_number ["n"] (SpD K RLNum) := by
  refine fn_okD T.F_law_number sc_law_number (fun ds Φ h => by obtain ⟨_, rfl, _⟩ := h; rfl) (fun cdv A outer s H E F hr ds Φ h => ?_)
  have nd := sc_law_number.nd
  obtain ⟨n, rfl, hl, q⟩ := h
  walk_at "st"
  refine ⟨fun t G => ∃ (l : List Int) (r : Nat), G = [vI r, oIs false l, .no] ∧ l ++ numB r = numB n ∧ r < 128 ^ (81 - t) ∧ l.length ≤ t, ⟨_, ⟨[], n, rfl, rfl, hl, Nat.le_refl _⟩, by walk_at "cov"⟩, fun t d G hd ⟨l, r, eG, e, hr2, hll⟩ => ?_, fun G ⟨l, r, eG, e, hr2, hll⟩ => ?_⟩
  · subst eG
    obtain ⟨ht, rfl⟩ := get_range_int hd
    have ht' : t < 80 := ht
    have e0 : (l.map D.int).length < 1000000 := by rw [List.length_map]; omega
    walk_at "go"
    · have h1 : ¬ r < 128 := by omega
      rw [numB_ge h1] at e
      refine ⟨_, ⟨l ++ [((r % 128 + 128 : Nat) : Int)], r / 128, rfl, by rw [List.append_assoc]; exact e, ?_, by rw [List.length_append]; show _ + 1 ≤ _; omega⟩, ?_⟩
      · refine Nat.div_lt_of_lt_mul ?_
        have e81 : 81 - (t + 1) + 1 = 81 - t := by omega
        rw [Nat.mul_comm, ← Nat.pow_succ]
        show r < 128 ^ (81 - (t + 1) + 1)
        rw [e81]; exact hr2
      · rw [show (r : Int) % 128 + 128 = ((r % 128 + 128 : Nat) : Int) by omega, show (r : Int) / 128 = ((r / 128 : Nat) : Int) by omega]
        walk_at "cova"
    · refine ⟨_, ⟨l, r, rfl, e, ?_, by omega⟩, by walk_at "cov"⟩
      have h1 : r < 128 := by omega
      have h2 : 128 ^ 1 ≤ 128 ^ (81 - (t + 1)) := Nat.pow_le_pow_right (by decide) (by omega)
      omega
  · subst eG
    rw [len_range_int] at hr2 hll
    have h1 : r < 128 := by have : (81 - Int.toNat 80) = 1 := by decide
                            rw [this] at hr2; simpa using hr2
    have hll' : l.length ≤ 80 := hll
    have e0 : (l.map D.int).length < 1000000 := by rw [List.length_map]; omega
    rw [numB_lt h1] at e
    rw [← e, Il, List.map_append] at q
    walk_at "go"
    exact q

end
local macro_rules | `(tactic| walk_at "call") => `(tactic| ((guard_target = XE _ _ (Expr.Call (Expr.Name "_law_number" _) _ _ _) _ _); refine xe_callx (ok_law_number T) hr.in1' T.m_law_number T.F_law_number.kp T.b_law_number ?_))
theorem tri (a b c x : Int) : ∃ m, atI [D.int a, D.int b, D.int c] (x % 3) = some (D.int m) ∧ (m = a ∨ m = b ∨ m = c) := by
  have h0 := Int.emod_nonneg x (by decide : (3 : Int) ≠ 0)
  have h1 := Int.emod_lt_of_pos x (by decide : (0 : Int) < 3)
  generalize x % 3 = y at *
  have : y = 0 ∨ y = 1 ∨ y = 2 := by omega
  rcases this with rfl | rfl | rfl
  · exact ⟨a, rfl, .inl rfl⟩
  · exact ⟨b, rfl, .inr (.inl rfl)⟩
  · exact ⟨c, rfl, .inr (.inr rfl)⟩
/-- pages as the law draws them -/
def PsL (ps : List (Nat × List Nat)) : Prop := ps.length ≤ 6 ∧ ∀ p ∈ ps, p.1 < 20000 ∧ p.2.length ≤ 12 ∧ ∀ n ∈ p.2, n < 1000000
theorem num_small {n : Nat} (h : n < 2097152) : (numB n).length ≤ 3 := numB_pow 2 n (Nat.lt_of_lt_of_le h (by decide))
theorem flat_bd {ls : List (List Int)} {b : Nat} (h : ∀ l ∈ ls, l.length ≤ b) : ls.flatten.length ≤ b * ls.length := by
  induction ls with
  | nil => simp
  | cons a ls ih =>
    rw [List.flatten_cons, List.length_append, List.length_cons, Nat.mul_succ]
    have h1 := h a List.mem_cons_self
    have h2 := ih fun l hl => h l (List.mem_cons_of_mem _ hl)
    omega
theorem nums_small {ns : List Nat} (h1 : ns.length ≤ 12) (h2 : ∀ n ∈ ns, n < 1000000) : (numsB ns).length ≤ 39 := by
  unfold numsB
  rw [List.length_append]
  have a1 := num_small (n := ns.length) (by omega)
  have a2 := flat_bd (ls := ns.map numB) (b := 3) fun l hl => by
    obtain ⟨n, hn, rfl⟩ := List.mem_map.mp hl
    exact num_small (by have := h2 n hn; omega)
  rw [List.length_map] at a2
  omega
theorem pg_small {p : Nat × List Nat} (h : p.1 < 20000 ∧ p.2.length ≤ 12 ∧ ∀ n ∈ p.2, n < 1000000) : (pgB p).length ≤ 42 := by
  unfold pgB
  rw [List.length_append]
  have a1 := num_small (n := p.1) (by omega)
  have a2 := nums_small h.2.1 h.2.2
  omega
theorem body_small {ps : List (Nat × List Nat)} (h : PsL ps) : (bodyB ps).length ≤ 300 := by
  unfold bodyB
  rw [List.length_append]
  have a1 := num_small (n := ps.length) (by have := h.1; omega)
  have a2 := flat_bd (ls := ps.map pgB) (b := 42) fun l hl => by
    obtain ⟨p, hp, rfl⟩ := List.mem_map.mp hl
    exact pg_small (h.2 p hp)
  rw [List.length_map] at a2
  have := h.1
  omega
theorem PsL.ok {ps : List (Nat × List Nat)} (h : PsL ps) : PsOk ps := ⟨by have := h.1; omega, fun p hp => by have := (h.2 p hp).2.1; omega, by have := body_small h; omega⟩
theorem cmpPs {ps : List (Nat × List Nat)} (h : PsL ps) : Cmp 12 (.lst (ps.map pD)) := by
  refine Cmp.lst (n := 11) (by rw [List.length_map]; have := h.1; omega) fun d hd => ?_
  obtain ⟨p, hp, rfl⟩ := List.mem_map.mp hd
  refine Cmp.tup (n := 10) (by show 2 < 1000000; decide) fun d hd => ?_
  simp only [List.mem_cons, List.not_mem_nil, or_false] at hd
  rcases hd with rfl | rfl
  · exact Cmp.int _
  · exact Cmp.ints (by rw [List.length_map]; have := (h.2 p hp).2.1; omega)
def RPgs (ds : List D) (Φ : D → Prop) : Prop := ∃ ns : List Int, ds = [.scr ns] ∧ ∀ ps, PsL ps → Φ (.lst (ps.map pD))
def RBody (ds : List D) (Φ : D → Prop) : Prop := ∃ ps, ds = [.lst (ps.map pD)] ∧ PsL ps ∧ Φ (Il (bodyB ps))
def RAreB (ds : List D) (Φ : D → Prop) : Prop := ∃ l : List Int, ds = [Il l] ∧ (∀ x ∈ l, 0 ≤ x ∧ x < 256) ∧ Φ (.bl true)
section
local macro_rules | `(tactic| walk_at "n") => `(tactic| first | (guard_target = XE _ _ (Expr.Name "script" _) _ _; first | refine xe_n 0 rfl ?_ | refine xe_nf 0 rfl ?_) | (guard_target = XE _ _ (Expr.Name "pages" _) _ _; first | refine xe_n 1 rfl ?_ | refine xe_nf 1 rfl ?_) | (guard_target = XE _ _ (Expr.Name "k" _) _ _; first | refine xe_n 2 rfl ?_ | refine xe_nf 2 rfl ?_) | (guard_target = XE _ _ (Expr.Name "cell" _) _ _; first | refine xe_n 3 rfl ?_ | refine xe_nf 3 rfl ?_) | (guard_target = XE _ _ (Expr.Name "codes" _) _ _; first | refine xe_n 4 rfl ?_ | refine xe_nf 4 rfl ?_) | (guard_target = XE _ _ (Expr.Name "digit" _) _ _; first | refine xe_n 5 rfl ?_ | refine xe_nf 5 rfl ?_))
local macro_rules | `(tactic| walk_at "set") => `(tactic| first | (guard_target = XS _ _ (Stmt.Assign [Expr.Name "script" _] _ _) _ _; refine xs_set 0 nd ?_) | (guard_target = XS _ _ (Stmt.Assign [Expr.Name "pages" _] _ _) _ _; refine xs_set 1 nd ?_) | (guard_target = XS _ _ (Stmt.Assign [Expr.Name "k" _] _ _) _ _; refine xs_set 2 nd ?_) | (guard_target = XS _ _ (Stmt.Assign [Expr.Name "cell" _] _ _) _ _; refine xs_set 3 nd ?_) | (guard_target = XS _ _ (Stmt.Assign [Expr.Name "codes" _] _ _) _ _; refine xs_set 4 nd ?_) | (guard_target = XS _ _ (Stmt.Assign [Expr.Name "digit" _] _ _) _ _; refine xs_set 5 nd ?_))
local macro_rules | `(tactic| walk_at "own") => `(tactic| first | (guard_target = XS _ _ (Stmt.Assign [Expr.Name "script" _] _ _) _ _; refine xs_own 0 nd ?_) | (guard_target = XS _ _ (Stmt.Assign [Expr.Name "pages" _] _ _) _ _; refine xs_own 1 nd ?_) | (guard_target = XS _ _ (Stmt.Assign [Expr.Name "k" _] _ _) _ _; refine xs_own 2 nd ?_) | (guard_target = XS _ _ (Stmt.Assign [Expr.Name "cell" _] _ _) _ _; refine xs_own 3 nd ?_) | (guard_target = XS _ _ (Stmt.Assign [Expr.Name "codes" _] _ _) _ _; refine xs_own 4 nd ?_) | (guard_target = XS _ _ (Stmt.Assign [Expr.Name "digit" _] _ _) _ _; refine xs_own 5 nd ?_))
local macro_rules | `(tactic| walk_at "app") => `(tactic| first | (guard_target = XS _ _ (Stmt.Expr (Expr.Call (Expr.Attribute (Expr.Name "script" _) _ _) _ _ _) _) _ _; refine xs_app 0 ⟨_, _, rfl⟩ ?_) | (guard_target = XS _ _ (Stmt.Expr (Expr.Call (Expr.Attribute (Expr.Name "pages" _) _ _) _ _ _) _) _ _; refine xs_app 1 ⟨_, _, rfl⟩ ?_) | (guard_target = XS _ _ (Stmt.Expr (Expr.Call (Expr.Attribute (Expr.Name "k" _) _ _) _ _ _) _) _ _; refine xs_app 2 ⟨_, _, rfl⟩ ?_) | (guard_target = XS _ _ (Stmt.Expr (Expr.Call (Expr.Attribute (Expr.Name "cell" _) _ _) _ _ _) _) _ _; refine xs_app 3 ⟨_, _, rfl⟩ ?_) | (guard_target = XS _ _ (Stmt.Expr (Expr.Call (Expr.Attribute (Expr.Name "codes" _) _ _) _ _ _) _) _ _; refine xs_app 4 ⟨_, _, rfl⟩ ?_) | (guard_target = XS _ _ (Stmt.Expr (Expr.Call (Expr.Attribute (Expr.Name "digit" _) _ _) _ _ _) _) _ _; refine xs_app 5 ⟨_, _, rfl⟩ ?_))
local macro_rules | `(tactic| walk_at "aug") => `(tactic| first | (guard_target = XS _ _ (Stmt.AugAssign (Expr.Name "script" _) _ _ _) _ _; refine xs_aug 0 nd rfl ?_) | (guard_target = XS _ _ (Stmt.AugAssign (Expr.Name "pages" _) _ _ _) _ _; refine xs_aug 1 nd rfl ?_) | (guard_target = XS _ _ (Stmt.AugAssign (Expr.Name "k" _) _ _ _) _ _; refine xs_aug 2 nd rfl ?_) | (guard_target = XS _ _ (Stmt.AugAssign (Expr.Name "cell" _) _ _ _) _ _; refine xs_aug 3 nd rfl ?_) | (guard_target = XS _ _ (Stmt.AugAssign (Expr.Name "codes" _) _ _ _) _ _; refine xs_aug 4 nd rfl ?_) | (guard_target = XS _ _ (Stmt.AugAssign (Expr.Name "digit" _) _ _ _) _ _; refine xs_aug 5 nd rfl ?_))
local macro_rules | `(tactic| walk_at "gn") => `(tactic| first | (guard_target = XG _ _ (Expr.Name "script" _) _ _ _ _; refine xg_n 0 nd ?_) | (guard_target = XG _ _ (Expr.Name "pages" _) _ _ _ _; refine xg_n 1 nd ?_) | (guard_target = XG _ _ (Expr.Name "k" _) _ _ _ _; refine xg_n 2 nd ?_) | (guard_target = XG _ _ (Expr.Name "cell" _) _ _ _ _; refine xg_n 3 nd ?_) | (guard_target = XG _ _ (Expr.Name "codes" _) _ _ _ _; refine xg_n 4 nd ?_) | (guard_target = XG _ _ (Expr.Name "digit" _) _ _ _ _; refine xg_n 5 nd ?_))
local macro_rules | `(tactic| walk_at "leno") => `(tactic| first | (guard_target = XE _ _ (Expr.Call (Expr.Name "len" _) [Expr.Name "script" _] [] _) _ _; refine xe_leno 0 rfl T.z_len ?_) | (guard_target = XE _ _ (Expr.Call (Expr.Name "len" _) [Expr.Name "pages" _] [] _) _ _; refine xe_leno 1 rfl T.z_len ?_) | (guard_target = XE _ _ (Expr.Call (Expr.Name "len" _) [Expr.Name "k" _] [] _) _ _; refine xe_leno 2 rfl T.z_len ?_) | (guard_target = XE _ _ (Expr.Call (Expr.Name "len" _) [Expr.Name "cell" _] [] _) _ _; refine xe_leno 3 rfl T.z_len ?_) | (guard_target = XE _ _ (Expr.Call (Expr.Name "len" _) [Expr.Name "codes" _] [] _) _ _; refine xe_leno 4 rfl T.z_len ?_) | (guard_target = XE _ _ (Expr.Call (Expr.Name "len" _) [Expr.Name "digit" _] [] _) _ _; refine xe_leno 5 rfl T.z_len ?_))
local macro_rules | `(tactic| walk_at "ixo") => `(tactic| first | (guard_target = XE _ _ (Expr.Subscript (Expr.Name "script" _) _ _) _ _; first | refine xe_ixoL 0 ⟨_, _, rfl⟩ ?_ | refine xe_dget 0 hu ⟨_, .ow rfl, .inl ⟨_, rfl⟩⟩ ?_ | refine xe_dget 0 hu ⟨_, .ow rfl, .inr ⟨_, rfl⟩⟩ ?_ | refine xe_dget 0 hu ⟨_, .va rfl, .inl ⟨_, rfl⟩⟩ ?_ | refine xe_dget 0 hu ⟨_, .va rfl, .inr ⟨_, rfl⟩⟩ ?_) | (guard_target = XE _ _ (Expr.Subscript (Expr.Name "pages" _) _ _) _ _; first | refine xe_ixoL 1 ⟨_, _, rfl⟩ ?_ | refine xe_dget 1 hu ⟨_, .ow rfl, .inl ⟨_, rfl⟩⟩ ?_ | refine xe_dget 1 hu ⟨_, .ow rfl, .inr ⟨_, rfl⟩⟩ ?_ | refine xe_dget 1 hu ⟨_, .va rfl, .inl ⟨_, rfl⟩⟩ ?_ | refine xe_dget 1 hu ⟨_, .va rfl, .inr ⟨_, rfl⟩⟩ ?_) | (guard_target = XE _ _ (Expr.Subscript (Expr.Name "k" _) _ _) _ _; first | refine xe_ixoL 2 ⟨_, _, rfl⟩ ?_ | refine xe_dget 2 hu ⟨_, .ow rfl, .inl ⟨_, rfl⟩⟩ ?_ | refine xe_dget 2 hu ⟨_, .ow rfl, .inr ⟨_, rfl⟩⟩ ?_ | refine xe_dget 2 hu ⟨_, .va rfl, .inl ⟨_, rfl⟩⟩ ?_ | refine xe_dget 2 hu ⟨_, .va rfl, .inr ⟨_, rfl⟩⟩ ?_) | (guard_target = XE _ _ (Expr.Subscript (Expr.Name "cell" _) _ _) _ _; first | refine xe_ixoL 3 ⟨_, _, rfl⟩ ?_ | refine xe_dget 3 hu ⟨_, .ow rfl, .inl ⟨_, rfl⟩⟩ ?_ | refine xe_dget 3 hu ⟨_, .ow rfl, .inr ⟨_, rfl⟩⟩ ?_ | refine xe_dget 3 hu ⟨_, .va rfl, .inl ⟨_, rfl⟩⟩ ?_ | refine xe_dget 3 hu ⟨_, .va rfl, .inr ⟨_, rfl⟩⟩ ?_) | (guard_target = XE _ _ (Expr.Subscript (Expr.Name "codes" _) _ _) _ _; first | refine xe_ixoL 4 ⟨_, _, rfl⟩ ?_ | refine xe_dget 4 hu ⟨_, .ow rfl, .inl ⟨_, rfl⟩⟩ ?_ | refine xe_dget 4 hu ⟨_, .ow rfl, .inr ⟨_, rfl⟩⟩ ?_ | refine xe_dget 4 hu ⟨_, .va rfl, .inl ⟨_, rfl⟩⟩ ?_ | refine xe_dget 4 hu ⟨_, .va rfl, .inr ⟨_, rfl⟩⟩ ?_) | (guard_target = XE _ _ (Expr.Subscript (Expr.Name "digit" _) _ _) _ _; first | refine xe_ixoL 5 ⟨_, _, rfl⟩ ?_ | refine xe_dget 5 hu ⟨_, .ow rfl, .inl ⟨_, rfl⟩⟩ ?_ | refine xe_dget 5 hu ⟨_, .ow rfl, .inr ⟨_, rfl⟩⟩ ?_ | refine xe_dget 5 hu ⟨_, .va rfl, .inl ⟨_, rfl⟩⟩ ?_ | refine xe_dget 5 hu ⟨_, .va rfl, .inr ⟨_, rfl⟩⟩ ?_))
local macro_rules | `(tactic| walk_at "sub") => `(tactic| first | (guard_target = XS _ _ (Stmt.Assign [Expr.Subscript (Expr.Name "script" _) _ _] _ _) _ _; first | refine xs_subL 0 ⟨_, _, rfl⟩ ?_ | refine xs_dput 0 hu ⟨_, _, rfl⟩ ?_) | (guard_target = XS _ _ (Stmt.Assign [Expr.Subscript (Expr.Name "pages" _) _ _] _ _) _ _; first | refine xs_subL 1 ⟨_, _, rfl⟩ ?_ | refine xs_dput 1 hu ⟨_, _, rfl⟩ ?_) | (guard_target = XS _ _ (Stmt.Assign [Expr.Subscript (Expr.Name "k" _) _ _] _ _) _ _; first | refine xs_subL 2 ⟨_, _, rfl⟩ ?_ | refine xs_dput 2 hu ⟨_, _, rfl⟩ ?_) | (guard_target = XS _ _ (Stmt.Assign [Expr.Subscript (Expr.Name "cell" _) _ _] _ _) _ _; first | refine xs_subL 3 ⟨_, _, rfl⟩ ?_ | refine xs_dput 3 hu ⟨_, _, rfl⟩ ?_) | (guard_target = XS _ _ (Stmt.Assign [Expr.Subscript (Expr.Name "codes" _) _ _] _ _) _ _; first | refine xs_subL 4 ⟨_, _, rfl⟩ ?_ | refine xs_dput 4 hu ⟨_, _, rfl⟩ ?_) | (guard_target = XS _ _ (Stmt.Assign [Expr.Subscript (Expr.Name "digit" _) _ _] _ _) _ _; first | refine xs_subL 5 ⟨_, _, rfl⟩ ?_ | refine xs_dput 5 hu ⟨_, _, rfl⟩ ?_))
local macro_rules | `(tactic| walk_at "tino") => `(tactic| first | (guard_target = XT _ _ (Expr.Compare _ _ [Expr.Name "script" _] _) _ _; first | refine xt_inoL 0 ⟨_, _, rfl⟩ ?_ | refine xt_din 0 hu ⟨_, .ow rfl, .inl ⟨_, rfl⟩⟩ ?_ | refine xt_din 0 hu ⟨_, .ow rfl, .inr ⟨_, rfl⟩⟩ ?_ | refine xt_din 0 hu ⟨_, .va rfl, .inl ⟨_, rfl⟩⟩ ?_ | refine xt_din 0 hu ⟨_, .va rfl, .inr ⟨_, rfl⟩⟩ ?_) | (guard_target = XT _ _ (Expr.Compare _ _ [Expr.Name "pages" _] _) _ _; first | refine xt_inoL 1 ⟨_, _, rfl⟩ ?_ | refine xt_din 1 hu ⟨_, .ow rfl, .inl ⟨_, rfl⟩⟩ ?_ | refine xt_din 1 hu ⟨_, .ow rfl, .inr ⟨_, rfl⟩⟩ ?_ | refine xt_din 1 hu ⟨_, .va rfl, .inl ⟨_, rfl⟩⟩ ?_ | refine xt_din 1 hu ⟨_, .va rfl, .inr ⟨_, rfl⟩⟩ ?_) | (guard_target = XT _ _ (Expr.Compare _ _ [Expr.Name "k" _] _) _ _; first | refine xt_inoL 2 ⟨_, _, rfl⟩ ?_ | refine xt_din 2 hu ⟨_, .ow rfl, .inl ⟨_, rfl⟩⟩ ?_ | refine xt_din 2 hu ⟨_, .ow rfl, .inr ⟨_, rfl⟩⟩ ?_ | refine xt_din 2 hu ⟨_, .va rfl, .inl ⟨_, rfl⟩⟩ ?_ | refine xt_din 2 hu ⟨_, .va rfl, .inr ⟨_, rfl⟩⟩ ?_) | (guard_target = XT _ _ (Expr.Compare _ _ [Expr.Name "cell" _] _) _ _; first | refine xt_inoL 3 ⟨_, _, rfl⟩ ?_ | refine xt_din 3 hu ⟨_, .ow rfl, .inl ⟨_, rfl⟩⟩ ?_ | refine xt_din 3 hu ⟨_, .ow rfl, .inr ⟨_, rfl⟩⟩ ?_ | refine xt_din 3 hu ⟨_, .va rfl, .inl ⟨_, rfl⟩⟩ ?_ | refine xt_din 3 hu ⟨_, .va rfl, .inr ⟨_, rfl⟩⟩ ?_) | (guard_target = XT _ _ (Expr.Compare _ _ [Expr.Name "codes" _] _) _ _; first | refine xt_inoL 4 ⟨_, _, rfl⟩ ?_ | refine xt_din 4 hu ⟨_, .ow rfl, .inl ⟨_, rfl⟩⟩ ?_ | refine xt_din 4 hu ⟨_, .ow rfl, .inr ⟨_, rfl⟩⟩ ?_ | refine xt_din 4 hu ⟨_, .va rfl, .inl ⟨_, rfl⟩⟩ ?_ | refine xt_din 4 hu ⟨_, .va rfl, .inr ⟨_, rfl⟩⟩ ?_) | (guard_target = XT _ _ (Expr.Compare _ _ [Expr.Name "digit" _] _) _ _; first | refine xt_inoL 5 ⟨_, _, rfl⟩ ?_ | refine xt_din 5 hu ⟨_, .ow rfl, .inl ⟨_, rfl⟩⟩ ?_ | refine xt_din 5 hu ⟨_, .ow rfl, .inr ⟨_, rfl⟩⟩ ?_ | refine xt_din 5 hu ⟨_, .va rfl, .inl ⟨_, rfl⟩⟩ ?_ | refine xt_din 5 hu ⟨_, .va rfl, .inr ⟨_, rfl⟩⟩ ?_))
local macro_rules | `(tactic| walk_at "tnio") => `(tactic| first | (guard_target = XT _ _ (Expr.Compare _ _ [Expr.Name "script" _] _) _ _; first | refine xt_nioL 0 ⟨_, _, rfl⟩ ?_ | refine xt_dni 0 hu ⟨_, .ow rfl, .inl ⟨_, rfl⟩⟩ ?_ | refine xt_dni 0 hu ⟨_, .ow rfl, .inr ⟨_, rfl⟩⟩ ?_ | refine xt_dni 0 hu ⟨_, .va rfl, .inl ⟨_, rfl⟩⟩ ?_ | refine xt_dni 0 hu ⟨_, .va rfl, .inr ⟨_, rfl⟩⟩ ?_) | (guard_target = XT _ _ (Expr.Compare _ _ [Expr.Name "pages" _] _) _ _; first | refine xt_nioL 1 ⟨_, _, rfl⟩ ?_ | refine xt_dni 1 hu ⟨_, .ow rfl, .inl ⟨_, rfl⟩⟩ ?_ | refine xt_dni 1 hu ⟨_, .ow rfl, .inr ⟨_, rfl⟩⟩ ?_ | refine xt_dni 1 hu ⟨_, .va rfl, .inl ⟨_, rfl⟩⟩ ?_ | refine xt_dni 1 hu ⟨_, .va rfl, .inr ⟨_, rfl⟩⟩ ?_) | (guard_target = XT _ _ (Expr.Compare _ _ [Expr.Name "k" _] _) _ _; first | refine xt_nioL 2 ⟨_, _, rfl⟩ ?_ | refine xt_dni 2 hu ⟨_, .ow rfl, .inl ⟨_, rfl⟩⟩ ?_ | refine xt_dni 2 hu ⟨_, .ow rfl, .inr ⟨_, rfl⟩⟩ ?_ | refine xt_dni 2 hu ⟨_, .va rfl, .inl ⟨_, rfl⟩⟩ ?_ | refine xt_dni 2 hu ⟨_, .va rfl, .inr ⟨_, rfl⟩⟩ ?_) | (guard_target = XT _ _ (Expr.Compare _ _ [Expr.Name "cell" _] _) _ _; first | refine xt_nioL 3 ⟨_, _, rfl⟩ ?_ | refine xt_dni 3 hu ⟨_, .ow rfl, .inl ⟨_, rfl⟩⟩ ?_ | refine xt_dni 3 hu ⟨_, .ow rfl, .inr ⟨_, rfl⟩⟩ ?_ | refine xt_dni 3 hu ⟨_, .va rfl, .inl ⟨_, rfl⟩⟩ ?_ | refine xt_dni 3 hu ⟨_, .va rfl, .inr ⟨_, rfl⟩⟩ ?_) | (guard_target = XT _ _ (Expr.Compare _ _ [Expr.Name "codes" _] _) _ _; first | refine xt_nioL 4 ⟨_, _, rfl⟩ ?_ | refine xt_dni 4 hu ⟨_, .ow rfl, .inl ⟨_, rfl⟩⟩ ?_ | refine xt_dni 4 hu ⟨_, .ow rfl, .inr ⟨_, rfl⟩⟩ ?_ | refine xt_dni 4 hu ⟨_, .va rfl, .inl ⟨_, rfl⟩⟩ ?_ | refine xt_dni 4 hu ⟨_, .va rfl, .inr ⟨_, rfl⟩⟩ ?_) | (guard_target = XT _ _ (Expr.Compare _ _ [Expr.Name "digit" _] _) _ _; first | refine xt_nioL 5 ⟨_, _, rfl⟩ ?_ | refine xt_dni 5 hu ⟨_, .ow rfl, .inl ⟨_, rfl⟩⟩ ?_ | refine xt_dni 5 hu ⟨_, .ow rfl, .inr ⟨_, rfl⟩⟩ ?_ | refine xt_dni 5 hu ⟨_, .va rfl, .inl ⟨_, rfl⟩⟩ ?_ | refine xt_dni 5 hu ⟨_, .va rfl, .inr ⟨_, rfl⟩⟩ ?_))
local macro_rules | `(tactic| walk_at "tru") => `(tactic| first | (guard_target = XT _ _ (Expr.Name "script" _) _ _; refine xt_truO 0 rfl ?_) | (guard_target = XT _ _ (Expr.Name "pages" _) _ _; refine xt_truO 1 rfl ?_) | (guard_target = XT _ _ (Expr.Name "k" _) _ _; refine xt_truO 2 rfl ?_) | (guard_target = XT _ _ (Expr.Name "cell" _) _ _; refine xt_truO 3 rfl ?_) | (guard_target = XT _ _ (Expr.Name "codes" _) _ _; refine xt_truO 4 rfl ?_) | (guard_target = XT _ _ (Expr.Name "digit" _) _ _; refine xt_truO 5 rfl ?_))
local macro_rules | `(tactic| walk_at "ldt") => `(tactic| first | (guard_target = XE _ _ (Expr.Call (Expr.Name "list" _) [Expr.Name "script" _] [] _) _ _; first | refine xe_listOw 0 rfl T.z_list ?_ | refine xe_listDT 0 rfl T.z_list ?_) | (guard_target = XE _ _ (Expr.Call (Expr.Name "list" _) [Expr.Name "pages" _] [] _) _ _; first | refine xe_listOw 1 rfl T.z_list ?_ | refine xe_listDT 1 rfl T.z_list ?_) | (guard_target = XE _ _ (Expr.Call (Expr.Name "list" _) [Expr.Name "k" _] [] _) _ _; first | refine xe_listOw 2 rfl T.z_list ?_ | refine xe_listDT 2 rfl T.z_list ?_) | (guard_target = XE _ _ (Expr.Call (Expr.Name "list" _) [Expr.Name "cell" _] [] _) _ _; first | refine xe_listOw 3 rfl T.z_list ?_ | refine xe_listDT 3 rfl T.z_list ?_) | (guard_target = XE _ _ (Expr.Call (Expr.Name "list" _) [Expr.Name "codes" _] [] _) _ _; first | refine xe_listOw 4 rfl T.z_list ?_ | refine xe_listDT 4 rfl T.z_list ?_) | (guard_target = XE _ _ (Expr.Call (Expr.Name "list" _) [Expr.Name "digit" _] [] _) _ _; first | refine xe_listOw 5 rfl T.z_list ?_ | refine xe_listDT 5 rfl T.z_list ?_))
local macro_rules | `(tactic| walk_at "xr") => `(tactic| first | (guard_target = XR _ _ (Expr.Name "script" _ :: _) _ _; refine xr_own 0 ⟨_, _, rfl⟩ ?_) | (guard_target = XR _ _ (Expr.Name "pages" _ :: _) _ _; refine xr_own 1 ⟨_, _, rfl⟩ ?_) | (guard_target = XR _ _ (Expr.Name "k" _ :: _) _ _; refine xr_own 2 ⟨_, _, rfl⟩ ?_) | (guard_target = XR _ _ (Expr.Name "cell" _ :: _) _ _; refine xr_own 3 ⟨_, _, rfl⟩ ?_) | (guard_target = XR _ _ (Expr.Name "codes" _ :: _) _ _; refine xr_own 4 ⟨_, _, rfl⟩ ?_) | (guard_target = XR _ _ (Expr.Name "digit" _ :: _) _ _; refine xr_own 5 ⟨_, _, rfl⟩ ?_))
local macro_rules | `(tactic| walk_at "fld") => `(tactic| first | (guard_target = XE _ _ (Expr.Attribute (Expr.Name "script" _) "data" _) _ _; refine xe_fldo 0 T.cl_ByteReader T.na_ByteReader_data rfl rfl ?_) | (guard_target = XE _ _ (Expr.Attribute (Expr.Name "pages" _) "data" _) _ _; refine xe_fldo 1 T.cl_ByteReader T.na_ByteReader_data rfl rfl ?_) | (guard_target = XE _ _ (Expr.Attribute (Expr.Name "k" _) "data" _) _ _; refine xe_fldo 2 T.cl_ByteReader T.na_ByteReader_data rfl rfl ?_) | (guard_target = XE _ _ (Expr.Attribute (Expr.Name "cell" _) "data" _) _ _; refine xe_fldo 3 T.cl_ByteReader T.na_ByteReader_data rfl rfl ?_) | (guard_target = XE _ _ (Expr.Attribute (Expr.Name "codes" _) "data" _) _ _; refine xe_fldo 4 T.cl_ByteReader T.na_ByteReader_data rfl rfl ?_) | (guard_target = XE _ _ (Expr.Attribute (Expr.Name "digit" _) "data" _) _ _; refine xe_fldo 5 T.cl_ByteReader T.na_ByteReader_data rfl rfl ?_))
local macro_rules | `(tactic| walk_at "sx") => `(tactic| first | (guard_target = XS _ _ (Stmt.Assign [Expr.Attribute (Expr.Name "script" _) "data" _] _ _) _ _; refine xs_flds 0 T.cl_ByteReader T.na_ByteReader_data ⟨_, _, rfl⟩ ?_) | (guard_target = XS _ _ (Stmt.Assign [Expr.Attribute (Expr.Name "pages" _) "data" _] _ _) _ _; refine xs_flds 1 T.cl_ByteReader T.na_ByteReader_data ⟨_, _, rfl⟩ ?_) | (guard_target = XS _ _ (Stmt.Assign [Expr.Attribute (Expr.Name "k" _) "data" _] _ _) _ _; refine xs_flds 2 T.cl_ByteReader T.na_ByteReader_data ⟨_, _, rfl⟩ ?_) | (guard_target = XS _ _ (Stmt.Assign [Expr.Attribute (Expr.Name "cell" _) "data" _] _ _) _ _; refine xs_flds 3 T.cl_ByteReader T.na_ByteReader_data ⟨_, _, rfl⟩ ?_) | (guard_target = XS _ _ (Stmt.Assign [Expr.Attribute (Expr.Name "codes" _) "data" _] _ _) _ _; refine xs_flds 4 T.cl_ByteReader T.na_ByteReader_data ⟨_, _, rfl⟩ ?_) | (guard_target = XS _ _ (Stmt.Assign [Expr.Attribute (Expr.Name "digit" _) "data" _] _ _) _ _; refine xs_flds 5 T.cl_ByteReader T.na_ByteReader_data ⟨_, _, rfl⟩ ?_))
local macro_rules | `(tactic| walk_at "sx") => `(tactic| first | (guard_target = XS _ _ (Stmt.AugAssign (Expr.Attribute (Expr.Name "script" _) "data" _) .Add _ _) _ _; refine xs_flda 0 T.cl_ByteReader T.na_ByteReader_data rfl rfl ?_) | (guard_target = XS _ _ (Stmt.AugAssign (Expr.Attribute (Expr.Name "pages" _) "data" _) .Add _ _) _ _; refine xs_flda 1 T.cl_ByteReader T.na_ByteReader_data rfl rfl ?_) | (guard_target = XS _ _ (Stmt.AugAssign (Expr.Attribute (Expr.Name "k" _) "data" _) .Add _ _) _ _; refine xs_flda 2 T.cl_ByteReader T.na_ByteReader_data rfl rfl ?_) | (guard_target = XS _ _ (Stmt.AugAssign (Expr.Attribute (Expr.Name "cell" _) "data" _) .Add _ _) _ _; refine xs_flda 3 T.cl_ByteReader T.na_ByteReader_data rfl rfl ?_) | (guard_target = XS _ _ (Stmt.AugAssign (Expr.Attribute (Expr.Name "codes" _) "data" _) .Add _ _) _ _; refine xs_flda 4 T.cl_ByteReader T.na_ByteReader_data rfl rfl ?_) | (guard_target = XS _ _ (Stmt.AugAssign (Expr.Attribute (Expr.Name "digit" _) "data" _) .Add _ _) _ _; refine xs_flda 5 T.cl_ByteReader T.na_ByteReader_data rfl rfl ?_))
local macro_rules | `(tactic| walk_at "fld") => `(tactic| first | (guard_target = XE _ _ (Expr.Attribute (Expr.Name "script" _) "at" _) _ _; refine xe_fldo 0 T.cl_ByteReader T.na_ByteReader_at rfl rfl ?_) | (guard_target = XE _ _ (Expr.Attribute (Expr.Name "pages" _) "at" _) _ _; refine xe_fldo 1 T.cl_ByteReader T.na_ByteReader_at rfl rfl ?_) | (guard_target = XE _ _ (Expr.Attribute (Expr.Name "k" _) "at" _) _ _; refine xe_fldo 2 T.cl_ByteReader T.na_ByteReader_at rfl rfl ?_) | (guard_target = XE _ _ (Expr.Attribute (Expr.Name "cell" _) "at" _) _ _; refine xe_fldo 3 T.cl_ByteReader T.na_ByteReader_at rfl rfl ?_) | (guard_target = XE _ _ (Expr.Attribute (Expr.Name "codes" _) "at" _) _ _; refine xe_fldo 4 T.cl_ByteReader T.na_ByteReader_at rfl rfl ?_) | (guard_target = XE _ _ (Expr.Attribute (Expr.Name "digit" _) "at" _) _ _; refine xe_fldo 5 T.cl_ByteReader T.na_ByteReader_at rfl rfl ?_))
local macro_rules | `(tactic| walk_at "sx") => `(tactic| first | (guard_target = XS _ _ (Stmt.Assign [Expr.Attribute (Expr.Name "script" _) "at" _] _ _) _ _; refine xs_flds 0 T.cl_ByteReader T.na_ByteReader_at ⟨_, _, rfl⟩ ?_) | (guard_target = XS _ _ (Stmt.Assign [Expr.Attribute (Expr.Name "pages" _) "at" _] _ _) _ _; refine xs_flds 1 T.cl_ByteReader T.na_ByteReader_at ⟨_, _, rfl⟩ ?_) | (guard_target = XS _ _ (Stmt.Assign [Expr.Attribute (Expr.Name "k" _) "at" _] _ _) _ _; refine xs_flds 2 T.cl_ByteReader T.na_ByteReader_at ⟨_, _, rfl⟩ ?_) | (guard_target = XS _ _ (Stmt.Assign [Expr.Attribute (Expr.Name "cell" _) "at" _] _ _) _ _; refine xs_flds 3 T.cl_ByteReader T.na_ByteReader_at ⟨_, _, rfl⟩ ?_) | (guard_target = XS _ _ (Stmt.Assign [Expr.Attribute (Expr.Name "codes" _) "at" _] _ _) _ _; refine xs_flds 4 T.cl_ByteReader T.na_ByteReader_at ⟨_, _, rfl⟩ ?_) | (guard_target = XS _ _ (Stmt.Assign [Expr.Attribute (Expr.Name "digit" _) "at" _] _ _) _ _; refine xs_flds 5 T.cl_ByteReader T.na_ByteReader_at ⟨_, _, rfl⟩ ?_))
local macro_rules | `(tactic| walk_at "sx") => `(tactic| first | (guard_target = XS _ _ (Stmt.AugAssign (Expr.Attribute (Expr.Name "script" _) "at" _) .Add _ _) _ _; refine xs_flda 0 T.cl_ByteReader T.na_ByteReader_at rfl rfl ?_) | (guard_target = XS _ _ (Stmt.AugAssign (Expr.Attribute (Expr.Name "pages" _) "at" _) .Add _ _) _ _; refine xs_flda 1 T.cl_ByteReader T.na_ByteReader_at rfl rfl ?_) | (guard_target = XS _ _ (Stmt.AugAssign (Expr.Attribute (Expr.Name "k" _) "at" _) .Add _ _) _ _; refine xs_flda 2 T.cl_ByteReader T.na_ByteReader_at rfl rfl ?_) | (guard_target = XS _ _ (Stmt.AugAssign (Expr.Attribute (Expr.Name "cell" _) "at" _) .Add _ _) _ _; refine xs_flda 3 T.cl_ByteReader T.na_ByteReader_at rfl rfl ?_) | (guard_target = XS _ _ (Stmt.AugAssign (Expr.Attribute (Expr.Name "codes" _) "at" _) .Add _ _) _ _; refine xs_flda 4 T.cl_ByteReader T.na_ByteReader_at rfl rfl ?_) | (guard_target = XS _ _ (Stmt.AugAssign (Expr.Attribute (Expr.Name "digit" _) "at" _) .Add _ _) _ _; refine xs_flda 5 T.cl_ByteReader T.na_ByteReader_at rfl rfl ?_))
local macro_rules | `(tactic| walk_at "ext") => `(tactic| first | (guard_target = XS _ _ (Stmt.Expr (Expr.Call (Expr.Attribute (Expr.Name "script" _) "extend" _) _ _ _) _) _ _; refine xs_ext 0 ⟨_, _, rfl⟩ ?_) | (guard_target = XS _ _ (Stmt.Expr (Expr.Call (Expr.Attribute (Expr.Name "pages" _) "extend" _) _ _ _) _) _ _; refine xs_ext 1 ⟨_, _, rfl⟩ ?_) | (guard_target = XS _ _ (Stmt.Expr (Expr.Call (Expr.Attribute (Expr.Name "k" _) "extend" _) _ _ _) _) _ _; refine xs_ext 2 ⟨_, _, rfl⟩ ?_) | (guard_target = XS _ _ (Stmt.Expr (Expr.Call (Expr.Attribute (Expr.Name "cell" _) "extend" _) _ _ _) _) _ _; refine xs_ext 3 ⟨_, _, rfl⟩ ?_) | (guard_target = XS _ _ (Stmt.Expr (Expr.Call (Expr.Attribute (Expr.Name "codes" _) "extend" _) _ _ _) _) _ _; refine xs_ext 4 ⟨_, _, rfl⟩ ?_) | (guard_target = XS _ _ (Stmt.Expr (Expr.Call (Expr.Attribute (Expr.Name "digit" _) "extend" _) _ _ _) _) _ _; refine xs_ext 5 ⟨_, _, rfl⟩ ?_))
theorem ok_law_pages (T : Tx K mg) : FnOk P w K mg base CX0 3 T.f_law_pages T.d_law_pages ["script"] (SpD K RPgs) := by
  refine fn_okD T.F_law_pages sc_law_pages (fun ds Φ h => by obtain ⟨_, rfl, _⟩ := h; rfl) (fun cdv A outer s H E F hr ds Φ h => ?_)
  have nd := sc_law_pages.nd
  obtain ⟨ns, rfl, q⟩ := h
  walk_at "st"
  intro c0
  have a0 : 0 ≤ c0 % 7 ∧ c0 % 7 < 7 := ⟨Int.emod_nonneg _ (by decide), Int.emod_lt_of_pos _ (by decide)⟩
  walk_at "go"
  refine ⟨fun i G => ∃ ps, G = [.va (.scr ns), .ow false (.lst (ps.map pD)), .no, .no, .no, .no] ∧ ps.length = i ∧ ∀ p ∈ ps, p.1 < 20000 ∧ p.2.length ≤ 12 ∧ ∀ n ∈ p.2, n < 1000000, ⟨_, ⟨[], rfl, rfl, fun _ h => by cases h⟩, by walk_at "cov"⟩, fun i d G hd ⟨ps, eG, hn, hb⟩ => ?_, fun G ⟨ps, eG, hn, hb⟩ => ?_⟩
  · subst eG
    obtain ⟨hi, rfl⟩ := get_range_int hd
    have e0 : (ps.map pD).length < 1000000 := by rw [List.length_map]; omega
    walk_at "go"
    intro c1
    have a1 : 0 ≤ c1 % 13 ∧ c1 % 13 < 13 := ⟨Int.emod_nonneg _ (by decide), Int.emod_lt_of_pos _ (by decide)⟩
    obtain ⟨m, hm, hm'⟩ := tri 5 300 20000 (c1 / 7)
    walk_at "go"
    refine xw_list ?_
    walk_at "go"
    refine ⟨_, _, _, rfl, by omega, by omega, fun l hdg hl => ?_⟩
    walk_at "go"
    refine ⟨fun j G => ∃ cs : List Nat, G = [.va (.scr ns), .ow false (.lst (ps.map pD)), .va (.int (0 + i)), vI c1, oIs false (nI2 cs), .no] ∧ cs.length = j ∧ ∀ n ∈ cs, n < 1000000, ⟨_, ⟨[], rfl, rfl, fun _ h => by cases h⟩, by walk_at "cov"⟩, fun j d G hd ⟨cs, eG, hj, hx⟩ => ?_, fun G ⟨cs, eG, hj, hx⟩ => ?_⟩
    · subst eG
      obtain ⟨y, hy, rfl⟩ := get_map hd
      have hjl : j < l.length := (List.getElem?_eq_some_iff.mp hy).1
      have e1 : ((nI2 cs).map D.int).length < 1000000 := by rw [List.length_map, List.length_map]; omega
      obtain ⟨z, hz, hz'⟩ := tri 1000000 300 128 y
      have hyd := hdg y (List.mem_of_getElem? hy)
      walk_at "go"
      have b0 : 0 ≤ y * y % z ∧ y * y % z < 1000000 := ⟨Int.emod_nonneg _ (by omega), Int.lt_of_lt_of_le (Int.emod_lt_of_pos _ (by omega)) (by omega)⟩
      obtain ⟨n, hn2⟩ : ∃ n : Nat, y * y % z = (n : Int) := ⟨(y * y % z).toNat, by omega⟩
      rw [hn2]
      refine ⟨_, ⟨cs ++ [n], rfl, by rw [List.length_append, hj]; rfl, fun x hx' => ?_⟩, ?_⟩
      · rcases List.mem_append.mp hx' with e | e
        · exact hx x e
        · rw [List.mem_singleton.mp e]; omega
      · rw [show nI2 (cs ++ [n]) = nI2 cs ++ [(n : Int)] by unfold nI2; rw [List.map_append]; rfl]
        walk_at "cova"
    · subst eG
      rw [List.length_map] at hj
      walk_at "go"
      have b0 : 0 ≤ c1 / 13 % m ∧ c1 / 13 % m < 20000 := ⟨Int.emod_nonneg _ (by omega), Int.lt_of_lt_of_le (Int.emod_lt_of_pos _ (by omega)) (by omega)⟩
      obtain ⟨n, hn2⟩ : ∃ n : Nat, c1 / 13 % m = (n : Int) := ⟨(c1 / 13 % m).toNat, by omega⟩
      rw [hn2]
      refine ⟨_, ⟨ps ++ [(n, cs)], rfl, by rw [List.length_append, hn]; rfl, fun p hp => ?_⟩, ?_⟩
      · rcases List.mem_append.mp hp with e | e
        · exact hb p e
        · rw [List.mem_singleton.mp e]; exact ⟨by show n < 20000; omega, by show cs.length ≤ 12; omega, hx⟩
      · rw [List.map_append]
        walk_at "cov"
  · subst eG
    rw [len_range_int] at hn
    walk_at "go"
    exact q ps ⟨by omega, hb⟩
end
local macro_rules | `(tactic| walk_at "call") => `(tactic| ((guard_target = XE _ _ (Expr.Call (Expr.Name "_law_pages" _) _ _ _) _ _); refine xe_callx (ok_law_pages T) hr.in1' T.m_law_pages T.F_law_pages.kp T.b_law_pages ?_))
section
local macro_rules | `(tactic| walk_at "n") => `(tactic| first | (guard_target = XE _ _ (Expr.Name "pages" _) _ _; first | refine xe_n 0 rfl ?_ | refine xe_nf 0 rfl ?_) | (guard_target = XE _ _ (Expr.Name "data" _) _ _; first | refine xe_n 1 rfl ?_ | refine xe_nf 1 rfl ?_) | (guard_target = XE _ _ (Expr.Name "page" _) _ _; first | refine xe_n 2 rfl ?_ | refine xe_nf 2 rfl ?_) | (guard_target = XE _ _ (Expr.Name "code" _) _ _; first | refine xe_n 3 rfl ?_ | refine xe_nf 3 rfl ?_))
local macro_rules | `(tactic| walk_at "set") => `(tactic| first | (guard_target = XS _ _ (Stmt.Assign [Expr.Name "pages" _] _ _) _ _; refine xs_set 0 nd ?_) | (guard_target = XS _ _ (Stmt.Assign [Expr.Name "data" _] _ _) _ _; refine xs_set 1 nd ?_) | (guard_target = XS _ _ (Stmt.Assign [Expr.Name "page" _] _ _) _ _; refine xs_set 2 nd ?_) | (guard_target = XS _ _ (Stmt.Assign [Expr.Name "code" _] _ _) _ _; refine xs_set 3 nd ?_))
local macro_rules | `(tactic| walk_at "own") => `(tactic| first | (guard_target = XS _ _ (Stmt.Assign [Expr.Name "pages" _] _ _) _ _; refine xs_own 0 nd ?_) | (guard_target = XS _ _ (Stmt.Assign [Expr.Name "data" _] _ _) _ _; refine xs_own 1 nd ?_) | (guard_target = XS _ _ (Stmt.Assign [Expr.Name "page" _] _ _) _ _; refine xs_own 2 nd ?_) | (guard_target = XS _ _ (Stmt.Assign [Expr.Name "code" _] _ _) _ _; refine xs_own 3 nd ?_))
local macro_rules | `(tactic| walk_at "app") => `(tactic| first | (guard_target = XS _ _ (Stmt.Expr (Expr.Call (Expr.Attribute (Expr.Name "pages" _) _ _) _ _ _) _) _ _; refine xs_app 0 ⟨_, _, rfl⟩ ?_) | (guard_target = XS _ _ (Stmt.Expr (Expr.Call (Expr.Attribute (Expr.Name "data" _) _ _) _ _ _) _) _ _; refine xs_app 1 ⟨_, _, rfl⟩ ?_) | (guard_target = XS _ _ (Stmt.Expr (Expr.Call (Expr.Attribute (Expr.Name "page" _) _ _) _ _ _) _) _ _; refine xs_app 2 ⟨_, _, rfl⟩ ?_) | (guard_target = XS _ _ (Stmt.Expr (Expr.Call (Expr.Attribute (Expr.Name "code" _) _ _) _ _ _) _) _ _; refine xs_app 3 ⟨_, _, rfl⟩ ?_))
local macro_rules | `(tactic| walk_at "aug") => `(tactic| first | (guard_target = XS _ _ (Stmt.AugAssign (Expr.Name "pages" _) _ _ _) _ _; refine xs_aug 0 nd rfl ?_) | (guard_target = XS _ _ (Stmt.AugAssign (Expr.Name "data" _) _ _ _) _ _; refine xs_aug 1 nd rfl ?_) | (guard_target = XS _ _ (Stmt.AugAssign (Expr.Name "page" _) _ _ _) _ _; refine xs_aug 2 nd rfl ?_) | (guard_target = XS _ _ (Stmt.AugAssign (Expr.Name "code" _) _ _ _) _ _; refine xs_aug 3 nd rfl ?_))
local macro_rules | `(tactic| walk_at "gn") => `(tactic| first | (guard_target = XG _ _ (Expr.Name "pages" _) _ _ _ _; refine xg_n 0 nd ?_) | (guard_target = XG _ _ (Expr.Name "data" _) _ _ _ _; refine xg_n 1 nd ?_) | (guard_target = XG _ _ (Expr.Name "page" _) _ _ _ _; refine xg_n 2 nd ?_) | (guard_target = XG _ _ (Expr.Name "code" _) _ _ _ _; refine xg_n 3 nd ?_))
local macro_rules | `(tactic| walk_at "leno") => `(tactic| first | (guard_target = XE _ _ (Expr.Call (Expr.Name "len" _) [Expr.Name "pages" _] [] _) _ _; refine xe_leno 0 rfl T.z_len ?_) | (guard_target = XE _ _ (Expr.Call (Expr.Name "len" _) [Expr.Name "data" _] [] _) _ _; refine xe_leno 1 rfl T.z_len ?_) | (guard_target = XE _ _ (Expr.Call (Expr.Name "len" _) [Expr.Name "page" _] [] _) _ _; refine xe_leno 2 rfl T.z_len ?_) | (guard_target = XE _ _ (Expr.Call (Expr.Name "len" _) [Expr.Name "code" _] [] _) _ _; refine xe_leno 3 rfl T.z_len ?_))
local macro_rules | `(tactic| walk_at "ixo") => `(tactic| first | (guard_target = XE _ _ (Expr.Subscript (Expr.Name "pages" _) _ _) _ _; first | refine xe_ixoL 0 ⟨_, _, rfl⟩ ?_ | refine xe_dget 0 hu ⟨_, .ow rfl, .inl ⟨_, rfl⟩⟩ ?_ | refine xe_dget 0 hu ⟨_, .ow rfl, .inr ⟨_, rfl⟩⟩ ?_ | refine xe_dget 0 hu ⟨_, .va rfl, .inl ⟨_, rfl⟩⟩ ?_ | refine xe_dget 0 hu ⟨_, .va rfl, .inr ⟨_, rfl⟩⟩ ?_) | (guard_target = XE _ _ (Expr.Subscript (Expr.Name "data" _) _ _) _ _; first | refine xe_ixoL 1 ⟨_, _, rfl⟩ ?_ | refine xe_dget 1 hu ⟨_, .ow rfl, .inl ⟨_, rfl⟩⟩ ?_ | refine xe_dget 1 hu ⟨_, .ow rfl, .inr ⟨_, rfl⟩⟩ ?_ | refine xe_dget 1 hu ⟨_, .va rfl, .inl ⟨_, rfl⟩⟩ ?_ | refine xe_dget 1 hu ⟨_, .va rfl, .inr ⟨_, rfl⟩⟩ ?_) | (guard_target = XE _ _ (Expr.Subscript (Expr.Name "page" _) _ _) _ _; first | refine xe_ixoL 2 ⟨_, _, rfl⟩ ?_ | refine xe_dget 2 hu ⟨_, .ow rfl, .inl ⟨_, rfl⟩⟩ ?_ | refine xe_dget 2 hu ⟨_, .ow rfl, .inr ⟨_, rfl⟩⟩ ?_ | refine xe_dget 2 hu ⟨_, .va rfl, .inl ⟨_, rfl⟩⟩ ?_ | refine xe_dget 2 hu ⟨_, .va rfl, .inr ⟨_, rfl⟩⟩ ?_) | (guard_target = XE _ _ (Expr.Subscript (Expr.Name "code" _) _ _) _ _; first | refine xe_ixoL 3 ⟨_, _, rfl⟩ ?_ | refine xe_dget 3 hu ⟨_, .ow rfl, .inl ⟨_, rfl⟩⟩ ?_ | refine xe_dget 3 hu ⟨_, .ow rfl, .inr ⟨_, rfl⟩⟩ ?_ | refine xe_dget 3 hu ⟨_, .va rfl, .inl ⟨_, rfl⟩⟩ ?_ | refine xe_dget 3 hu ⟨_, .va rfl, .inr ⟨_, rfl⟩⟩ ?_))
local macro_rules | `(tactic| walk_at "sub") => `(tactic| first | (guard_target = XS _ _ (Stmt.Assign [Expr.Subscript (Expr.Name "pages" _) _ _] _ _) _ _; first | refine xs_subL 0 ⟨_, _, rfl⟩ ?_ | refine xs_dput 0 hu ⟨_, _, rfl⟩ ?_) | (guard_target = XS _ _ (Stmt.Assign [Expr.Subscript (Expr.Name "data" _) _ _] _ _) _ _; first | refine xs_subL 1 ⟨_, _, rfl⟩ ?_ | refine xs_dput 1 hu ⟨_, _, rfl⟩ ?_) | (guard_target = XS _ _ (Stmt.Assign [Expr.Subscript (Expr.Name "page" _) _ _] _ _) _ _; first | refine xs_subL 2 ⟨_, _, rfl⟩ ?_ | refine xs_dput 2 hu ⟨_, _, rfl⟩ ?_) | (guard_target = XS _ _ (Stmt.Assign [Expr.Subscript (Expr.Name "code" _) _ _] _ _) _ _; first | refine xs_subL 3 ⟨_, _, rfl⟩ ?_ | refine xs_dput 3 hu ⟨_, _, rfl⟩ ?_))
local macro_rules | `(tactic| walk_at "tino") => `(tactic| first | (guard_target = XT _ _ (Expr.Compare _ _ [Expr.Name "pages" _] _) _ _; first | refine xt_inoL 0 ⟨_, _, rfl⟩ ?_ | refine xt_din 0 hu ⟨_, .ow rfl, .inl ⟨_, rfl⟩⟩ ?_ | refine xt_din 0 hu ⟨_, .ow rfl, .inr ⟨_, rfl⟩⟩ ?_ | refine xt_din 0 hu ⟨_, .va rfl, .inl ⟨_, rfl⟩⟩ ?_ | refine xt_din 0 hu ⟨_, .va rfl, .inr ⟨_, rfl⟩⟩ ?_) | (guard_target = XT _ _ (Expr.Compare _ _ [Expr.Name "data" _] _) _ _; first | refine xt_inoL 1 ⟨_, _, rfl⟩ ?_ | refine xt_din 1 hu ⟨_, .ow rfl, .inl ⟨_, rfl⟩⟩ ?_ | refine xt_din 1 hu ⟨_, .ow rfl, .inr ⟨_, rfl⟩⟩ ?_ | refine xt_din 1 hu ⟨_, .va rfl, .inl ⟨_, rfl⟩⟩ ?_ | refine xt_din 1 hu ⟨_, .va rfl, .inr ⟨_, rfl⟩⟩ ?_) | (guard_target = XT _ _ (Expr.Compare _ _ [Expr.Name "page" _] _) _ _; first | refine xt_inoL 2 ⟨_, _, rfl⟩ ?_ | refine xt_din 2 hu ⟨_, .ow rfl, .inl ⟨_, rfl⟩⟩ ?_ | refine xt_din 2 hu ⟨_, .ow rfl, .inr ⟨_, rfl⟩⟩ ?_ | refine xt_din 2 hu ⟨_, .va rfl, .inl ⟨_, rfl⟩⟩ ?_ | refine xt_din 2 hu ⟨_, .va rfl, .inr ⟨_, rfl⟩⟩ ?_) | (guard_target = XT _ _ (Expr.Compare _ _ [Expr.Name "code" _] _) _ _; first | refine xt_inoL 3 ⟨_, _, rfl⟩ ?_ | refine xt_din 3 hu ⟨_, .ow rfl, .inl ⟨_, rfl⟩⟩ ?_ | refine xt_din 3 hu ⟨_, .ow rfl, .inr ⟨_, rfl⟩⟩ ?_ | refine xt_din 3 hu ⟨_, .va rfl, .inl ⟨_, rfl⟩⟩ ?_ | refine xt_din 3 hu ⟨_, .va rfl, .inr ⟨_, rfl⟩⟩ ?_))
local macro_rules | `(tactic| walk_at "tnio") => `(tactic| first | (guard_target = XT _ _ (Expr.Compare _ _ [Expr.Name "pages" _] _) _ _; first | refine xt_nioL 0 ⟨_, _, rfl⟩ ?_ | refine xt_dni 0 hu ⟨_, .ow rfl, .inl ⟨_, rfl⟩⟩ ?_ | refine xt_dni 0 hu ⟨_, .ow rfl, .inr ⟨_, rfl⟩⟩ ?_ | refine xt_dni 0 hu ⟨_, .va rfl, .inl ⟨_, rfl⟩⟩ ?_ | refine xt_dni 0 hu ⟨_, .va rfl, .inr ⟨_, rfl⟩⟩ ?_) | (guard_target = XT _ _ (Expr.Compare _ _ [Expr.Name "data" _] _) _ _; first | refine xt_nioL 1 ⟨_, _, rfl⟩ ?_ | refine xt_dni 1 hu ⟨_, .ow rfl, .inl ⟨_, rfl⟩⟩ ?_ | refine xt_dni 1 hu ⟨_, .ow rfl, .inr ⟨_, rfl⟩⟩ ?_ | refine xt_dni 1 hu ⟨_, .va rfl, .inl ⟨_, rfl⟩⟩ ?_ | refine xt_dni 1 hu ⟨_, .va rfl, .inr ⟨_, rfl⟩⟩ ?_) | (guard_target = XT _ _ (Expr.Compare _ _ [Expr.Name "page" _] _) _ _; first | refine xt_nioL 2 ⟨_, _, rfl⟩ ?_ | refine xt_dni 2 hu ⟨_, .ow rfl, .inl ⟨_, rfl⟩⟩ ?_ | refine xt_dni 2 hu ⟨_, .ow rfl, .inr ⟨_, rfl⟩⟩ ?_ | refine xt_dni 2 hu ⟨_, .va rfl, .inl ⟨_, rfl⟩⟩ ?_ | refine xt_dni 2 hu ⟨_, .va rfl, .inr ⟨_, rfl⟩⟩ ?_) | (guard_target = XT _ _ (Expr.Compare _ _ [Expr.Name "code" _] _) _ _; first | refine xt_nioL 3 ⟨_, _, rfl⟩ ?_ | refine xt_dni 3 hu ⟨_, .ow rfl, .inl ⟨_, rfl⟩⟩ ?_ | refine xt_dni 3 hu ⟨_, .ow rfl, .inr ⟨_, rfl⟩⟩ ?_ | refine xt_dni 3 hu ⟨_, .va rfl, .inl ⟨_, rfl⟩⟩ ?_ | refine xt_dni 3 hu ⟨_, .va rfl, .inr ⟨_, rfl⟩⟩ ?_))
local macro_rules | `(tactic| walk_at "tru") => `(tactic| first | (guard_target = XT _ _ (Expr.Name "pages" _) _ _; refine xt_truO 0 rfl ?_) | (guard_target = XT _ _ (Expr.Name "data" _) _ _; refine xt_truO 1 rfl ?_) | (guard_target = XT _ _ (Expr.Name "page" _) _ _; refine xt_truO 2 rfl ?_) | (guard_target = XT _ _ (Expr.Name "code" _) _ _; refine xt_truO 3 rfl ?_))
local macro_rules | `(tactic| walk_at "ldt") => `(tactic| first | (guard_target = XE _ _ (Expr.Call (Expr.Name "list" _) [Expr.Name "pages" _] [] _) _ _; first | refine xe_listOw 0 rfl T.z_list ?_ | refine xe_listDT 0 rfl T.z_list ?_) | (guard_target = XE _ _ (Expr.Call (Expr.Name "list" _) [Expr.Name "data" _] [] _) _ _; first | refine xe_listOw 1 rfl T.z_list ?_ | refine xe_listDT 1 rfl T.z_list ?_) | (guard_target = XE _ _ (Expr.Call (Expr.Name "list" _) [Expr.Name "page" _] [] _) _ _; first | refine xe_listOw 2 rfl T.z_list ?_ | refine xe_listDT 2 rfl T.z_list ?_) | (guard_target = XE _ _ (Expr.Call (Expr.Name "list" _) [Expr.Name "code" _] [] _) _ _; first | refine xe_listOw 3 rfl T.z_list ?_ | refine xe_listDT 3 rfl T.z_list ?_))
local macro_rules | `(tactic| walk_at "xr") => `(tactic| first | (guard_target = XR _ _ (Expr.Name "pages" _ :: _) _ _; refine xr_own 0 ⟨_, _, rfl⟩ ?_) | (guard_target = XR _ _ (Expr.Name "data" _ :: _) _ _; refine xr_own 1 ⟨_, _, rfl⟩ ?_) | (guard_target = XR _ _ (Expr.Name "page" _ :: _) _ _; refine xr_own 2 ⟨_, _, rfl⟩ ?_) | (guard_target = XR _ _ (Expr.Name "code" _ :: _) _ _; refine xr_own 3 ⟨_, _, rfl⟩ ?_))
local macro_rules | `(tactic| walk_at "fld") => `(tactic| first | (guard_target = XE _ _ (Expr.Attribute (Expr.Name "pages" _) "data" _) _ _; refine xe_fldo 0 T.cl_ByteReader T.na_ByteReader_data rfl rfl ?_) | (guard_target = XE _ _ (Expr.Attribute (Expr.Name "data" _) "data" _) _ _; refine xe_fldo 1 T.cl_ByteReader T.na_ByteReader_data rfl rfl ?_) | (guard_target = XE _ _ (Expr.Attribute (Expr.Name "page" _) "data" _) _ _; refine xe_fldo 2 T.cl_ByteReader T.na_ByteReader_data rfl rfl ?_) | (guard_target = XE _ _ (Expr.Attribute (Expr.Name "code" _) "data" _) _ _; refine xe_fldo 3 T.cl_ByteReader T.na_ByteReader_data rfl rfl ?_))
local macro_rules | `(tactic| walk_at "sx") => `(tactic| first | (guard_target = XS _ _ (Stmt.Assign [Expr.Attribute (Expr.Name "pages" _) "data" _] _ _) _ _; refine xs_flds 0 T.cl_ByteReader T.na_ByteReader_data ⟨_, _, rfl⟩ ?_) | (guard_target = XS _ _ (Stmt.Assign [Expr.Attribute (Expr.Name "data" _) "data" _] _ _) _ _; refine xs_flds 1 T.cl_ByteReader T.na_ByteReader_data ⟨_, _, rfl⟩ ?_) | (guard_target = XS _ _ (Stmt.Assign [Expr.Attribute (Expr.Name "page" _) "data" _] _ _) _ _; refine xs_flds 2 T.cl_ByteReader T.na_ByteReader_data ⟨_, _, rfl⟩ ?_) | (guard_target = XS _ _ (Stmt.Assign [Expr.Attribute (Expr.Name "code" _) "data" _] _ _) _ _; refine xs_flds 3 T.cl_ByteReader T.na_ByteReader_data ⟨_, _, rfl⟩ ?_))
local macro_rules | `(tactic| walk_at "sx") => `(tactic| first | (guard_target = XS _ _ (Stmt.AugAssign (Expr.Attribute (Expr.Name "pages" _) "data" _) .Add _ _) _ _; refine xs_flda 0 T.cl_ByteReader T.na_ByteReader_data rfl rfl ?_) | (guard_target = XS _ _ (Stmt.AugAssign (Expr.Attribute (Expr.Name "data" _) "data" _) .Add _ _) _ _; refine xs_flda 1 T.cl_ByteReader T.na_ByteReader_data rfl rfl ?_) | (guard_target = XS _ _ (Stmt.AugAssign (Expr.Attribute (Expr.Name "page" _) "data" _) .Add _ _) _ _; refine xs_flda 2 T.cl_ByteReader T.na_ByteReader_data rfl rfl ?_) | (guard_target = XS _ _ (Stmt.AugAssign (Expr.Attribute (Expr.Name "code" _) "data" _) .Add _ _) _ _; refine xs_flda 3 T.cl_ByteReader T.na_ByteReader_data rfl rfl ?_))
local macro_rules | `(tactic| walk_at "fld") => `(tactic| first | (guard_target = XE _ _ (Expr.Attribute (Expr.Name "pages" _) "at" _) _ _; refine xe_fldo 0 T.cl_ByteReader T.na_ByteReader_at rfl rfl ?_) | (guard_target = XE _ _ (Expr.Attribute (Expr.Name "data" _) "at" _) _ _; refine xe_fldo 1 T.cl_ByteReader T.na_ByteReader_at rfl rfl ?_) | (guard_target = XE _ _ (Expr.Attribute (Expr.Name "page" _) "at" _) _ _; refine xe_fldo 2 T.cl_ByteReader T.na_ByteReader_at rfl rfl ?_) | (guard_target = XE _ _ (Expr.Attribute (Expr.Name "code" _) "at" _) _ _; refine xe_fldo 3 T.cl_ByteReader T.na_ByteReader_at rfl rfl ?_))
local macro_rules | `(tactic| walk_at "sx") => `(tactic| first | (guard_target = XS _ _ (Stmt.Assign [Expr.Attribute (Expr.Name "pages" _) "at" _] _ _) _ _; refine xs_flds 0 T.cl_ByteReader T.na_ByteReader_at ⟨_, _, rfl⟩ ?_) | (guard_target = XS _ _ (Stmt.Assign [Expr.Attribute (Expr.Name "data" _) "at" _] _ _) _ _; refine xs_flds 1 T.cl_ByteReader T.na_ByteReader_at ⟨_, _, rfl⟩ ?_) | (guard_target = XS _ _ (Stmt.Assign [Expr.Attribute (Expr.Name "page" _) "at" _] _ _) _ _; refine xs_flds 2 T.cl_ByteReader T.na_ByteReader_at ⟨_, _, rfl⟩ ?_) | (guard_target = XS _ _ (Stmt.Assign [Expr.Attribute (Expr.Name "code" _) "at" _] _ _) _ _; refine xs_flds 3 T.cl_ByteReader T.na_ByteReader_at ⟨_, _, rfl⟩ ?_))
local macro_rules | `(tactic| walk_at "sx") => `(tactic| first | (guard_target = XS _ _ (Stmt.AugAssign (Expr.Attribute (Expr.Name "pages" _) "at" _) .Add _ _) _ _; refine xs_flda 0 T.cl_ByteReader T.na_ByteReader_at rfl rfl ?_) | (guard_target = XS _ _ (Stmt.AugAssign (Expr.Attribute (Expr.Name "data" _) "at" _) .Add _ _) _ _; refine xs_flda 1 T.cl_ByteReader T.na_ByteReader_at rfl rfl ?_) | (guard_target = XS _ _ (Stmt.AugAssign (Expr.Attribute (Expr.Name "page" _) "at" _) .Add _ _) _ _; refine xs_flda 2 T.cl_ByteReader T.na_ByteReader_at rfl rfl ?_) | (guard_target = XS _ _ (Stmt.AugAssign (Expr.Attribute (Expr.Name "code" _) "at" _) .Add _ _) _ _; refine xs_flda 3 T.cl_ByteReader T.na_ByteReader_at rfl rfl ?_))
local macro_rules | `(tactic| walk_at "ext") => `(tactic| first | (guard_target = XS _ _ (Stmt.Expr (Expr.Call (Expr.Attribute (Expr.Name "pages" _) "extend" _) _ _ _) _) _ _; refine xs_ext 0 ⟨_, _, rfl⟩ ?_) | (guard_target = XS _ _ (Stmt.Expr (Expr.Call (Expr.Attribute (Expr.Name "data" _) "extend" _) _ _ _) _) _ _; refine xs_ext 1 ⟨_, _, rfl⟩ ?_) | (guard_target = XS _ _ (Stmt.Expr (Expr.Call (Expr.Attribute (Expr.Name "page" _) "extend" _) _ _ _) _) _ _; refine xs_ext 2 ⟨_, _, rfl⟩ ?_) | (guard_target = XS _ _ (Stmt.Expr (Expr.Call (Expr.Attribute (Expr.Name "code" _) "extend" _) _ _ _) _) _ _; refine xs_ext 3 ⟨_, _, rfl⟩ ?_))
theorem ok_law_body (T : Tx K mg) : FnOk P w K mg base CX0 3 T.f_law_body T.d_law_body ["pages"] (SpD K RBody) := by
  refine fn_okD T.F_law_body sc_law_body (fun ds Φ h => by obtain ⟨_, rfl, _⟩ := h; rfl) (fun cdv A outer s H E F hr ds Φ h => ?_)
  have nd := sc_law_body.nd
  obtain ⟨ps, rfl, hps, q⟩ := h
  have hbs := body_small hps
  have pw : ∀ n : Nat, n < 2097152 → n < 128 ^ 81 := fun n h => Nat.lt_of_lt_of_le h (by decide +kernel)
  walk_at "st"
  refine ⟨ps.length, by rw [List.length_map], pw _ (by have := hps.1; omega), ?_⟩
  walk_at "go"
  refine ⟨fun i G => G = [.no, .va (Il (numB ps.length ++ ((ps.take i).map pgB).flatten)), .no, .no], ⟨_, rfl, ?_⟩, fun i d G hd eG => ?_, fun G eG => ?_⟩
  · rw [List.take_zero, List.map_nil, List.flatten_nil, List.append_nil]; walk_at "cov"
  · subst eG
    obtain ⟨p, hp, rfl⟩ := get_map hd
    have hpp := hps.2 p (List.mem_of_getElem? hp)
    have tk2 : ps.take (i + 1) = ps.take i ++ [p] := by rw [List.take_add_one, hp]; rfl
    have e2 : numB ps.length ++ ((ps.take (i + 1)).map pgB).flatten = numB ps.length ++ ((ps.take i).map pgB).flatten ++ numB p.1 ++ numB p.2.length ++ (p.2.map numB).flatten := by
      rw [tk2, List.map_append, List.flatten_append]; simp [pgB, numsB]
    have e3 : bodyB ps = numB ps.length ++ ((ps.take (i + 1)).map pgB).flatten ++ ((ps.drop (i + 1)).map pgB).flatten := by
      unfold bodyB
      rw [List.append_assoc, ← List.flatten_append, ← List.map_append, List.take_append_drop]
    have hlen : (numB ps.length ++ ((ps.take i).map pgB).flatten).length + (numB p.1).length + (numB p.2.length).length + (p.2.map numB).flatten.length ≤ 300 := by
      have := congrArg List.length e3
      rw [e2, List.length_append, List.length_append, List.length_append, List.length_append] at this
      omega
    generalize numB ps.length ++ ((ps.take i).map pgB).flatten = X0 at *
    unfold pD
    walk_at "go"
    refine ⟨p.1, rfl, pw _ (by omega), ?_⟩
    refine xo_cat (by rw [List.length_map, List.length_map]; omega) ?_
    walk_at "go"
    rw [List.length_map, List.length_map]
    refine ⟨p.2.length, rfl, pw _ (by omega), ?_⟩
    refine xo_cat (by rw [List.length_append, List.length_map, List.length_map, List.length_map]; omega) ?_
    rw [← List.map_append, ← List.map_append]
    walk_at "go"
    refine xw_list ?_
    walk_at "go"
    refine ⟨fun j G => G = [.no, .va (Il (X0 ++ numB p.1 ++ numB p.2.length ++ ((p.2.take j).map numB).flatten)), .no, .no], ⟨_, rfl, ?_⟩, fun j d G hd eG => ?_, fun G eG => ?_⟩
    · rw [List.take_zero, List.map_nil, List.flatten_nil, List.append_nil]; walk_at "cov"
    · subst eG
      obtain ⟨x, hx, rfl⟩ := get_map hd
      obtain ⟨n, hn, rfl⟩ : ∃ n : Nat, p.2[j]? = some n ∧ x = (n : Int) := by
        rw [List.getElem?_map] at hx
        obtain ⟨n, h1, h2⟩ := Option.map_eq_some_iff.mp hx
        exact ⟨n, h1, h2.symm⟩
      have tk3 : p.2.take (j + 1) = p.2.take j ++ [n] := by rw [List.take_add_one, hn]; rfl
      have hns := hpp.2.2 n (List.mem_of_getElem? hn)
      have hpre : ((p.2.take j).map numB).flatten.length ≤ (p.2.map numB).flatten.length := by
        have : (p.2.map numB).flatten = ((p.2.take j).map numB).flatten ++ ((p.2.drop j).map numB).flatten := by rw [← List.flatten_append, ← List.map_append, List.take_append_drop]
        rw [this, List.length_append]; omega
      have hs3 := num_small (n := n) (by omega)
      walk_at "go"
      refine ⟨n, rfl, pw _ (by omega), ?_⟩
      refine xo_cat (by rw [List.length_map, List.length_map, List.length_append, List.length_append, List.length_append]; omega) ?_
      have e5 : X0 ++ numB p.1 ++ numB p.2.length ++ ((p.2.take (j + 1)).map numB).flatten = X0 ++ numB p.1 ++ numB p.2.length ++ ((p.2.take j).map numB).flatten ++ numB n := by
        rw [tk3, List.map_append, List.flatten_append]; simp
      rw [← List.map_append, ← e5]
      walk_at "go"
      walk_at "cov"
    · subst eG
      rw [List.length_map, List.length_map, List.take_length]
      rw [← e2]
      walk_at "go"
      walk_at "cov"
  · subst eG
    rw [List.length_map, List.take_length]
    walk_at "go"
    exact q
end
local macro_rules | `(tactic| walk_at "call") => `(tactic| ((guard_target = XE _ _ (Expr.Call (Expr.Name "_law_body" _) _ _ _) _ _); refine xe_callx (ok_law_body T) hr.in1' T.m_law_body T.F_law_body.kp T.b_law_body ?_))
theorem duo_set_ne {l : List Int} {i : Nat} {x y : Int} (h : l[i]? = some x) (ne : y ≠ x) : l.set i y ≠ l := fun z => by
  have := congrArg (fun l => l[i]?) z
  rw [List.getElem?_set_self (List.getElem?_eq_some_iff.mp h).1, h] at this
  exact ne (Option.some.inj this)
theorem vol_changed {ps : List (Nat × List Nat)} {i : Nat} {x y : Int} (hx : (volB ps)[i]? = some x) (bx : 0 ≤ x ∧ x < 256) (hy : 0 ≤ y ∧ y < 256) (ne : y ≠ x) : SumBad ((volB ps).set i y) := by
  unfold SumBad
  rw [List.length_set]
  have hl : (volB ps).length - 4 = (bodyB ps).length := by unfold volB; rw [List.length_append, sum_len]; omega
  rw [hl]
  unfold volB at hx ⊢
  by_cases h : i < (bodyB ps).length
  · rw [List.set_append_left _ _ h]
    rw [List.getElem?_append_left h] at hx
    rw [show (bodyB ps).length = ((bodyB ps).set i y).length from (List.length_set ..).symm, List.drop_left, List.take_left]
    exact fun z => sumB_set hx bx hy ne z.symm
  · rw [List.set_append_right _ _ (by omega)]
    rw [List.getElem?_append_right (by omega)] at hx
    rw [List.drop_left, List.take_left]
    exact duo_set_ne hx ne
def RRefV (ds : List D) (Φ : D → Prop) : Prop := ∃ data : List Int, ds = [Il data] ∧ data.length ≤ 200000 ∧ SumBad data ∧ Φ (.bl true)
section
local macro_rules | `(tactic| walk_at "n") => `(tactic| first | (guard_target = XE _ _ (Expr.Name "data" _) _ _; first | refine xe_n 0 rfl ?_ | refine xe_nf 0 rfl ?_) | (guard_target = XE _ _ (Expr.Name "e" _) _ _; first | refine xe_n 1 rfl ?_ | refine xe_nf 1 rfl ?_))
local macro_rules | `(tactic| walk_at "set") => `(tactic| first | (guard_target = XS _ _ (Stmt.Assign [Expr.Name "data" _] _ _) _ _; refine xs_set 0 nd ?_) | (guard_target = XS _ _ (Stmt.Assign [Expr.Name "e" _] _ _) _ _; refine xs_set 1 nd ?_))
local macro_rules | `(tactic| walk_at "own") => `(tactic| first | (guard_target = XS _ _ (Stmt.Assign [Expr.Name "data" _] _ _) _ _; refine xs_own 0 nd ?_) | (guard_target = XS _ _ (Stmt.Assign [Expr.Name "e" _] _ _) _ _; refine xs_own 1 nd ?_))
local macro_rules | `(tactic| walk_at "app") => `(tactic| first | (guard_target = XS _ _ (Stmt.Expr (Expr.Call (Expr.Attribute (Expr.Name "data" _) _ _) _ _ _) _) _ _; refine xs_app 0 ⟨_, _, rfl⟩ ?_) | (guard_target = XS _ _ (Stmt.Expr (Expr.Call (Expr.Attribute (Expr.Name "e" _) _ _) _ _ _) _) _ _; refine xs_app 1 ⟨_, _, rfl⟩ ?_))
local macro_rules | `(tactic| walk_at "aug") => `(tactic| first | (guard_target = XS _ _ (Stmt.AugAssign (Expr.Name "data" _) _ _ _) _ _; refine xs_aug 0 nd rfl ?_) | (guard_target = XS _ _ (Stmt.AugAssign (Expr.Name "e" _) _ _ _) _ _; refine xs_aug 1 nd rfl ?_))
local macro_rules | `(tactic| walk_at "gn") => `(tactic| first | (guard_target = XG _ _ (Expr.Name "data" _) _ _ _ _; refine xg_n 0 nd ?_) | (guard_target = XG _ _ (Expr.Name "e" _) _ _ _ _; refine xg_n 1 nd ?_))
local macro_rules | `(tactic| walk_at "leno") => `(tactic| first | (guard_target = XE _ _ (Expr.Call (Expr.Name "len" _) [Expr.Name "data" _] [] _) _ _; refine xe_leno 0 rfl T.z_len ?_) | (guard_target = XE _ _ (Expr.Call (Expr.Name "len" _) [Expr.Name "e" _] [] _) _ _; refine xe_leno 1 rfl T.z_len ?_))
local macro_rules | `(tactic| walk_at "ixo") => `(tactic| first | (guard_target = XE _ _ (Expr.Subscript (Expr.Name "data" _) _ _) _ _; first | refine xe_ixoL 0 ⟨_, _, rfl⟩ ?_ | refine xe_dget 0 hu ⟨_, .ow rfl, .inl ⟨_, rfl⟩⟩ ?_ | refine xe_dget 0 hu ⟨_, .ow rfl, .inr ⟨_, rfl⟩⟩ ?_ | refine xe_dget 0 hu ⟨_, .va rfl, .inl ⟨_, rfl⟩⟩ ?_ | refine xe_dget 0 hu ⟨_, .va rfl, .inr ⟨_, rfl⟩⟩ ?_) | (guard_target = XE _ _ (Expr.Subscript (Expr.Name "e" _) _ _) _ _; first | refine xe_ixoL 1 ⟨_, _, rfl⟩ ?_ | refine xe_dget 1 hu ⟨_, .ow rfl, .inl ⟨_, rfl⟩⟩ ?_ | refine xe_dget 1 hu ⟨_, .ow rfl, .inr ⟨_, rfl⟩⟩ ?_ | refine xe_dget 1 hu ⟨_, .va rfl, .inl ⟨_, rfl⟩⟩ ?_ | refine xe_dget 1 hu ⟨_, .va rfl, .inr ⟨_, rfl⟩⟩ ?_))
local macro_rules | `(tactic| walk_at "sub") => `(tactic| first | (guard_target = XS _ _ (Stmt.Assign [Expr.Subscript (Expr.Name "data" _) _ _] _ _) _ _; first | refine xs_subL 0 ⟨_, _, rfl⟩ ?_ | refine xs_dput 0 hu ⟨_, _, rfl⟩ ?_) | (guard_target = XS _ _ (Stmt.Assign [Expr.Subscript (Expr.Name "e" _) _ _] _ _) _ _; first | refine xs_subL 1 ⟨_, _, rfl⟩ ?_ | refine xs_dput 1 hu ⟨_, _, rfl⟩ ?_))
local macro_rules | `(tactic| walk_at "tino") => `(tactic| first | (guard_target = XT _ _ (Expr.Compare _ _ [Expr.Name "data" _] _) _ _; first | refine xt_inoL 0 ⟨_, _, rfl⟩ ?_ | refine xt_din 0 hu ⟨_, .ow rfl, .inl ⟨_, rfl⟩⟩ ?_ | refine xt_din 0 hu ⟨_, .ow rfl, .inr ⟨_, rfl⟩⟩ ?_ | refine xt_din 0 hu ⟨_, .va rfl, .inl ⟨_, rfl⟩⟩ ?_ | refine xt_din 0 hu ⟨_, .va rfl, .inr ⟨_, rfl⟩⟩ ?_) | (guard_target = XT _ _ (Expr.Compare _ _ [Expr.Name "e" _] _) _ _; first | refine xt_inoL 1 ⟨_, _, rfl⟩ ?_ | refine xt_din 1 hu ⟨_, .ow rfl, .inl ⟨_, rfl⟩⟩ ?_ | refine xt_din 1 hu ⟨_, .ow rfl, .inr ⟨_, rfl⟩⟩ ?_ | refine xt_din 1 hu ⟨_, .va rfl, .inl ⟨_, rfl⟩⟩ ?_ | refine xt_din 1 hu ⟨_, .va rfl, .inr ⟨_, rfl⟩⟩ ?_))
local macro_rules | `(tactic| walk_at "tnio") => `(tactic| first | (guard_target = XT _ _ (Expr.Compare _ _ [Expr.Name "data" _] _) _ _; first | refine xt_nioL 0 ⟨_, _, rfl⟩ ?_ | refine xt_dni 0 hu ⟨_, .ow rfl, .inl ⟨_, rfl⟩⟩ ?_ | refine xt_dni 0 hu ⟨_, .ow rfl, .inr ⟨_, rfl⟩⟩ ?_ | refine xt_dni 0 hu ⟨_, .va rfl, .inl ⟨_, rfl⟩⟩ ?_ | refine xt_dni 0 hu ⟨_, .va rfl, .inr ⟨_, rfl⟩⟩ ?_) | (guard_target = XT _ _ (Expr.Compare _ _ [Expr.Name "e" _] _) _ _; first | refine xt_nioL 1 ⟨_, _, rfl⟩ ?_ | refine xt_dni 1 hu ⟨_, .ow rfl, .inl ⟨_, rfl⟩⟩ ?_ | refine xt_dni 1 hu ⟨_, .ow rfl, .inr ⟨_, rfl⟩⟩ ?_ | refine xt_dni 1 hu ⟨_, .va rfl, .inl ⟨_, rfl⟩⟩ ?_ | refine xt_dni 1 hu ⟨_, .va rfl, .inr ⟨_, rfl⟩⟩ ?_))
local macro_rules | `(tactic| walk_at "tru") => `(tactic| first | (guard_target = XT _ _ (Expr.Name "data" _) _ _; refine xt_truO 0 rfl ?_) | (guard_target = XT _ _ (Expr.Name "e" _) _ _; refine xt_truO 1 rfl ?_))
local macro_rules | `(tactic| walk_at "ldt") => `(tactic| first | (guard_target = XE _ _ (Expr.Call (Expr.Name "list" _) [Expr.Name "data" _] [] _) _ _; first | refine xe_listOw 0 rfl T.z_list ?_ | refine xe_listDT 0 rfl T.z_list ?_) | (guard_target = XE _ _ (Expr.Call (Expr.Name "list" _) [Expr.Name "e" _] [] _) _ _; first | refine xe_listOw 1 rfl T.z_list ?_ | refine xe_listDT 1 rfl T.z_list ?_))
local macro_rules | `(tactic| walk_at "xr") => `(tactic| first | (guard_target = XR _ _ (Expr.Name "data" _ :: _) _ _; refine xr_own 0 ⟨_, _, rfl⟩ ?_) | (guard_target = XR _ _ (Expr.Name "e" _ :: _) _ _; refine xr_own 1 ⟨_, _, rfl⟩ ?_))
local macro_rules | `(tactic| walk_at "fld") => `(tactic| first | (guard_target = XE _ _ (Expr.Attribute (Expr.Name "data" _) "data" _) _ _; refine xe_fldo 0 T.cl_ByteReader T.na_ByteReader_data rfl rfl ?_) | (guard_target = XE _ _ (Expr.Attribute (Expr.Name "e" _) "data" _) _ _; refine xe_fldo 1 T.cl_ByteReader T.na_ByteReader_data rfl rfl ?_))
local macro_rules | `(tactic| walk_at "sx") => `(tactic| first | (guard_target = XS _ _ (Stmt.Assign [Expr.Attribute (Expr.Name "data" _) "data" _] _ _) _ _; refine xs_flds 0 T.cl_ByteReader T.na_ByteReader_data ⟨_, _, rfl⟩ ?_) | (guard_target = XS _ _ (Stmt.Assign [Expr.Attribute (Expr.Name "e" _) "data" _] _ _) _ _; refine xs_flds 1 T.cl_ByteReader T.na_ByteReader_data ⟨_, _, rfl⟩ ?_))
local macro_rules | `(tactic| walk_at "sx") => `(tactic| first | (guard_target = XS _ _ (Stmt.AugAssign (Expr.Attribute (Expr.Name "data" _) "data" _) .Add _ _) _ _; refine xs_flda 0 T.cl_ByteReader T.na_ByteReader_data rfl rfl ?_) | (guard_target = XS _ _ (Stmt.AugAssign (Expr.Attribute (Expr.Name "e" _) "data" _) .Add _ _) _ _; refine xs_flda 1 T.cl_ByteReader T.na_ByteReader_data rfl rfl ?_))
local macro_rules | `(tactic| walk_at "fld") => `(tactic| first | (guard_target = XE _ _ (Expr.Attribute (Expr.Name "data" _) "at" _) _ _; refine xe_fldo 0 T.cl_ByteReader T.na_ByteReader_at rfl rfl ?_) | (guard_target = XE _ _ (Expr.Attribute (Expr.Name "e" _) "at" _) _ _; refine xe_fldo 1 T.cl_ByteReader T.na_ByteReader_at rfl rfl ?_))
local macro_rules | `(tactic| walk_at "sx") => `(tactic| first | (guard_target = XS _ _ (Stmt.Assign [Expr.Attribute (Expr.Name "data" _) "at" _] _ _) _ _; refine xs_flds 0 T.cl_ByteReader T.na_ByteReader_at ⟨_, _, rfl⟩ ?_) | (guard_target = XS _ _ (Stmt.Assign [Expr.Attribute (Expr.Name "e" _) "at" _] _ _) _ _; refine xs_flds 1 T.cl_ByteReader T.na_ByteReader_at ⟨_, _, rfl⟩ ?_))
local macro_rules | `(tactic| walk_at "sx") => `(tactic| first | (guard_target = XS _ _ (Stmt.AugAssign (Expr.Attribute (Expr.Name "data" _) "at" _) .Add _ _) _ _; refine xs_flda 0 T.cl_ByteReader T.na_ByteReader_at rfl rfl ?_) | (guard_target = XS _ _ (Stmt.AugAssign (Expr.Attribute (Expr.Name "e" _) "at" _) .Add _ _) _ _; refine xs_flda 1 T.cl_ByteReader T.na_ByteReader_at rfl rfl ?_))
local macro_rules | `(tactic| walk_at "ext") => `(tactic| first | (guard_target = XS _ _ (Stmt.Expr (Expr.Call (Expr.Attribute (Expr.Name "data" _) "extend" _) _ _ _) _) _ _; refine xs_ext 0 ⟨_, _, rfl⟩ ?_) | (guard_target = XS _ _ (Stmt.Expr (Expr.Call (Expr.Attribute (Expr.Name "e" _) "extend" _) _ _ _) _) _ _; refine xs_ext 1 ⟨_, _, rfl⟩ ?_))
theorem ok_law_is_refused (T : Tx K mg) : FnOk P w K mg base CX0 14 T.f_law_is_refused T.d_law_is_refused ["data"] (SpD K RRefV) := by
  refine fn_okD T.F_law_is_refused sc_law_is_refused (fun ds Φ h => by obtain ⟨_, rfl, _⟩ := h; rfl) (fun cdv A outer s H E F hr ds Φ h => ?_)
  have nd := sc_law_is_refused.nd
  obtain ⟨data, rfl, hl, hb, q⟩ := h
  apply xssn; (focus walk_at "nrm0")
  refine xs_try_as 1 nd ⟨rfl, by decide, .inl T.g_CorpusError⟩ tk_none (fun F1 pn xe hpo tk => ?_)
  walk_at "go"
  refine ⟨data, rfl, hl, .inl ⟨hb, ?_⟩⟩
  refine ⟨true, PySem.W.exm_ref T.sb_CorpusError T.hd_CorpusError T.ty_CorpusError T.sub_InvalidBytes_CorpusError, fun _ F2 a2 oe d pn2 hz hfl er => ?_, fun z => by cases z⟩
  refine xss <| xs_ret <| xe_and <| xe_isErr 1 T.er_InvalidBytes hz hfl er rfl T.z_isinstance T.g_InvalidBytes T.kit_InvalidBytes_InvalidBytes ⟨true, rfl, fun _ => ?_, fun z => by cases z⟩
  refine xe_one <| xe_cmp <| xe_errf 1 T.xf_InvalidBytes T.no_InvalidBytes_at hz hfl er rfl rfl ?_
  walk_at "go"
  rw [decide_eq_true (show ((0:Nat):Int) = 0 from rfl)]
  exact q
end
local macro_rules | `(tactic| walk_at "call") => `(tactic| ((guard_target = XE _ _ (Expr.Call (Expr.Name "_law_is_refused" _) _ _ _) _ _); refine xe_callx (ok_law_is_refused T) hr.in1' T.m_law_is_refused T.F_law_is_refused.kp T.b_law_is_refused ?_))
section
local macro_rules | `(tactic| walk_at "n") => `(tactic| first | (guard_target = XE _ _ (Expr.Name "script" _) _ _; first | refine xe_n 0 rfl ?_ | refine xe_nf 0 rfl ?_) | (guard_target = XE _ _ (Expr.Name "pages" _) _ _; first | refine xe_n 1 rfl ?_ | refine xe_nf 1 rfl ?_) | (guard_target = XE _ _ (Expr.Name "body" _) _ _; first | refine xe_n 2 rfl ?_ | refine xe_nf 2 rfl ?_) | (guard_target = XE _ _ (Expr.Name "data" _) _ _; first | refine xe_n 3 rfl ?_ | refine xe_nf 3 rfl ?_) | (guard_target = XE _ _ (Expr.Name "at" _) _ _; first | refine xe_n 4 rfl ?_ | refine xe_nf 4 rfl ?_) | (guard_target = XE _ _ (Expr.Name "changed" _) _ _; first | refine xe_n 5 rfl ?_ | refine xe_nf 5 rfl ?_) | (guard_target = XE _ _ (Expr.Name "short" _) _ _; first | refine xe_n 6 rfl ?_ | refine xe_nf 6 rfl ?_) | (guard_target = XE _ _ (Expr.Name "long" _) _ _; first | refine xe_n 7 rfl ?_ | refine xe_nf 7 rfl ?_))
local macro_rules | `(tactic| walk_at "set") => `(tactic| first | (guard_target = XS _ _ (Stmt.Assign [Expr.Name "script" _] _ _) _ _; refine xs_set 0 nd ?_) | (guard_target = XS _ _ (Stmt.Assign [Expr.Name "pages" _] _ _) _ _; refine xs_set 1 nd ?_) | (guard_target = XS _ _ (Stmt.Assign [Expr.Name "body" _] _ _) _ _; refine xs_set 2 nd ?_) | (guard_target = XS _ _ (Stmt.Assign [Expr.Name "data" _] _ _) _ _; refine xs_set 3 nd ?_) | (guard_target = XS _ _ (Stmt.Assign [Expr.Name "at" _] _ _) _ _; refine xs_set 4 nd ?_) | (guard_target = XS _ _ (Stmt.Assign [Expr.Name "changed" _] _ _) _ _; refine xs_set 5 nd ?_) | (guard_target = XS _ _ (Stmt.Assign [Expr.Name "short" _] _ _) _ _; refine xs_set 6 nd ?_) | (guard_target = XS _ _ (Stmt.Assign [Expr.Name "long" _] _ _) _ _; refine xs_set 7 nd ?_))
local macro_rules | `(tactic| walk_at "own") => `(tactic| first | (guard_target = XS _ _ (Stmt.Assign [Expr.Name "script" _] _ _) _ _; refine xs_own 0 nd ?_) | (guard_target = XS _ _ (Stmt.Assign [Expr.Name "pages" _] _ _) _ _; refine xs_own 1 nd ?_) | (guard_target = XS _ _ (Stmt.Assign [Expr.Name "body" _] _ _) _ _; refine xs_own 2 nd ?_) | (guard_target = XS _ _ (Stmt.Assign [Expr.Name "data" _] _ _) _ _; refine xs_own 3 nd ?_) | (guard_target = XS _ _ (Stmt.Assign [Expr.Name "at" _] _ _) _ _; refine xs_own 4 nd ?_) | (guard_target = XS _ _ (Stmt.Assign [Expr.Name "changed" _] _ _) _ _; refine xs_own 5 nd ?_) | (guard_target = XS _ _ (Stmt.Assign [Expr.Name "short" _] _ _) _ _; refine xs_own 6 nd ?_) | (guard_target = XS _ _ (Stmt.Assign [Expr.Name "long" _] _ _) _ _; refine xs_own 7 nd ?_))
local macro_rules | `(tactic| walk_at "app") => `(tactic| first | (guard_target = XS _ _ (Stmt.Expr (Expr.Call (Expr.Attribute (Expr.Name "script" _) _ _) _ _ _) _) _ _; refine xs_app 0 ⟨_, _, rfl⟩ ?_) | (guard_target = XS _ _ (Stmt.Expr (Expr.Call (Expr.Attribute (Expr.Name "pages" _) _ _) _ _ _) _) _ _; refine xs_app 1 ⟨_, _, rfl⟩ ?_) | (guard_target = XS _ _ (Stmt.Expr (Expr.Call (Expr.Attribute (Expr.Name "body" _) _ _) _ _ _) _) _ _; refine xs_app 2 ⟨_, _, rfl⟩ ?_) | (guard_target = XS _ _ (Stmt.Expr (Expr.Call (Expr.Attribute (Expr.Name "data" _) _ _) _ _ _) _) _ _; refine xs_app 3 ⟨_, _, rfl⟩ ?_) | (guard_target = XS _ _ (Stmt.Expr (Expr.Call (Expr.Attribute (Expr.Name "at" _) _ _) _ _ _) _) _ _; refine xs_app 4 ⟨_, _, rfl⟩ ?_) | (guard_target = XS _ _ (Stmt.Expr (Expr.Call (Expr.Attribute (Expr.Name "changed" _) _ _) _ _ _) _) _ _; refine xs_app 5 ⟨_, _, rfl⟩ ?_) | (guard_target = XS _ _ (Stmt.Expr (Expr.Call (Expr.Attribute (Expr.Name "short" _) _ _) _ _ _) _) _ _; refine xs_app 6 ⟨_, _, rfl⟩ ?_) | (guard_target = XS _ _ (Stmt.Expr (Expr.Call (Expr.Attribute (Expr.Name "long" _) _ _) _ _ _) _) _ _; refine xs_app 7 ⟨_, _, rfl⟩ ?_))
local macro_rules | `(tactic| walk_at "aug") => `(tactic| first | (guard_target = XS _ _ (Stmt.AugAssign (Expr.Name "script" _) _ _ _) _ _; refine xs_aug 0 nd rfl ?_) | (guard_target = XS _ _ (Stmt.AugAssign (Expr.Name "pages" _) _ _ _) _ _; refine xs_aug 1 nd rfl ?_) | (guard_target = XS _ _ (Stmt.AugAssign (Expr.Name "body" _) _ _ _) _ _; refine xs_aug 2 nd rfl ?_) | (guard_target = XS _ _ (Stmt.AugAssign (Expr.Name "data" _) _ _ _) _ _; refine xs_aug 3 nd rfl ?_) | (guard_target = XS _ _ (Stmt.AugAssign (Expr.Name "at" _) _ _ _) _ _; refine xs_aug 4 nd rfl ?_) | (guard_target = XS _ _ (Stmt.AugAssign (Expr.Name "changed" _) _ _ _) _ _; refine xs_aug 5 nd rfl ?_) | (guard_target = XS _ _ (Stmt.AugAssign (Expr.Name "short" _) _ _ _) _ _; refine xs_aug 6 nd rfl ?_) | (guard_target = XS _ _ (Stmt.AugAssign (Expr.Name "long" _) _ _ _) _ _; refine xs_aug 7 nd rfl ?_))
local macro_rules | `(tactic| walk_at "gn") => `(tactic| first | (guard_target = XG _ _ (Expr.Name "script" _) _ _ _ _; refine xg_n 0 nd ?_) | (guard_target = XG _ _ (Expr.Name "pages" _) _ _ _ _; refine xg_n 1 nd ?_) | (guard_target = XG _ _ (Expr.Name "body" _) _ _ _ _; refine xg_n 2 nd ?_) | (guard_target = XG _ _ (Expr.Name "data" _) _ _ _ _; refine xg_n 3 nd ?_) | (guard_target = XG _ _ (Expr.Name "at" _) _ _ _ _; refine xg_n 4 nd ?_) | (guard_target = XG _ _ (Expr.Name "changed" _) _ _ _ _; refine xg_n 5 nd ?_) | (guard_target = XG _ _ (Expr.Name "short" _) _ _ _ _; refine xg_n 6 nd ?_) | (guard_target = XG _ _ (Expr.Name "long" _) _ _ _ _; refine xg_n 7 nd ?_))
local macro_rules | `(tactic| walk_at "leno") => `(tactic| first | (guard_target = XE _ _ (Expr.Call (Expr.Name "len" _) [Expr.Name "script" _] [] _) _ _; refine xe_leno 0 rfl T.z_len ?_) | (guard_target = XE _ _ (Expr.Call (Expr.Name "len" _) [Expr.Name "pages" _] [] _) _ _; refine xe_leno 1 rfl T.z_len ?_) | (guard_target = XE _ _ (Expr.Call (Expr.Name "len" _) [Expr.Name "body" _] [] _) _ _; refine xe_leno 2 rfl T.z_len ?_) | (guard_target = XE _ _ (Expr.Call (Expr.Name "len" _) [Expr.Name "data" _] [] _) _ _; refine xe_leno 3 rfl T.z_len ?_) | (guard_target = XE _ _ (Expr.Call (Expr.Name "len" _) [Expr.Name "at" _] [] _) _ _; refine xe_leno 4 rfl T.z_len ?_) | (guard_target = XE _ _ (Expr.Call (Expr.Name "len" _) [Expr.Name "changed" _] [] _) _ _; refine xe_leno 5 rfl T.z_len ?_) | (guard_target = XE _ _ (Expr.Call (Expr.Name "len" _) [Expr.Name "short" _] [] _) _ _; refine xe_leno 6 rfl T.z_len ?_) | (guard_target = XE _ _ (Expr.Call (Expr.Name "len" _) [Expr.Name "long" _] [] _) _ _; refine xe_leno 7 rfl T.z_len ?_))
local macro_rules | `(tactic| walk_at "ixo") => `(tactic| first | (guard_target = XE _ _ (Expr.Subscript (Expr.Name "script" _) _ _) _ _; first | refine xe_ixoL 0 ⟨_, _, rfl⟩ ?_ | refine xe_dget 0 hu ⟨_, .ow rfl, .inl ⟨_, rfl⟩⟩ ?_ | refine xe_dget 0 hu ⟨_, .ow rfl, .inr ⟨_, rfl⟩⟩ ?_ | refine xe_dget 0 hu ⟨_, .va rfl, .inl ⟨_, rfl⟩⟩ ?_ | refine xe_dget 0 hu ⟨_, .va rfl, .inr ⟨_, rfl⟩⟩ ?_) | (guard_target = XE _ _ (Expr.Subscript (Expr.Name "pages" _) _ _) _ _; first | refine xe_ixoL 1 ⟨_, _, rfl⟩ ?_ | refine xe_dget 1 hu ⟨_, .ow rfl, .inl ⟨_, rfl⟩⟩ ?_ | refine xe_dget 1 hu ⟨_, .ow rfl, .inr ⟨_, rfl⟩⟩ ?_ | refine xe_dget 1 hu ⟨_, .va rfl, .inl ⟨_, rfl⟩⟩ ?_ | refine xe_dget 1 hu ⟨_, .va rfl, .inr ⟨_, rfl⟩⟩ ?_) | (guard_target = XE _ _ (Expr.Subscript (Expr.Name "body" _) _ _) _ _; first | refine xe_ixoL 2 ⟨_, _, rfl⟩ ?_ | refine xe_dget 2 hu ⟨_, .ow rfl, .inl ⟨_, rfl⟩⟩ ?_ | refine xe_dget 2 hu ⟨_, .ow rfl, .inr ⟨_, rfl⟩⟩ ?_ | refine xe_dget 2 hu ⟨_, .va rfl, .inl ⟨_, rfl⟩⟩ ?_ | refine xe_dget 2 hu ⟨_, .va rfl, .inr ⟨_, rfl⟩⟩ ?_) | (guard_target = XE _ _ (Expr.Subscript (Expr.Name "data" _) _ _) _ _; first | refine xe_ixoL 3 ⟨_, _, rfl⟩ ?_ | refine xe_dget 3 hu ⟨_, .ow rfl, .inl ⟨_, rfl⟩⟩ ?_ | refine xe_dget 3 hu ⟨_, .ow rfl, .inr ⟨_, rfl⟩⟩ ?_ | refine xe_dget 3 hu ⟨_, .va rfl, .inl ⟨_, rfl⟩⟩ ?_ | refine xe_dget 3 hu ⟨_, .va rfl, .inr ⟨_, rfl⟩⟩ ?_) | (guard_target = XE _ _ (Expr.Subscript (Expr.Name "at" _) _ _) _ _; first | refine xe_ixoL 4 ⟨_, _, rfl⟩ ?_ | refine xe_dget 4 hu ⟨_, .ow rfl, .inl ⟨_, rfl⟩⟩ ?_ | refine xe_dget 4 hu ⟨_, .ow rfl, .inr ⟨_, rfl⟩⟩ ?_ | refine xe_dget 4 hu ⟨_, .va rfl, .inl ⟨_, rfl⟩⟩ ?_ | refine xe_dget 4 hu ⟨_, .va rfl, .inr ⟨_, rfl⟩⟩ ?_) | (guard_target = XE _ _ (Expr.Subscript (Expr.Name "changed" _) _ _) _ _; first | refine xe_ixoL 5 ⟨_, _, rfl⟩ ?_ | refine xe_dget 5 hu ⟨_, .ow rfl, .inl ⟨_, rfl⟩⟩ ?_ | refine xe_dget 5 hu ⟨_, .ow rfl, .inr ⟨_, rfl⟩⟩ ?_ | refine xe_dget 5 hu ⟨_, .va rfl, .inl ⟨_, rfl⟩⟩ ?_ | refine xe_dget 5 hu ⟨_, .va rfl, .inr ⟨_, rfl⟩⟩ ?_) | (guard_target = XE _ _ (Expr.Subscript (Expr.Name "short" _) _ _) _ _; first | refine xe_ixoL 6 ⟨_, _, rfl⟩ ?_ | refine xe_dget 6 hu ⟨_, .ow rfl, .inl ⟨_, rfl⟩⟩ ?_ | refine xe_dget 6 hu ⟨_, .ow rfl, .inr ⟨_, rfl⟩⟩ ?_ | refine xe_dget 6 hu ⟨_, .va rfl, .inl ⟨_, rfl⟩⟩ ?_ | refine xe_dget 6 hu ⟨_, .va rfl, .inr ⟨_, rfl⟩⟩ ?_) | (guard_target = XE _ _ (Expr.Subscript (Expr.Name "long" _) _ _) _ _; first | refine xe_ixoL 7 ⟨_, _, rfl⟩ ?_ | refine xe_dget 7 hu ⟨_, .ow rfl, .inl ⟨_, rfl⟩⟩ ?_ | refine xe_dget 7 hu ⟨_, .ow rfl, .inr ⟨_, rfl⟩⟩ ?_ | refine xe_dget 7 hu ⟨_, .va rfl, .inl ⟨_, rfl⟩⟩ ?_ | refine xe_dget 7 hu ⟨_, .va rfl, .inr ⟨_, rfl⟩⟩ ?_))
local macro_rules | `(tactic| walk_at "sub") => `(tactic| first | (guard_target = XS _ _ (Stmt.Assign [Expr.Subscript (Expr.Name "script" _) _ _] _ _) _ _; first | refine xs_subL 0 ⟨_, _, rfl⟩ ?_ | refine xs_dput 0 hu ⟨_, _, rfl⟩ ?_) | (guard_target = XS _ _ (Stmt.Assign [Expr.Subscript (Expr.Name "pages" _) _ _] _ _) _ _; first | refine xs_subL 1 ⟨_, _, rfl⟩ ?_ | refine xs_dput 1 hu ⟨_, _, rfl⟩ ?_) | (guard_target = XS _ _ (Stmt.Assign [Expr.Subscript (Expr.Name "body" _) _ _] _ _) _ _; first | refine xs_subL 2 ⟨_, _, rfl⟩ ?_ | refine xs_dput 2 hu ⟨_, _, rfl⟩ ?_) | (guard_target = XS _ _ (Stmt.Assign [Expr.Subscript (Expr.Name "data" _) _ _] _ _) _ _; first | refine xs_subL 3 ⟨_, _, rfl⟩ ?_ | refine xs_dput 3 hu ⟨_, _, rfl⟩ ?_) | (guard_target = XS _ _ (Stmt.Assign [Expr.Subscript (Expr.Name "at" _) _ _] _ _) _ _; first | refine xs_subL 4 ⟨_, _, rfl⟩ ?_ | refine xs_dput 4 hu ⟨_, _, rfl⟩ ?_) | (guard_target = XS _ _ (Stmt.Assign [Expr.Subscript (Expr.Name "changed" _) _ _] _ _) _ _; first | refine xs_subL 5 ⟨_, _, rfl⟩ ?_ | refine xs_dput 5 hu ⟨_, _, rfl⟩ ?_) | (guard_target = XS _ _ (Stmt.Assign [Expr.Subscript (Expr.Name "short" _) _ _] _ _) _ _; first | refine xs_subL 6 ⟨_, _, rfl⟩ ?_ | refine xs_dput 6 hu ⟨_, _, rfl⟩ ?_) | (guard_target = XS _ _ (Stmt.Assign [Expr.Subscript (Expr.Name "long" _) _ _] _ _) _ _; first | refine xs_subL 7 ⟨_, _, rfl⟩ ?_ | refine xs_dput 7 hu ⟨_, _, rfl⟩ ?_))
local macro_rules | `(tactic| walk_at "tino") => `(tactic| first | (guard_target = XT _ _ (Expr.Compare _ _ [Expr.Name "script" _] _) _ _; first | refine xt_inoL 0 ⟨_, _, rfl⟩ ?_ | refine xt_din 0 hu ⟨_, .ow rfl, .inl ⟨_, rfl⟩⟩ ?_ | refine xt_din 0 hu ⟨_, .ow rfl, .inr ⟨_, rfl⟩⟩ ?_ | refine xt_din 0 hu ⟨_, .va rfl, .inl ⟨_, rfl⟩⟩ ?_ | refine xt_din 0 hu ⟨_, .va rfl, .inr ⟨_, rfl⟩⟩ ?_) | (guard_target = XT _ _ (Expr.Compare _ _ [Expr.Name "pages" _] _) _ _; first | refine xt_inoL 1 ⟨_, _, rfl⟩ ?_ | refine xt_din 1 hu ⟨_, .ow rfl, .inl ⟨_, rfl⟩⟩ ?_ | refine xt_din 1 hu ⟨_, .ow rfl, .inr ⟨_, rfl⟩⟩ ?_ | refine xt_din 1 hu ⟨_, .va rfl, .inl ⟨_, rfl⟩⟩ ?_ | refine xt_din 1 hu ⟨_, .va rfl, .inr ⟨_, rfl⟩⟩ ?_) | (guard_target = XT _ _ (Expr.Compare _ _ [Expr.Name "body" _] _) _ _; first | refine xt_inoL 2 ⟨_, _, rfl⟩ ?_ | refine xt_din 2 hu ⟨_, .ow rfl, .inl ⟨_, rfl⟩⟩ ?_ | refine xt_din 2 hu ⟨_, .ow rfl, .inr ⟨_, rfl⟩⟩ ?_ | refine xt_din 2 hu ⟨_, .va rfl, .inl ⟨_, rfl⟩⟩ ?_ | refine xt_din 2 hu ⟨_, .va rfl, .inr ⟨_, rfl⟩⟩ ?_) | (guard_target = XT _ _ (Expr.Compare _ _ [Expr.Name "data" _] _) _ _; first | refine xt_inoL 3 ⟨_, _, rfl⟩ ?_ | refine xt_din 3 hu ⟨_, .ow rfl, .inl ⟨_, rfl⟩⟩ ?_ | refine xt_din 3 hu ⟨_, .ow rfl, .inr ⟨_, rfl⟩⟩ ?_ | refine xt_din 3 hu ⟨_, .va rfl, .inl ⟨_, rfl⟩⟩ ?_ | refine xt_din 3 hu ⟨_, .va rfl, .inr ⟨_, rfl⟩⟩ ?_) | (guard_target = XT _ _ (Expr.Compare _ _ [Expr.Name "at" _] _) _ _; first | refine xt_inoL 4 ⟨_, _, rfl⟩ ?_ | refine xt_din 4 hu ⟨_, .ow rfl, .inl ⟨_, rfl⟩⟩ ?_ | refine xt_din 4 hu ⟨_, .ow rfl, .inr ⟨_, rfl⟩⟩ ?_ | refine xt_din 4 hu ⟨_, .va rfl, .inl ⟨_, rfl⟩⟩ ?_ | refine xt_din 4 hu ⟨_, .va rfl, .inr ⟨_, rfl⟩⟩ ?_) | (guard_target = XT _ _ (Expr.Compare _ _ [Expr.Name "changed" _] _) _ _; first | refine xt_inoL 5 ⟨_, _, rfl⟩ ?_ | refine xt_din 5 hu ⟨_, .ow rfl, .inl ⟨_, rfl⟩⟩ ?_ | refine xt_din 5 hu ⟨_, .ow rfl, .inr ⟨_, rfl⟩⟩ ?_ | refine xt_din 5 hu ⟨_, .va rfl, .inl ⟨_, rfl⟩⟩ ?_ | refine xt_din 5 hu ⟨_, .va rfl, .inr ⟨_, rfl⟩⟩ ?_) | (guard_target = XT _ _ (Expr.Compare _ _ [Expr.Name "short" _] _) _ _; first | refine xt_inoL 6 ⟨_, _, rfl⟩ ?_ | refine xt_din 6 hu ⟨_, .ow rfl, .inl ⟨_, rfl⟩⟩ ?_ | refine xt_din 6 hu ⟨_, .ow rfl, .inr ⟨_, rfl⟩⟩ ?_ | refine xt_din 6 hu ⟨_, .va rfl, .inl ⟨_, rfl⟩⟩ ?_ | refine xt_din 6 hu ⟨_, .va rfl, .inr ⟨_, rfl⟩⟩ ?_) | (guard_target = XT _ _ (Expr.Compare _ _ [Expr.Name "long" _] _) _ _; first | refine xt_inoL 7 ⟨_, _, rfl⟩ ?_ | refine xt_din 7 hu ⟨_, .ow rfl, .inl ⟨_, rfl⟩⟩ ?_ | refine xt_din 7 hu ⟨_, .ow rfl, .inr ⟨_, rfl⟩⟩ ?_ | refine xt_din 7 hu ⟨_, .va rfl, .inl ⟨_, rfl⟩⟩ ?_ | refine xt_din 7 hu ⟨_, .va rfl, .inr ⟨_, rfl⟩⟩ ?_))
local macro_rules | `(tactic| walk_at "tnio") => `(tactic| first | (guard_target = XT _ _ (Expr.Compare _ _ [Expr.Name "script" _] _) _ _; first | refine xt_nioL 0 ⟨_, _, rfl⟩ ?_ | refine xt_dni 0 hu ⟨_, .ow rfl, .inl ⟨_, rfl⟩⟩ ?_ | refine xt_dni 0 hu ⟨_, .ow rfl, .inr ⟨_, rfl⟩⟩ ?_ | refine xt_dni 0 hu ⟨_, .va rfl, .inl ⟨_, rfl⟩⟩ ?_ | refine xt_dni 0 hu ⟨_, .va rfl, .inr ⟨_, rfl⟩⟩ ?_) | (guard_target = XT _ _ (Expr.Compare _ _ [Expr.Name "pages" _] _) _ _; first | refine xt_nioL 1 ⟨_, _, rfl⟩ ?_ | refine xt_dni 1 hu ⟨_, .ow rfl, .inl ⟨_, rfl⟩⟩ ?_ | refine xt_dni 1 hu ⟨_, .ow rfl, .inr ⟨_, rfl⟩⟩ ?_ | refine xt_dni 1 hu ⟨_, .va rfl, .inl ⟨_, rfl⟩⟩ ?_ | refine xt_dni 1 hu ⟨_, .va rfl, .inr ⟨_, rfl⟩⟩ ?_) | (guard_target = XT _ _ (Expr.Compare _ _ [Expr.Name "body" _] _) _ _; first | refine xt_nioL 2 ⟨_, _, rfl⟩ ?_ | refine xt_dni 2 hu ⟨_, .ow rfl, .inl ⟨_, rfl⟩⟩ ?_ | refine xt_dni 2 hu ⟨_, .ow rfl, .inr ⟨_, rfl⟩⟩ ?_ | refine xt_dni 2 hu ⟨_, .va rfl, .inl ⟨_, rfl⟩⟩ ?_ | refine xt_dni 2 hu ⟨_, .va rfl, .inr ⟨_, rfl⟩⟩ ?_) | (guard_target = XT _ _ (Expr.Compare _ _ [Expr.Name "data" _] _) _ _; first | refine xt_nioL 3 ⟨_, _, rfl⟩ ?_ | refine xt_dni 3 hu ⟨_, .ow rfl, .inl ⟨_, rfl⟩⟩ ?_ | refine xt_dni 3 hu ⟨_, .ow rfl, .inr ⟨_, rfl⟩⟩ ?_ | refine xt_dni 3 hu ⟨_, .va rfl, .inl ⟨_, rfl⟩⟩ ?_ | refine xt_dni 3 hu ⟨_, .va rfl, .inr ⟨_, rfl⟩⟩ ?_) | (guard_target = XT _ _ (Expr.Compare _ _ [Expr.Name "at" _] _) _ _; first | refine xt_nioL 4 ⟨_, _, rfl⟩ ?_ | refine xt_dni 4 hu ⟨_, .ow rfl, .inl ⟨_, rfl⟩⟩ ?_ | refine xt_dni 4 hu ⟨_, .ow rfl, .inr ⟨_, rfl⟩⟩ ?_ | refine xt_dni 4 hu ⟨_, .va rfl, .inl ⟨_, rfl⟩⟩ ?_ | refine xt_dni 4 hu ⟨_, .va rfl, .inr ⟨_, rfl⟩⟩ ?_) | (guard_target = XT _ _ (Expr.Compare _ _ [Expr.Name "changed" _] _) _ _; first | refine xt_nioL 5 ⟨_, _, rfl⟩ ?_ | refine xt_dni 5 hu ⟨_, .ow rfl, .inl ⟨_, rfl⟩⟩ ?_ | refine xt_dni 5 hu ⟨_, .ow rfl, .inr ⟨_, rfl⟩⟩ ?_ | refine xt_dni 5 hu ⟨_, .va rfl, .inl ⟨_, rfl⟩⟩ ?_ | refine xt_dni 5 hu ⟨_, .va rfl, .inr ⟨_, rfl⟩⟩ ?_) | (guard_target = XT _ _ (Expr.Compare _ _ [Expr.Name "short" _] _) _ _; first | refine xt_nioL 6 ⟨_, _, rfl⟩ ?_ | refine xt_dni 6 hu ⟨_, .ow rfl, .inl ⟨_, rfl⟩⟩ ?_ | refine xt_dni 6 hu ⟨_, .ow rfl, .inr ⟨_, rfl⟩⟩ ?_ | refine xt_dni 6 hu ⟨_, .va rfl, .inl ⟨_, rfl⟩⟩ ?_ | refine xt_dni 6 hu ⟨_, .va rfl, .inr ⟨_, rfl⟩⟩ ?_) | (guard_target = XT _ _ (Expr.Compare _ _ [Expr.Name "long" _] _) _ _; first | refine xt_nioL 7 ⟨_, _, rfl⟩ ?_ | refine xt_dni 7 hu ⟨_, .ow rfl, .inl ⟨_, rfl⟩⟩ ?_ | refine xt_dni 7 hu ⟨_, .ow rfl, .inr ⟨_, rfl⟩⟩ ?_ | refine xt_dni 7 hu ⟨_, .va rfl, .inl ⟨_, rfl⟩⟩ ?_ | refine xt_dni 7 hu ⟨_, .va rfl, .inr ⟨_, rfl⟩⟩ ?_))
local macro_rules | `(tactic| walk_at "tru") => `(tactic| first | (guard_target = XT _ _ (Expr.Name "script" _) _ _; refine xt_truO 0 rfl ?_) | (guard_target = XT _ _ (Expr.Name "pages" _) _ _; refine xt_truO 1 rfl ?_) | (guard_target = XT _ _ (Expr.Name "body" _) _ _; refine xt_truO 2 rfl ?_) | (guard_target = XT _ _ (Expr.Name "data" _) _ _; refine xt_truO 3 rfl ?_) | (guard_target = XT _ _ (Expr.Name "at" _) _ _; refine xt_truO 4 rfl ?_) | (guard_target = XT _ _ (Expr.Name "changed" _) _ _; refine xt_truO 5 rfl ?_) | (guard_target = XT _ _ (Expr.Name "short" _) _ _; refine xt_truO 6 rfl ?_) | (guard_target = XT _ _ (Expr.Name "long" _) _ _; refine xt_truO 7 rfl ?_))
local macro_rules | `(tactic| walk_at "ldt") => `(tactic| first | (guard_target = XE _ _ (Expr.Call (Expr.Name "list" _) [Expr.Name "script" _] [] _) _ _; first | refine xe_listOw 0 rfl T.z_list ?_ | refine xe_listDT 0 rfl T.z_list ?_) | (guard_target = XE _ _ (Expr.Call (Expr.Name "list" _) [Expr.Name "pages" _] [] _) _ _; first | refine xe_listOw 1 rfl T.z_list ?_ | refine xe_listDT 1 rfl T.z_list ?_) | (guard_target = XE _ _ (Expr.Call (Expr.Name "list" _) [Expr.Name "body" _] [] _) _ _; first | refine xe_listOw 2 rfl T.z_list ?_ | refine xe_listDT 2 rfl T.z_list ?_) | (guard_target = XE _ _ (Expr.Call (Expr.Name "list" _) [Expr.Name "data" _] [] _) _ _; first | refine xe_listOw 3 rfl T.z_list ?_ | refine xe_listDT 3 rfl T.z_list ?_) | (guard_target = XE _ _ (Expr.Call (Expr.Name "list" _) [Expr.Name "at" _] [] _) _ _; first | refine xe_listOw 4 rfl T.z_list ?_ | refine xe_listDT 4 rfl T.z_list ?_) | (guard_target = XE _ _ (Expr.Call (Expr.Name "list" _) [Expr.Name "changed" _] [] _) _ _; first | refine xe_listOw 5 rfl T.z_list ?_ | refine xe_listDT 5 rfl T.z_list ?_) | (guard_target = XE _ _ (Expr.Call (Expr.Name "list" _) [Expr.Name "short" _] [] _) _ _; first | refine xe_listOw 6 rfl T.z_list ?_ | refine xe_listDT 6 rfl T.z_list ?_) | (guard_target = XE _ _ (Expr.Call (Expr.Name "list" _) [Expr.Name "long" _] [] _) _ _; first | refine xe_listOw 7 rfl T.z_list ?_ | refine xe_listDT 7 rfl T.z_list ?_))
local macro_rules | `(tactic| walk_at "xr") => `(tactic| first | (guard_target = XR _ _ (Expr.Name "script" _ :: _) _ _; refine xr_own 0 ⟨_, _, rfl⟩ ?_) | (guard_target = XR _ _ (Expr.Name "pages" _ :: _) _ _; refine xr_own 1 ⟨_, _, rfl⟩ ?_) | (guard_target = XR _ _ (Expr.Name "body" _ :: _) _ _; refine xr_own 2 ⟨_, _, rfl⟩ ?_) | (guard_target = XR _ _ (Expr.Name "data" _ :: _) _ _; refine xr_own 3 ⟨_, _, rfl⟩ ?_) | (guard_target = XR _ _ (Expr.Name "at" _ :: _) _ _; refine xr_own 4 ⟨_, _, rfl⟩ ?_) | (guard_target = XR _ _ (Expr.Name "changed" _ :: _) _ _; refine xr_own 5 ⟨_, _, rfl⟩ ?_) | (guard_target = XR _ _ (Expr.Name "short" _ :: _) _ _; refine xr_own 6 ⟨_, _, rfl⟩ ?_) | (guard_target = XR _ _ (Expr.Name "long" _ :: _) _ _; refine xr_own 7 ⟨_, _, rfl⟩ ?_))
local macro_rules | `(tactic| walk_at "fld") => `(tactic| first | (guard_target = XE _ _ (Expr.Attribute (Expr.Name "script" _) "data" _) _ _; refine xe_fldo 0 T.cl_ByteReader T.na_ByteReader_data rfl rfl ?_) | (guard_target = XE _ _ (Expr.Attribute (Expr.Name "pages" _) "data" _) _ _; refine xe_fldo 1 T.cl_ByteReader T.na_ByteReader_data rfl rfl ?_) | (guard_target = XE _ _ (Expr.Attribute (Expr.Name "body" _) "data" _) _ _; refine xe_fldo 2 T.cl_ByteReader T.na_ByteReader_data rfl rfl ?_) | (guard_target = XE _ _ (Expr.Attribute (Expr.Name "data" _) "data" _) _ _; refine xe_fldo 3 T.cl_ByteReader T.na_ByteReader_data rfl rfl ?_) | (guard_target = XE _ _ (Expr.Attribute (Expr.Name "at" _) "data" _) _ _; refine xe_fldo 4 T.cl_ByteReader T.na_ByteReader_data rfl rfl ?_) | (guard_target = XE _ _ (Expr.Attribute (Expr.Name "changed" _) "data" _) _ _; refine xe_fldo 5 T.cl_ByteReader T.na_ByteReader_data rfl rfl ?_) | (guard_target = XE _ _ (Expr.Attribute (Expr.Name "short" _) "data" _) _ _; refine xe_fldo 6 T.cl_ByteReader T.na_ByteReader_data rfl rfl ?_) | (guard_target = XE _ _ (Expr.Attribute (Expr.Name "long" _) "data" _) _ _; refine xe_fldo 7 T.cl_ByteReader T.na_ByteReader_data rfl rfl ?_))
local macro_rules | `(tactic| walk_at "sx") => `(tactic| first | (guard_target = XS _ _ (Stmt.Assign [Expr.Attribute (Expr.Name "script" _) "data" _] _ _) _ _; refine xs_flds 0 T.cl_ByteReader T.na_ByteReader_data ⟨_, _, rfl⟩ ?_) | (guard_target = XS _ _ (Stmt.Assign [Expr.Attribute (Expr.Name "pages" _) "data" _] _ _) _ _; refine xs_flds 1 T.cl_ByteReader T.na_ByteReader_data ⟨_, _, rfl⟩ ?_) | (guard_target = XS _ _ (Stmt.Assign [Expr.Attribute (Expr.Name "body" _) "data" _] _ _) _ _; refine xs_flds 2 T.cl_ByteReader T.na_ByteReader_data ⟨_, _, rfl⟩ ?_) | (guard_target = XS _ _ (Stmt.Assign [Expr.Attribute (Expr.Name "data" _) "data" _] _ _) _ _; refine xs_flds 3 T.cl_ByteReader T.na_ByteReader_data ⟨_, _, rfl⟩ ?_) | (guard_target = XS _ _ (Stmt.Assign [Expr.Attribute (Expr.Name "at" _) "data" _] _ _) _ _; refine xs_flds 4 T.cl_ByteReader T.na_ByteReader_data ⟨_, _, rfl⟩ ?_) | (guard_target = XS _ _ (Stmt.Assign [Expr.Attribute (Expr.Name "changed" _) "data" _] _ _) _ _; refine xs_flds 5 T.cl_ByteReader T.na_ByteReader_data ⟨_, _, rfl⟩ ?_) | (guard_target = XS _ _ (Stmt.Assign [Expr.Attribute (Expr.Name "short" _) "data" _] _ _) _ _; refine xs_flds 6 T.cl_ByteReader T.na_ByteReader_data ⟨_, _, rfl⟩ ?_) | (guard_target = XS _ _ (Stmt.Assign [Expr.Attribute (Expr.Name "long" _) "data" _] _ _) _ _; refine xs_flds 7 T.cl_ByteReader T.na_ByteReader_data ⟨_, _, rfl⟩ ?_))
local macro_rules | `(tactic| walk_at "sx") => `(tactic| first | (guard_target = XS _ _ (Stmt.AugAssign (Expr.Attribute (Expr.Name "script" _) "data" _) .Add _ _) _ _; refine xs_flda 0 T.cl_ByteReader T.na_ByteReader_data rfl rfl ?_) | (guard_target = XS _ _ (Stmt.AugAssign (Expr.Attribute (Expr.Name "pages" _) "data" _) .Add _ _) _ _; refine xs_flda 1 T.cl_ByteReader T.na_ByteReader_data rfl rfl ?_) | (guard_target = XS _ _ (Stmt.AugAssign (Expr.Attribute (Expr.Name "body" _) "data" _) .Add _ _) _ _; refine xs_flda 2 T.cl_ByteReader T.na_ByteReader_data rfl rfl ?_) | (guard_target = XS _ _ (Stmt.AugAssign (Expr.Attribute (Expr.Name "data" _) "data" _) .Add _ _) _ _; refine xs_flda 3 T.cl_ByteReader T.na_ByteReader_data rfl rfl ?_) | (guard_target = XS _ _ (Stmt.AugAssign (Expr.Attribute (Expr.Name "at" _) "data" _) .Add _ _) _ _; refine xs_flda 4 T.cl_ByteReader T.na_ByteReader_data rfl rfl ?_) | (guard_target = XS _ _ (Stmt.AugAssign (Expr.Attribute (Expr.Name "changed" _) "data" _) .Add _ _) _ _; refine xs_flda 5 T.cl_ByteReader T.na_ByteReader_data rfl rfl ?_) | (guard_target = XS _ _ (Stmt.AugAssign (Expr.Attribute (Expr.Name "short" _) "data" _) .Add _ _) _ _; refine xs_flda 6 T.cl_ByteReader T.na_ByteReader_data rfl rfl ?_) | (guard_target = XS _ _ (Stmt.AugAssign (Expr.Attribute (Expr.Name "long" _) "data" _) .Add _ _) _ _; refine xs_flda 7 T.cl_ByteReader T.na_ByteReader_data rfl rfl ?_))
local macro_rules | `(tactic| walk_at "fld") => `(tactic| first | (guard_target = XE _ _ (Expr.Attribute (Expr.Name "script" _) "at" _) _ _; refine xe_fldo 0 T.cl_ByteReader T.na_ByteReader_at rfl rfl ?_) | (guard_target = XE _ _ (Expr.Attribute (Expr.Name "pages" _) "at" _) _ _; refine xe_fldo 1 T.cl_ByteReader T.na_ByteReader_at rfl rfl ?_) | (guard_target = XE _ _ (Expr.Attribute (Expr.Name "body" _) "at" _) _ _; refine xe_fldo 2 T.cl_ByteReader T.na_ByteReader_at rfl rfl ?_) | (guard_target = XE _ _ (Expr.Attribute (Expr.Name "data" _) "at" _) _ _; refine xe_fldo 3 T.cl_ByteReader T.na_ByteReader_at rfl rfl ?_) | (guard_target = XE _ _ (Expr.Attribute (Expr.Name "at" _) "at" _) _ _; refine xe_fldo 4 T.cl_ByteReader T.na_ByteReader_at rfl rfl ?_) | (guard_target = XE _ _ (Expr.Attribute (Expr.Name "changed" _) "at" _) _ _; refine xe_fldo 5 T.cl_ByteReader T.na_ByteReader_at rfl rfl ?_) | (guard_target = XE _ _ (Expr.Attribute (Expr.Name "short" _) "at" _) _ _; refine xe_fldo 6 T.cl_ByteReader T.na_ByteReader_at rfl rfl ?_) | (guard_target = XE _ _ (Expr.Attribute (Expr.Name "long" _) "at" _) _ _; refine xe_fldo 7 T.cl_ByteReader T.na_ByteReader_at rfl rfl ?_))
local macro_rules | `(tactic| walk_at "sx") => `(tactic| first | (guard_target = XS _ _ (Stmt.Assign [Expr.Attribute (Expr.Name "script" _) "at" _] _ _) _ _; refine xs_flds 0 T.cl_ByteReader T.na_ByteReader_at ⟨_, _, rfl⟩ ?_) | (guard_target = XS _ _ (Stmt.Assign [Expr.Attribute (Expr.Name "pages" _) "at" _] _ _) _ _; refine xs_flds 1 T.cl_ByteReader T.na_ByteReader_at ⟨_, _, rfl⟩ ?_) | (guard_target = XS _ _ (Stmt.Assign [Expr.Attribute (Expr.Name "body" _) "at" _] _ _) _ _; refine xs_flds 2 T.cl_ByteReader T.na_ByteReader_at ⟨_, _, rfl⟩ ?_) | (guard_target = XS _ _ (Stmt.Assign [Expr.Attribute (Expr.Name "data" _) "at" _] _ _) _ _; refine xs_flds 3 T.cl_ByteReader T.na_ByteReader_at ⟨_, _, rfl⟩ ?_) | (guard_target = XS _ _ (Stmt.Assign [Expr.Attribute (Expr.Name "at" _) "at" _] _ _) _ _; refine xs_flds 4 T.cl_ByteReader T.na_ByteReader_at ⟨_, _, rfl⟩ ?_) | (guard_target = XS _ _ (Stmt.Assign [Expr.Attribute (Expr.Name "changed" _) "at" _] _ _) _ _; refine xs_flds 5 T.cl_ByteReader T.na_ByteReader_at ⟨_, _, rfl⟩ ?_) | (guard_target = XS _ _ (Stmt.Assign [Expr.Attribute (Expr.Name "short" _) "at" _] _ _) _ _; refine xs_flds 6 T.cl_ByteReader T.na_ByteReader_at ⟨_, _, rfl⟩ ?_) | (guard_target = XS _ _ (Stmt.Assign [Expr.Attribute (Expr.Name "long" _) "at" _] _ _) _ _; refine xs_flds 7 T.cl_ByteReader T.na_ByteReader_at ⟨_, _, rfl⟩ ?_))
local macro_rules | `(tactic| walk_at "sx") => `(tactic| first | (guard_target = XS _ _ (Stmt.AugAssign (Expr.Attribute (Expr.Name "script" _) "at" _) .Add _ _) _ _; refine xs_flda 0 T.cl_ByteReader T.na_ByteReader_at rfl rfl ?_) | (guard_target = XS _ _ (Stmt.AugAssign (Expr.Attribute (Expr.Name "pages" _) "at" _) .Add _ _) _ _; refine xs_flda 1 T.cl_ByteReader T.na_ByteReader_at rfl rfl ?_) | (guard_target = XS _ _ (Stmt.AugAssign (Expr.Attribute (Expr.Name "body" _) "at" _) .Add _ _) _ _; refine xs_flda 2 T.cl_ByteReader T.na_ByteReader_at rfl rfl ?_) | (guard_target = XS _ _ (Stmt.AugAssign (Expr.Attribute (Expr.Name "data" _) "at" _) .Add _ _) _ _; refine xs_flda 3 T.cl_ByteReader T.na_ByteReader_at rfl rfl ?_) | (guard_target = XS _ _ (Stmt.AugAssign (Expr.Attribute (Expr.Name "at" _) "at" _) .Add _ _) _ _; refine xs_flda 4 T.cl_ByteReader T.na_ByteReader_at rfl rfl ?_) | (guard_target = XS _ _ (Stmt.AugAssign (Expr.Attribute (Expr.Name "changed" _) "at" _) .Add _ _) _ _; refine xs_flda 5 T.cl_ByteReader T.na_ByteReader_at rfl rfl ?_) | (guard_target = XS _ _ (Stmt.AugAssign (Expr.Attribute (Expr.Name "short" _) "at" _) .Add _ _) _ _; refine xs_flda 6 T.cl_ByteReader T.na_ByteReader_at rfl rfl ?_) | (guard_target = XS _ _ (Stmt.AugAssign (Expr.Attribute (Expr.Name "long" _) "at" _) .Add _ _) _ _; refine xs_flda 7 T.cl_ByteReader T.na_ByteReader_at rfl rfl ?_))
local macro_rules | `(tactic| walk_at "ext") => `(tactic| first | (guard_target = XS _ _ (Stmt.Expr (Expr.Call (Expr.Attribute (Expr.Name "script" _) "extend" _) _ _ _) _) _ _; refine xs_ext 0 ⟨_, _, rfl⟩ ?_) | (guard_target = XS _ _ (Stmt.Expr (Expr.Call (Expr.Attribute (Expr.Name "pages" _) "extend" _) _ _ _) _) _ _; refine xs_ext 1 ⟨_, _, rfl⟩ ?_) | (guard_target = XS _ _ (Stmt.Expr (Expr.Call (Expr.Attribute (Expr.Name "body" _) "extend" _) _ _ _) _) _ _; refine xs_ext 2 ⟨_, _, rfl⟩ ?_) | (guard_target = XS _ _ (Stmt.Expr (Expr.Call (Expr.Attribute (Expr.Name "data" _) "extend" _) _ _ _) _) _ _; refine xs_ext 3 ⟨_, _, rfl⟩ ?_) | (guard_target = XS _ _ (Stmt.Expr (Expr.Call (Expr.Attribute (Expr.Name "at" _) "extend" _) _ _ _) _) _ _; refine xs_ext 4 ⟨_, _, rfl⟩ ?_) | (guard_target = XS _ _ (Stmt.Expr (Expr.Call (Expr.Attribute (Expr.Name "changed" _) "extend" _) _ _ _) _) _ _; refine xs_ext 5 ⟨_, _, rfl⟩ ?_) | (guard_target = XS _ _ (Stmt.Expr (Expr.Call (Expr.Attribute (Expr.Name "short" _) "extend" _) _ _ _) _) _ _; refine xs_ext 6 ⟨_, _, rfl⟩ ?_) | (guard_target = XS _ _ (Stmt.Expr (Expr.Call (Expr.Attribute (Expr.Name "long" _) "extend" _) _ _ _) _) _ _; refine xs_ext 7 ⟨_, _, rfl⟩ ?_))
local macro_rules | `(tactic| walk_at "sx") => `(tactic| ((guard_target = XS _ _ (Stmt.Assign [Expr.Name "changed" _] (Expr.Call (Expr.Name "list" _) [_] [] _) _) _ _); refine xs_ownList 5 nd T.z_list ?_))
theorem ok_law (T : Tx K mg) : FnOk P w K mg base CX0 20 T.f_law T.d_law ["script"] (SpD K RLaw) := by
  refine fn_okD T.F_law sc_law (fun ds Φ h => by obtain ⟨_, rfl, _⟩ := h; rfl) (fun cdv A outer s H E F hr ds Φ h => ?_)
  have nd := sc_law.nd
  have hu := hr.u64
  obtain ⟨ns, rfl, hl, q⟩ := h
  apply xssn; (focus walk_at "nrm0")
  walk_at "go"
  refine ⟨ns, rfl, fun ps hps => ?_⟩
  have hok := hps.ok
  have hcm := cmpPs hps
  have hbs := body_small hps
  have hps1 := hps.1
  have hvl : (volB ps).length ≤ 400 := by unfold volB; rw [List.length_append, sum_len]; omega
  have hvl0 : 0 < (volB ps).length := by unfold volB; rw [List.length_append, sum_len]; omega
  have hvb := vol_bytes ps
  walk_at "go"
  refine ⟨ps, rfl, hps, ?_⟩
  walk_at "go"
  refine ⟨_, rfl, ?_⟩
  refine xo_cat (by rw [List.length_map, List.length_map, sum_len]; omega) ?_
  rw [← List.map_append]
  rw [show bodyB ps ++ sumB (bodyB ps) = volB ps from rfl]
  walk_at "go"
  intro c5
  have r0 : (0 : Int) < (volB ps).length := by omega
  have i0 := Int.emod_nonneg c5 (by omega : ((volB ps).length : Int) ≠ 0)
  have i1 := Int.emod_lt_of_pos c5 r0
  walk_at "go"
  rw [List.length_map (as := volB ps)]
  refine xo_mod r0 ?_
  obtain ⟨i, hi⟩ : ∃ i : Nat, c5 % ((volB ps).length : Int) = (i : Int) := ⟨(c5 % ((volB ps).length : Int)).toNat, by omega⟩
  rw [hi]
  have hiR : i < (volB ps).length := by omega
  have hx : (volB ps)[i]? = some ((volB ps)[i]'hiR) := List.getElem?_eq_getElem hiR
  generalize (volB ps)[i]'hiR = x at hx
  have hxb := hvb x (List.mem_of_getElem? hx)
  have hat : atI ((volB ps).map D.int) (i : Int) = some (.int x) := atI_D hx
  have hix : ixN ((volB ps).map D.int).length (i : Int) = some i := by
    rw [ixD (by omega) (by rw [List.length_map]; omega)]
    rfl
  walk_at "go"
  intro c6
  walk_at "go"
  have y0 : 0 ≤ (x + 1 + c6 % 255) % 256 ∧ (x + 1 + c6 % 255) % 256 < 256 := ⟨Int.emod_nonneg _ (by decide), Int.emod_lt_of_pos _ (by decide)⟩
  have yne : (x + 1 + c6 % 255) % 256 ≠ x := by
    have z0 := Int.emod_nonneg c6 (by decide : (255 : Int) ≠ 0)
    have z1 := Int.emod_lt_of_pos c6 (by decide : (0 : Int) < 255)
    omega
  generalize (x + 1 + c6 % 255) % 256 = y at y0 yne
  have hbad := vol_changed hx hxb y0 yne
  rw [← List.map_set]
  refine xss <| xs_if ?_
  walk_at "go"
  refine ⟨(volB ps).set i y, rfl, by rw [List.length_set]; omega, hbad, ?_⟩
  walk_at "go"
  intro c7
  walk_at "go"
  rw [List.length_map (as := volB ps)]
  refine xo_mod r0 ?_
  have j0 := Int.emod_nonneg c7 (by omega : ((volB ps).length : Int) ≠ 0)
  obtain ⟨r, hr2⟩ : ∃ r : Nat, c7 % ((volB ps).length : Int) = (r : Int) := ⟨(c7 % ((volB ps).length : Int)).toNat, by omega⟩
  rw [hr2]
  walk_at "go"
  rw [cut_take]
  have hul := hu
  refine xss_mid (fun G => G = [.va (.scr ns), .va (.lst (ps.map pD)), .no, .va (Il (volB ps)), .no, .no, .no, .no]) ?_ ?_
  · generalize hsh : (volB ps).take r = sh
    have shl : sh.length ≤ 400 := by rw [← hsh, List.length_take]; omega
    have e1 : Pu.cutD (sh.map D.int) none (some (-4)) = (sh.take (sh.length - 4)).map D.int := cut_toNeg D.int sh 4 (by decide)
    have e2 : Pu.cutD (sh.map D.int) (some (-4)) none = (sh.drop (sh.length - 4)).map D.int := cut_ofNeg D.int sh 4 (by decide)
    have hs1 : sh.length < 4 → SumBad sh := fun z w => by
      have := congrArg List.length w
      rw [sum_len, List.length_drop] at this
      omega
    refine xs_if ?_
    walk_at "go"
    · refine ⟨sh, rfl, by omega, hs1 (by have h' := h; simp at h'; omega), ?_⟩
      walk_at "go"
      walk_at "cov"
    · rw [e1, e2]
      refine ⟨_, rfl, ?_⟩
      refine xo_neIs hu (by rw [List.length_drop]; omega) (by rw [sum_len]; decide) ?_
      walk_at "go"
      · walk_at "cov"
      · refine ⟨sh, rfl, by omega, h, ?_⟩
        walk_at "go"
        walk_at "cov"
  rintro G rfl
  walk_at "go"
  intro c8
  walk_at "go"
  have b0 : 0 ≤ c8 % 256 ∧ c8 % 256 < 256 := ⟨Int.emod_nonneg _ (by decide), Int.emod_lt_of_pos _ (by decide)⟩
  generalize c8 % 256 = b at b0
  refine xo_cat (by rw [List.length_map]; show _ + 1 ≤ _; omega) ?_
  rw [show (volB ps).map D.int ++ [D.int b] = (volB ps ++ [b]).map D.int from by rw [List.map_append]; rfl]
  have lgl : (volB ps ++ [b]).length ≤ 401 := by rw [List.length_append]; show _ + 1 ≤ _; omega
  generalize volB ps ++ [b] = lg at lgl
  have e1 : Pu.cutD (lg.map D.int) none (some (-4)) = (lg.take (lg.length - 4)).map D.int := cut_toNeg D.int lg 4 (by decide)
  have e2 : Pu.cutD (lg.map D.int) (some (-4)) none = (lg.drop (lg.length - 4)).map D.int := cut_ofNeg D.int lg 4 (by decide)
  refine xss_mid (fun G => G = [.no, .va (.lst (ps.map pD)), .no, .va (Il (volB ps)), .no, .no, .no, .no]) ?_ ?_
  · refine xs_if ?_
    walk_at "go"
    rw [e1, e2]
    refine ⟨_, rfl, ?_⟩
    refine xo_neIs hu (by rw [List.length_drop]; omega) (by rw [sum_len]; decide) ?_
    walk_at "go"
    · walk_at "cov"
    · refine ⟨lg, rfl, by omega, h, ?_⟩
      walk_at "go"
      walk_at "cov"
  rintro G rfl
  walk_at "go"
  refine xe_callx (fn_cx0 (ok_read_volume T)) hr.in1' T.m_read_volume T.F_read_volume.kp T.b_read_volume ?_
  walk_at "go"
  refine ⟨volB ps, rfl, by omega, .inr ⟨ps, hok, rfl, ?_⟩⟩
  walk_at "go"
  refine xo_eqD hu hcm.1 hcm.1 hcm.shaped hcm.shaped ?_
  rw [eqv_same hcm]
  exact q

end
local macro_rules | `(tactic| walk_at "call") => `(tactic| ((guard_target = XE _ _ (Expr.Call (Expr.Name "law" _) _ _ _) _ _); refine xe_callx (ok_law T) hr.in1' T.m_law T.F_law.kp T.b_law ?_))
end
abbrev SpL (K : PySem.W.Frag) : Sp := SpD K RLaw
theorem all_mk {l : PySem.W.OpenLaw} {w : World} {K : PySem.W.Frag} {h : Heap} {mg : Str → Option Value} {fa : Addr} (X : K.In h) (G : h.Ns mainGlobals mg) (hfa : mg "law" = some (.ref fa))
    {f0 : Addr} {od0 an0 : Option Addr} {sl0 : Array (Option Value)} {oc0 kV0 dc0 pm0 cd0 ct0 : Value}
    {f1 : Addr} {od1 an1 : Option Addr} {sl1 : Array (Option Value)} {oc1 kV1 dc1 pm1 cd1 ct1 : Value}
    {f2 : Addr} {od2 an2 : Option Addr} {sl2 : Array (Option Value)} {oc2 kV2 dc2 pm2 cd2 ct2 : Value}
    {f3 : Addr} {od3 an3 : Option Addr} {sl3 : Array (Option Value)} {oc3 kV3 dc3 pm3 cd3 ct3 : Value}
    {f4 : Addr} {od4 an4 : Option Addr} {sl4 : Array (Option Value)} {oc4 kV4 dc4 pm4 cd4 ct4 : Value}
    {f5 : Addr} {od5 an5 : Option Addr} {sl5 : Array (Option Value)} {oc5 kV5 dc5 pm5 cd5 ct5 : Value}
    {f6 : Addr} {od6 an6 : Option Addr} {sl6 : Array (Option Value)} {oc6 kV6 dc6 pm6 cd6 ct6 : Value}
    {f7 : Addr} {od7 an7 : Option Addr} {sl7 : Array (Option Value)} {oc7 kV7 dc7 pm7 cd7 ct7 : Value}
    {f8 : Addr} {od8 an8 : Option Addr} {sl8 : Array (Option Value)} {oc8 kV8 dc8 pm8 cd8 ct8 : Value}
    {f9 : Addr} {od9 an9 : Option Addr} {sl9 : Array (Option Value)} {oc9 kV9 dc9 pm9 cd9 ct9 : Value}
    {f10 : Addr} {od10 an10 : Option Addr} {sl10 : Array (Option Value)} {oc10 kV10 dc10 pm10 cd10 ct10 : Value}
    {f11 : Addr} {od11 an11 : Option Addr} {sl11 : Array (Option Value)} {oc11 kV11 dc11 pm11 cd11 ct11 : Value}
    {f12 : Addr} {od12 an12 : Option Addr} {sl12 : Array (Option Value)} {oc12 kV12 dc12 pm12 cd12 ct12 : Value}
    {f13 : Addr} {od13 an13 : Option Addr} {sl13 : Array (Option Value)} {oc13 kV13 dc13 pm13 cd13 ct13 : Value}
    {tk_BASE : Tok}
    {tk_FOUR : Tok}
    {tk_SUM_FACTOR : Tok}
    {tk_SUM_LIMIT : Tok}
    {tk_SUM_START : Tok}
    {CCorpusError CInvalidBytes : Addr}
    {nmInvalidBytes qqInvalidBytes : Str} {NInvalidBytes : Addr} {bsInvalidBytes : List Value} {snInvalidBytes : List Str} {suInvalidBytes : List Value} {abInvalidBytes : Bool} {coInvalidBytes : Option Bool} {ddInvalidBytes : Option Addr} {maInvalidBytes mbInvalidBytes mcInvalidBytes mdInvalidBytes meInvalidBytes : Option Value}
    {fiInvalidBytes : Addr} {odiInvalidBytes aniInvalidBytes : Option Addr} {sliInvalidBytes : Array (Option Value)} {ociInvalidBytes kViInvalidBytes dciInvalidBytes pmiInvalidBytes cdiInvalidBytes ctiInvalidBytes : Value}
    {CByteReader : Addr}
    {fByteReader_init__ : Addr} {odByteReader_init__ anByteReader_init__ : Option Addr} {slByteReader_init__ : Array (Option Value)} {ocByteReader_init__ kVByteReader_init__ dcByteReader_init__ pmByteReader_init__ cdByteReader_init__ ctByteReader_init__ : Value}
    {fByteReader_take_byte : Addr} {odByteReader_take_byte anByteReader_take_byte : Option Addr} {slByteReader_take_byte : Array (Option Value)} {ocByteReader_take_byte kVByteReader_take_byte dcByteReader_take_byte pmByteReader_take_byte cdByteReader_take_byte ctByteReader_take_byte : Value}
    {fByteReader_take_number : Addr} {odByteReader_take_number anByteReader_take_number : Option Addr} {slByteReader_take_number : Array (Option Value)} {ocByteReader_take_number kVByteReader_take_number dcByteReader_take_number pmByteReader_take_number cdByteReader_take_number ctByteReader_take_number : Value}
    {fByteReader_take_numbers : Addr} {odByteReader_take_numbers anByteReader_take_numbers : Option Addr} {slByteReader_take_numbers : Array (Option Value)} {ocByteReader_take_numbers kVByteReader_take_numbers dcByteReader_take_numbers pmByteReader_take_numbers cdByteReader_take_numbers ctByteReader_take_numbers : Value}
    {fByteReader_take_end : Addr} {odByteReader_take_end anByteReader_take_end : Option Addr} {slByteReader_take_end : Array (Option Value)} {ocByteReader_take_end kVByteReader_take_end dcByteReader_take_end pmByteReader_take_end cdByteReader_take_end ctByteReader_take_end : Value}
    (a0 : PySem.W.nsIn K mainGlobals "_law_number" = some (some (.ref f0))) (l0 : K.lookup f0 = some ⟨oc0, od0, .func (PySem.W.fnOf "_law_number" "_law_number" (defArgs s_law_number) (defBody s_law_number) (defScope s_law_number) .none kV0 dc0 pm0 an0 cd0 ct0), sl0⟩) (c0 : PySem.W.codeIn K cd0 "_law_number" = true) (k0 : PySem.W.keepIn K (.ref f0) = true)
    (a1 : PySem.W.nsIn K mainGlobals "_law_body" = some (some (.ref f1))) (l1 : K.lookup f1 = some ⟨oc1, od1, .func (PySem.W.fnOf "_law_body" "_law_body" (defArgs s_law_body) (defBody s_law_body) (defScope s_law_body) .none kV1 dc1 pm1 an1 cd1 ct1), sl1⟩) (c1 : PySem.W.codeIn K cd1 "_law_body" = true) (k1 : PySem.W.keepIn K (.ref f1) = true)
    (a2 : PySem.W.nsIn K mainGlobals "_law_cell" = some (some (.ref f2))) (l2 : K.lookup f2 = some ⟨oc2, od2, .func (PySem.W.fnOf "_law_cell" "_law_cell" (defArgs s_law_cell) (defBody s_law_cell) (defScope s_law_cell) .none kV2 dc2 pm2 an2 cd2 ct2), sl2⟩) (c2 : PySem.W.codeIn K cd2 "_law_cell" = true) (k2 : PySem.W.keepIn K (.ref f2) = true)
    (a3 : PySem.W.nsIn K mainGlobals "_wall" = some (some (.ref f3))) (l3 : K.lookup f3 = some ⟨oc3, od3, .func (PySem.W.fnOf "_wall" "_wall" (defArgs s_wall) (defBody s_wall) (defScope s_wall) .none kV3 dc3 pm3 an3 cd3 ct3), sl3⟩) (c3 : PySem.W.codeIn K cd3 "_wall" = true) (k3 : PySem.W.keepIn K (.ref f3) = true)
    (a4 : PySem.W.nsIn K mainGlobals "read_number" = some (some (.ref f4))) (l4 : K.lookup f4 = some ⟨oc4, od4, .func (PySem.W.fnOf "read_number" "read_number" (defArgs s_read_number) (defBody s_read_number) (defScope s_read_number) .none kV4 dc4 pm4 an4 cd4 ct4), sl4⟩) (c4 : PySem.W.codeIn K cd4 "read_number" = true) (k4 : PySem.W.keepIn K (.ref f4) = true)
    (a5 : PySem.W.nsIn K mainGlobals "check_sum" = some (some (.ref f5))) (l5 : K.lookup f5 = some ⟨oc5, od5, .func (PySem.W.fnOf "check_sum" "check_sum" (defArgs s_check_sum) (defBody s_check_sum) (defScope s_check_sum) .none kV5 dc5 pm5 an5 cd5 ct5), sl5⟩) (c5 : PySem.W.codeIn K cd5 "check_sum" = true) (k5 : PySem.W.keepIn K (.ref f5) = true)
    (a6 : PySem.W.nsIn K mainGlobals "write_four" = some (some (.ref f6))) (l6 : K.lookup f6 = some ⟨oc6, od6, .func (PySem.W.fnOf "write_four" "write_four" (defArgs s_write_four) (defBody s_write_four) (defScope s_write_four) .none kV6 dc6 pm6 an6 cd6 ct6), sl6⟩) (c6 : PySem.W.codeIn K cd6 "write_four" = true) (k6 : PySem.W.keepIn K (.ref f6) = true)
    (a7 : PySem.W.nsIn K mainGlobals "sum_bytes" = some (some (.ref f7))) (l7 : K.lookup f7 = some ⟨oc7, od7, .func (PySem.W.fnOf "sum_bytes" "sum_bytes" (defArgs s_sum_bytes) (defBody s_sum_bytes) (defScope s_sum_bytes) .none kV7 dc7 pm7 an7 cd7 ct7), sl7⟩) (c7 : PySem.W.codeIn K cd7 "sum_bytes" = true) (k7 : PySem.W.keepIn K (.ref f7) = true)
    (a8 : PySem.W.nsIn K mainGlobals "read_volume" = some (some (.ref f8))) (l8 : K.lookup f8 = some ⟨oc8, od8, .func (PySem.W.fnOf "read_volume" "read_volume" (defArgs s_read_volume) (defBody s_read_volume) (defScope s_read_volume) .none kV8 dc8 pm8 an8 cd8 ct8), sl8⟩) (c8 : PySem.W.codeIn K cd8 "read_volume" = true) (k8 : PySem.W.keepIn K (.ref f8) = true)
    (a9 : PySem.W.nsIn K mainGlobals "_law_is_refused" = some (some (.ref f9))) (l9 : K.lookup f9 = some ⟨oc9, od9, .func (PySem.W.fnOf "_law_is_refused" "_law_is_refused" (defArgs s_law_is_refused) (defBody s_law_is_refused) (defScope s_law_is_refused) .none kV9 dc9 pm9 an9 cd9 ct9), sl9⟩) (c9 : PySem.W.codeIn K cd9 "_law_is_refused" = true) (k9 : PySem.W.keepIn K (.ref f9) = true)
    (a10 : PySem.W.nsIn K mainGlobals "_law_digits" = some (some (.ref f10))) (l10 : K.lookup f10 = some ⟨oc10, od10, .func (PySem.W.fnOf "_law_digits" "_law_digits" (defArgs s_law_digits) (defBody s_law_digits) (defScope s_law_digits) .none kV10 dc10 pm10 an10 cd10 ct10), sl10⟩) (c10 : PySem.W.codeIn K cd10 "_law_digits" = true) (k10 : PySem.W.keepIn K (.ref f10) = true)
    (a11 : PySem.W.nsIn K mainGlobals "_law_pages" = some (some (.ref f11))) (l11 : K.lookup f11 = some ⟨oc11, od11, .func (PySem.W.fnOf "_law_pages" "_law_pages" (defArgs s_law_pages) (defBody s_law_pages) (defScope s_law_pages) .none kV11 dc11 pm11 an11 cd11 ct11), sl11⟩) (c11 : PySem.W.codeIn K cd11 "_law_pages" = true) (k11 : PySem.W.keepIn K (.ref f11) = true)
    (a12 : PySem.W.nsIn K mainGlobals "_law_sum" = some (some (.ref f12))) (l12 : K.lookup f12 = some ⟨oc12, od12, .func (PySem.W.fnOf "_law_sum" "_law_sum" (defArgs s_law_sum) (defBody s_law_sum) (defScope s_law_sum) .none kV12 dc12 pm12 an12 cd12 ct12), sl12⟩) (c12 : PySem.W.codeIn K cd12 "_law_sum" = true) (k12 : PySem.W.keepIn K (.ref f12) = true)
    (a13 : PySem.W.nsIn K mainGlobals "law" = some (some (.ref f13))) (l13 : K.lookup f13 = some ⟨oc13, od13, .func (PySem.W.fnOf "law" "law" (defArgs s_law) (defBody s_law) (defScope s_law) .none kV13 dc13 pm13 an13 cd13 ct13), sl13⟩) (c13 : PySem.W.codeIn K cd13 "law" = true) (k13 : PySem.W.keepIn K (.ref f13) = true)
    (z_int : PySem.W.nsIn K mainGlobals "int" = some none)
    (z_isinstance : PySem.W.nsIn K mainGlobals "isinstance" = some none)
    (z_len : PySem.W.nsIn K mainGlobals "len" = some none)
    (z_list : PySem.W.nsIn K mainGlobals "list" = some none)
    (z_range : PySem.W.nsIn K mainGlobals "range" = some none)
    (z_reversed : PySem.W.nsIn K mainGlobals "reversed" = some none)
    (y_BASE : PySem.W.nsIn K mainGlobals "BASE" = some (some (.int 128 tk_BASE)))
    (y_FOUR : PySem.W.nsIn K mainGlobals "FOUR" = some (some (.int 4 tk_FOUR)))
    (y_SUM_FACTOR : PySem.W.nsIn K mainGlobals "SUM_FACTOR" = some (some (.int 257 tk_SUM_FACTOR)))
    (y_SUM_LIMIT : PySem.W.nsIn K mainGlobals "SUM_LIMIT" = some (some (.int 4294967296 tk_SUM_LIMIT)))
    (y_SUM_START : PySem.W.nsIn K mainGlobals "SUM_START" = some (some (.int 5381 tk_SUM_START)))
    (gn_ : PySem.W.specialIn K (.builtin "object.__class__") "__get__" = some (some (.builtin "getset_descriptor.__get__")))
    (gt_ : PySem.W.takesIn K (.builtin "object.__class__") = some true)
    (aCorpusError : PySem.W.nsIn K mainGlobals "CorpusError" = some (some (.ref CCorpusError)))
    (hdCorpusError : PySem.W.hasDictIn K CCorpusError = true)
    (tyCorpusError : PySem.W.typeIn K (.ref CCorpusError) = some (.type "type"))
    (sbCorpusError : PySem.W.subIn K (.ref CCorpusError) (.type "BaseException") = some true)
    (kpCorpusError : PySem.W.keepIn K (.ref CCorpusError) = true)
    (gaCorpusError : PySem.W.findIn K (.ref CCorpusError) "__getattribute__" = some (some (.builtin "BaseException.__getattribute__")))
    (ggCorpusError : PySem.W.findIn K (.ref CCorpusError) "__getattr__" = some none)
    (hcCorpusError : PySem.W.findIn K (.ref CCorpusError) "__class__" = some (some (.builtin "object.__class__")))
    (hmCorpusError : PySem.W.mroIn K CCorpusError (.type "object") = some true)
    (exCorpusError : PySem.W.excIn K CCorpusError [.type "ValueError", .type "Exception", .type "BaseException", .type "object"] "ValueError.__new__" = true)
    (aInvalidBytes : PySem.W.nsIn K mainGlobals "InvalidBytes" = some (some (.ref CInvalidBytes)))
    (hdInvalidBytes : PySem.W.hasDictIn K CInvalidBytes = true)
    (tyInvalidBytes : PySem.W.typeIn K (.ref CInvalidBytes) = some (.type "type"))
    (sbInvalidBytes : PySem.W.subIn K (.ref CInvalidBytes) (.type "BaseException") = some true)
    (kpInvalidBytes : PySem.W.keepIn K (.ref CInvalidBytes) = true)
    (gaInvalidBytes : PySem.W.findIn K (.ref CInvalidBytes) "__getattribute__" = some (some (.builtin "BaseException.__getattribute__")))
    (ggInvalidBytes : PySem.W.findIn K (.ref CInvalidBytes) "__getattr__" = some none)
    (hcInvalidBytes : PySem.W.findIn K (.ref CInvalidBytes) "__class__" = some (some (.builtin "object.__class__")))
    (hmInvalidBytes : PySem.W.mroIn K CInvalidBytes (.type "object") = some true)
    (xlInvalidBytes : K.lookup CInvalidBytes = some (excClassObj nmInvalidBytes qqInvalidBytes CInvalidBytes NInvalidBytes bsInvalidBytes [.ref CCorpusError, .type "ValueError", .type "Exception", .type "BaseException", .type "object"] true snInvalidBytes suInvalidBytes abInvalidBytes coInvalidBytes ddInvalidBytes maInvalidBytes mbInvalidBytes mcInvalidBytes mdInvalidBytes meInvalidBytes "ValueError.__new__"))
    (saInvalidBytes : PySem.W.findIn K (.ref CInvalidBytes) "__setattr__" = some (some (.builtin "object.__setattr__")))
    (noInvalidBytes_at : PySem.W.findIn K (.ref CInvalidBytes) "at" = some none)
    (iiInvalidBytes : PySem.W.findIn K (.ref CInvalidBytes) "__init__" = some (some (.ref fiInvalidBytes)))
    (tiInvalidBytes : PySem.W.typeIn K (.ref fiInvalidBytes) = some (.type "function"))
    (liInvalidBytes : K.lookup fiInvalidBytes = some ⟨ociInvalidBytes, odiInvalidBytes, .func (PySem.W.fnOf "__init__" "InvalidBytes.__init__" (defArgs s_InvalidBytes_init__) (defBody s_InvalidBytes_init__) (defScope s_InvalidBytes_init__) .none kViInvalidBytes dciInvalidBytes pmiInvalidBytes aniInvalidBytes cdiInvalidBytes ctiInvalidBytes), sliInvalidBytes⟩)
    (ciInvalidBytes : PySem.W.codeIn K cdiInvalidBytes "InvalidBytes.__init__" = true)
    (kiInvalidBytes : PySem.W.keepIn K (.ref fiInvalidBytes) = true)
    (aByteReader : PySem.W.nsIn K mainGlobals "ByteReader" = some (some (.ref CByteReader)))
    (pgByteReader : PySem.W.plainGet K CByteReader Str.empty = true)
    (hdByteReader : PySem.W.hasDictIn K CByteReader = true)
    (poByteReader : PySem.W.plainOver K CByteReader = true)
    (saByteReader : PySem.W.findIn K (.ref CByteReader) "__setattr__" = some (some (.builtin "object.__setattr__")))
    (mkByteReader : PySem.W.makesIn K CByteReader = true)
    (kcByteReader : PySem.W.keepIn K (.ref CByteReader) = true)
    (naByteReader_data : PySem.W.findIn K (.ref CByteReader) "data" = some none)
    (naByteReader_at : PySem.W.findIn K (.ref CByteReader) "at" = some none)
    (maByteReader_init__ : PySem.W.findIn K (.ref CByteReader) "__init__" = some (some (.ref fByteReader_init__)))
    (miByteReader_init__ : PySem.W.isFn K (.ref fByteReader_init__) = true)
    (mlByteReader_init__ : K.lookup fByteReader_init__ = some ⟨ocByteReader_init__, odByteReader_init__, .func (PySem.W.fnOf "__init__" "ByteReader.__init__" (defArgs s_ByteReader_init__) (defBody s_ByteReader_init__) (defScope s_ByteReader_init__) .none kVByteReader_init__ dcByteReader_init__ pmByteReader_init__ anByteReader_init__ cdByteReader_init__ ctByteReader_init__), slByteReader_init__⟩)
    (mcByteReader_init__ : PySem.W.codeIn K cdByteReader_init__ "ByteReader.__init__" = true)
    (mk_ByteReader_init__ : PySem.W.keepIn K (.ref fByteReader_init__) = true)
    (maByteReader_take_byte : PySem.W.findIn K (.ref CByteReader) "take_byte" = some (some (.ref fByteReader_take_byte)))
    (miByteReader_take_byte : PySem.W.isFn K (.ref fByteReader_take_byte) = true)
    (mlByteReader_take_byte : K.lookup fByteReader_take_byte = some ⟨ocByteReader_take_byte, odByteReader_take_byte, .func (PySem.W.fnOf "take_byte" "ByteReader.take_byte" (defArgs s_ByteReader_take_byte) (defBody s_ByteReader_take_byte) (defScope s_ByteReader_take_byte) .none kVByteReader_take_byte dcByteReader_take_byte pmByteReader_take_byte anByteReader_take_byte cdByteReader_take_byte ctByteReader_take_byte), slByteReader_take_byte⟩)
    (mcByteReader_take_byte : PySem.W.codeIn K cdByteReader_take_byte "ByteReader.take_byte" = true)
    (mk_ByteReader_take_byte : PySem.W.keepIn K (.ref fByteReader_take_byte) = true)
    (maByteReader_take_number : PySem.W.findIn K (.ref CByteReader) "take_number" = some (some (.ref fByteReader_take_number)))
    (miByteReader_take_number : PySem.W.isFn K (.ref fByteReader_take_number) = true)
    (mlByteReader_take_number : K.lookup fByteReader_take_number = some ⟨ocByteReader_take_number, odByteReader_take_number, .func (PySem.W.fnOf "take_number" "ByteReader.take_number" (defArgs s_ByteReader_take_number) (defBody s_ByteReader_take_number) (defScope s_ByteReader_take_number) .none kVByteReader_take_number dcByteReader_take_number pmByteReader_take_number anByteReader_take_number cdByteReader_take_number ctByteReader_take_number), slByteReader_take_number⟩)
    (mcByteReader_take_number : PySem.W.codeIn K cdByteReader_take_number "ByteReader.take_number" = true)
    (mk_ByteReader_take_number : PySem.W.keepIn K (.ref fByteReader_take_number) = true)
    (maByteReader_take_numbers : PySem.W.findIn K (.ref CByteReader) "take_numbers" = some (some (.ref fByteReader_take_numbers)))
    (miByteReader_take_numbers : PySem.W.isFn K (.ref fByteReader_take_numbers) = true)
    (mlByteReader_take_numbers : K.lookup fByteReader_take_numbers = some ⟨ocByteReader_take_numbers, odByteReader_take_numbers, .func (PySem.W.fnOf "take_numbers" "ByteReader.take_numbers" (defArgs s_ByteReader_take_numbers) (defBody s_ByteReader_take_numbers) (defScope s_ByteReader_take_numbers) .none kVByteReader_take_numbers dcByteReader_take_numbers pmByteReader_take_numbers anByteReader_take_numbers cdByteReader_take_numbers ctByteReader_take_numbers), slByteReader_take_numbers⟩)
    (mcByteReader_take_numbers : PySem.W.codeIn K cdByteReader_take_numbers "ByteReader.take_numbers" = true)
    (mk_ByteReader_take_numbers : PySem.W.keepIn K (.ref fByteReader_take_numbers) = true)
    (maByteReader_take_end : PySem.W.findIn K (.ref CByteReader) "take_end" = some (some (.ref fByteReader_take_end)))
    (miByteReader_take_end : PySem.W.isFn K (.ref fByteReader_take_end) = true)
    (mlByteReader_take_end : K.lookup fByteReader_take_end = some ⟨ocByteReader_take_end, odByteReader_take_end, .func (PySem.W.fnOf "take_end" "ByteReader.take_end" (defArgs s_ByteReader_take_end) (defBody s_ByteReader_take_end) (defScope s_ByteReader_take_end) .none kVByteReader_take_end dcByteReader_take_end pmByteReader_take_end anByteReader_take_end cdByteReader_take_end ctByteReader_take_end), slByteReader_take_end⟩)
    (mcByteReader_take_end : PySem.W.codeIn K cdByteReader_take_end "ByteReader.take_end" = true)
    (mk_ByteReader_take_end : PySem.W.keepIn K (.ref fByteReader_take_end) = true)
    (suCorpusError_CorpusError : PySem.W.subIn K (.ref CCorpusError) (.ref CCorpusError) = some true)
    (ktCorpusError_CorpusError : PySem.W.kitOne K (.ref CCorpusError) (.ref CCorpusError) = some true)
    (suCorpusError_InvalidBytes : PySem.W.subIn K (.ref CCorpusError) (.ref CInvalidBytes) = some false)
    (ktCorpusError_InvalidBytes : PySem.W.kitOne K (.ref CCorpusError) (.ref CInvalidBytes) = some false)
    (suInvalidBytes_CorpusError : PySem.W.subIn K (.ref CInvalidBytes) (.ref CCorpusError) = some true)
    (ktInvalidBytes_CorpusError : PySem.W.kitOne K (.ref CInvalidBytes) (.ref CCorpusError) = some true)
    (suInvalidBytes_InvalidBytes : PySem.W.subIn K (.ref CInvalidBytes) (.ref CInvalidBytes) = some true)
    (ktInvalidBytes_InvalidBytes : PySem.W.kitOne K (.ref CInvalidBytes) (.ref CInvalidBytes) = some true)
    : ∃ fd : FuncData, (∀ (s : Shared) (v : Value), BindsTo s fd ⟨[v], []⟩ [("script", v)]) ∧ ∀ base : Heap, K.In base → base.Ns mainGlobals mg → FnOk l.prog w K mg base CX0 20 fa fd ["script"] (SpL K) := by
  have e := hfa.symm.trans (PySem.W.mg_of X G a13)
  cases e
  have F0 := fun_mk (st := s_law_number) l0 c0 k0
  have B0 := F0.binds (ps := ["n"]) fun _ _ _ _ _ _ us hl => match us, hl with | [_], _ => rfl
  have F1 := fun_mk (st := s_law_body) l1 c1 k1
  have B1 := F1.binds (ps := ["pages"]) fun _ _ _ _ _ _ us hl => match us, hl with | [_], _ => rfl
  have F2 := fun_mk (st := s_law_cell) l2 c2 k2
  have B2 := F2.binds (ps := ["script", "k"]) fun _ _ _ _ _ _ us hl => match us, hl with | [_, _], _ => rfl
  have F3 := fun_mk (st := s_wall) l3 c3 k3
  have B3 := F3.binds (ps := ["k"]) fun _ _ _ _ _ _ us hl => match us, hl with | [_], _ => rfl
  have F4 := fun_mk (st := s_read_number) l4 c4 k4
  have B4 := F4.binds (ps := ["data", "at"]) fun _ _ _ _ _ _ us hl => match us, hl with | [_, _], _ => rfl
  have F5 := fun_mk (st := s_check_sum) l5 c5 k5
  have B5 := F5.binds (ps := ["data"]) fun _ _ _ _ _ _ us hl => match us, hl with | [_], _ => rfl
  have F6 := fun_mk (st := s_write_four) l6 c6 k6
  have B6 := F6.binds (ps := ["n"]) fun _ _ _ _ _ _ us hl => match us, hl with | [_], _ => rfl
  have F7 := fun_mk (st := s_sum_bytes) l7 c7 k7
  have B7 := F7.binds (ps := ["data"]) fun _ _ _ _ _ _ us hl => match us, hl with | [_], _ => rfl
  have F8 := fun_mk (st := s_read_volume) l8 c8 k8
  have B8 := F8.binds (ps := ["data"]) fun _ _ _ _ _ _ us hl => match us, hl with | [_], _ => rfl
  have F9 := fun_mk (st := s_law_is_refused) l9 c9 k9
  have B9 := F9.binds (ps := ["data"]) fun _ _ _ _ _ _ us hl => match us, hl with | [_], _ => rfl
  have F10 := fun_mk (st := s_law_digits) l10 c10 k10
  have B10 := F10.binds (ps := ["cell", "k", "most"]) fun _ _ _ _ _ _ us hl => match us, hl with | [_, _, _], _ => rfl
  have F11 := fun_mk (st := s_law_pages) l11 c11 k11
  have B11 := F11.binds (ps := ["script"]) fun _ _ _ _ _ _ us hl => match us, hl with | [_], _ => rfl
  have F12 := fun_mk (st := s_law_sum) l12 c12 k12
  have B12 := F12.binds (ps := ["data"]) fun _ _ _ _ _ _ us hl => match us, hl with | [_], _ => rfl
  have F13 := fun_mk (st := s_law) l13 c13 k13
  have B13 := F13.binds (ps := ["script"]) fun _ _ _ _ _ _ us hl => match us, hl with | [_], _ => rfl
  have FIInvalidBytes := fun_mk (st := s_InvalidBytes_init__) liInvalidBytes ciInvalidBytes kiInvalidBytes
  have BIInvalidBytes := FIInvalidBytes.binds (ps := ["self", "at"]) fun _ _ _ _ _ _ us hl => match us, hl with | [_, _], _ => rfl
  have MFByteReader_init__ := fun_mk (st := s_ByteReader_init__) mlByteReader_init__ mcByteReader_init__ mk_ByteReader_init__
  have MBByteReader_init__ := MFByteReader_init__.binds (ps := ["self", "data"]) fun _ _ _ _ _ _ us hl => match us, hl with | [_, _], _ => rfl
  have MFByteReader_take_byte := fun_mk (st := s_ByteReader_take_byte) mlByteReader_take_byte mcByteReader_take_byte mk_ByteReader_take_byte
  have MBByteReader_take_byte := MFByteReader_take_byte.binds (ps := ["self", "least", "most"]) fun _ _ _ _ _ _ us hl => match us, hl with | [_, _, _], _ => rfl
  have MFByteReader_take_number := fun_mk (st := s_ByteReader_take_number) mlByteReader_take_number mcByteReader_take_number mk_ByteReader_take_number
  have MBByteReader_take_number := MFByteReader_take_number.binds (ps := ["self"]) fun _ _ _ _ _ _ us hl => match us, hl with | [_], _ => rfl
  have MFByteReader_take_numbers := fun_mk (st := s_ByteReader_take_numbers) mlByteReader_take_numbers mcByteReader_take_numbers mk_ByteReader_take_numbers
  have MBByteReader_take_numbers := MFByteReader_take_numbers.binds (ps := ["self"]) fun _ _ _ _ _ _ us hl => match us, hl with | [_], _ => rfl
  have MFByteReader_take_end := fun_mk (st := s_ByteReader_take_end) mlByteReader_take_end mcByteReader_take_end mk_ByteReader_take_end
  have MBByteReader_take_end := MFByteReader_take_end.binds (ps := ["self"]) fun _ _ _ _ _ _ us hl => match us, hl with | [_], _ => rfl
  exact ⟨_, fun s v => .of_eq rfl, fun base _ _ => ok_law (⟨_, _, F0, B0, PySem.W.mg_of X G a0, _, _, F1, B1, PySem.W.mg_of X G a1, _, _, F2, B2, PySem.W.mg_of X G a2, _, _, F3, B3, PySem.W.mg_of X G a3, _, _, F4, B4, PySem.W.mg_of X G a4, _, _, F5, B5, PySem.W.mg_of X G a5, _, _, F6, B6, PySem.W.mg_of X G a6, _, _, F7, B7, PySem.W.mg_of X G a7, _, _, F8, B8, PySem.W.mg_of X G a8, _, _, F9, B9, PySem.W.mg_of X G a9, _, _, F10, B10, PySem.W.mg_of X G a10, _, _, F11, B11, PySem.W.mg_of X G a11, _, _, F12, B12, PySem.W.mg_of X G a12, _, _, F13, B13, PySem.W.mg_of X G a13, PySem.W.mg_none_of X G z_int, PySem.W.mg_none_of X G z_isinstance, PySem.W.mg_none_of X G z_len, PySem.W.mg_none_of X G z_list, PySem.W.mg_none_of X G z_range, PySem.W.mg_none_of X G z_reversed, _, PySem.W.mg_of X G y_BASE, _, PySem.W.mg_of X G y_FOUR, _, PySem.W.mg_of X G y_SUM_FACTOR, _, PySem.W.mg_of X G y_SUM_LIMIT, _, PySem.W.mg_of X G y_SUM_START, CCorpusError, PySem.W.mg_of X G aCorpusError, hdCorpusError, tyCorpusError, sbCorpusError, kpCorpusError, ⟨isSome_dict hdCorpusError, gaCorpusError, ggCorpusError, sbCorpusError, hcCorpusError, gn_, gt_, hmCorpusError⟩, exCorpusError, CInvalidBytes, PySem.W.mg_of X G aInvalidBytes, hdInvalidBytes, tyInvalidBytes, sbInvalidBytes, kpInvalidBytes, ⟨isSome_dict hdInvalidBytes, gaInvalidBytes, ggInvalidBytes, sbInvalidBytes, hcInvalidBytes, gn_, gt_, hmInvalidBytes⟩, ⟨⟨_, _, _, _, _, _, _, _, _, _, _, _, _, _, _, xlInvalidBytes, by rfl⟩, saInvalidBytes, sbInvalidBytes, tyInvalidBytes, kpInvalidBytes⟩, ⟨gaInvalidBytes, ggInvalidBytes, sbInvalidBytes, hdInvalidBytes⟩, noInvalidBytes_at, _, _, FIInvalidBytes, BIInvalidBytes, iiInvalidBytes, tiInvalidBytes, CByteReader, PySem.W.mg_of X G aByteReader, ⟨pgByteReader, hdByteReader, poByteReader, saByteReader⟩, naByteReader_data, naByteReader_at, _, _, MFByteReader_init__, MBByteReader_init__, ⟨mkByteReader, maByteReader_init__, miByteReader_init__, kcByteReader⟩, _, _, MFByteReader_take_byte, MBByteReader_take_byte, ⟨maByteReader_take_byte, miByteReader_take_byte, mk_ByteReader_take_byte⟩, _, _, MFByteReader_take_number, MBByteReader_take_number, ⟨maByteReader_take_number, miByteReader_take_number, mk_ByteReader_take_number⟩, _, _, MFByteReader_take_numbers, MBByteReader_take_numbers, ⟨maByteReader_take_numbers, miByteReader_take_numbers, mk_ByteReader_take_numbers⟩, _, _, MFByteReader_take_end, MBByteReader_take_end, ⟨maByteReader_take_end, miByteReader_take_end, mk_ByteReader_take_end⟩, suCorpusError_CorpusError, ktCorpusError_CorpusError, suCorpusError_InvalidBytes, ktCorpusError_InvalidBytes, suInvalidBytes_CorpusError, ktInvalidBytes_CorpusError, suInvalidBytes_InvalidBytes, ktInvalidBytes_InvalidBytes⟩ : Tx K mg)⟩

end NS
open PySem PySem.W PyProof.Rows
set_option maxHeartbeats 0 in
theorem PySem.Challenge.cw_corpuskeep_k53_volumes_damage_is_seen_holds : PySem.Challenge.rw_corpuskeep_k53_volumes_damage_is_seen.Holds := by
  w_on; o_law; k_head; (case hw => w_witness2)
  k_fill
  refine L2.walk_of (l := PySem.Challenge.rw_corpuskeep_k53_volumes_damage_is_seen) (n := 63) (k := 20) (x := "script") (CX := fun _ => L2.CX0) (sp := fun w => NS.SpL _) rfl (by decide) rfl ⟨rfl, by decide, by decide⟩ (fun w h Y => PySem.W.kIn_of Y) ?F (fun _ _ a ns hl _ hS => Pu.spL_start hS hl) (fun _ _ _ _ _ h => h)
  case F =>
    intro w mg fa h KX G hmg
    refine' NS.all_mk KX G hmg ?a0 ?l0 ?c0 ?k0 ?a1 ?l1 ?c1 ?k1 ?a2 ?l2 ?c2 ?k2 ?a3 ?l3 ?c3 ?k3 ?a4 ?l4 ?c4 ?k4 ?a5 ?l5 ?c5 ?k5 ?a6 ?l6 ?c6 ?k6 ?a7 ?l7 ?c7 ?k7 ?a8 ?l8 ?c8 ?k8 ?a9 ?l9 ?c9 ?k9 ?a10 ?l10 ?c10 ?k10 ?a11 ?l11 ?c11 ?k11 ?a12 ?l12 ?c12 ?k12 ?a13 ?l13 ?c13 ?k13 ?z_int ?z_isinstance ?z_len ?z_list ?z_range ?z_reversed ?y_BASE ?y_FOUR ?y_SUM_FACTOR ?y_SUM_LIMIT ?y_SUM_START ?gn_ ?gt_ ?aCorpusError ?hdCorpusError ?tyCorpusError ?sbCorpusError ?kpCorpusError ?gaCorpusError ?ggCorpusError ?hcCorpusError ?hmCorpusError ?exCorpusError ?aInvalidBytes ?hdInvalidBytes ?tyInvalidBytes ?sbInvalidBytes ?kpInvalidBytes ?gaInvalidBytes ?ggInvalidBytes ?hcInvalidBytes ?hmInvalidBytes ?xlInvalidBytes ?saInvalidBytes ?noInvalidBytes_at ?iiInvalidBytes ?tiInvalidBytes ?liInvalidBytes ?ciInvalidBytes ?kiInvalidBytes ?aByteReader ?pgByteReader ?hdByteReader ?poByteReader ?saByteReader ?mkByteReader ?kcByteReader ?naByteReader_data ?naByteReader_at ?maByteReader_init__ ?miByteReader_init__ ?mlByteReader_init__ ?mcByteReader_init__ ?mk_ByteReader_init__ ?maByteReader_take_byte ?miByteReader_take_byte ?mlByteReader_take_byte ?mcByteReader_take_byte ?mk_ByteReader_take_byte ?maByteReader_take_number ?miByteReader_take_number ?mlByteReader_take_number ?mcByteReader_take_number ?mk_ByteReader_take_number ?maByteReader_take_numbers ?miByteReader_take_numbers ?mlByteReader_take_numbers ?mcByteReader_take_numbers ?mk_ByteReader_take_numbers ?maByteReader_take_end ?miByteReader_take_end ?mlByteReader_take_end ?mcByteReader_take_end ?mk_ByteReader_take_end ?suCorpusError_CorpusError ?ktCorpusError_CorpusError ?suCorpusError_InvalidBytes ?ktCorpusError_InvalidBytes ?suInvalidBytes_CorpusError ?ktInvalidBytes_CorpusError ?suInvalidBytes_InvalidBytes ?ktInvalidBytes_InvalidBytes
    (case a0 => first | k_is | rfl); (case l0 => first | k_is | rfl); (case c0 => first | k_is | rfl); (case k0 => first | k_is | rfl); (case a1 => first | k_is | rfl); (case l1 => first | k_is | rfl); (case c1 => first | k_is | rfl); (case k1 => first | k_is | rfl); (case a2 => first | k_is | rfl); (case l2 => first | k_is | rfl); (case c2 => first | k_is | rfl); (case k2 => first | k_is | rfl); (case a3 => first | k_is | rfl); (case l3 => first | k_is | rfl); (case c3 => first | k_is | rfl); (case k3 => first | k_is | rfl); (case a4 => first | k_is | rfl); (case l4 => first | k_is | rfl); (case c4 => first | k_is | rfl); (case k4 => first | k_is | rfl); (case a5 => first | k_is | rfl); (case l5 => first | k_is | rfl); (case c5 => first | k_is | rfl); (case k5 => first | k_is | rfl); (case a6 => first | k_is | rfl); (case l6 => first | k_is | rfl); (case c6 => first | k_is | rfl); (case k6 => first | k_is | rfl); (case a7 => first | k_is | rfl); (case l7 => first | k_is | rfl); (case c7 => first | k_is | rfl); (case k7 => first | k_is | rfl); (case a8 => first | k_is | rfl); (case l8 => first | k_is | rfl); (case c8 => first | k_is | rfl); (case k8 => first | k_is | rfl); (case a9 => first | k_is | rfl); (case l9 => first | k_is | rfl); (case c9 => first | k_is | rfl); (case k9 => first | k_is | rfl); (case a10 => first | k_is | rfl); (case l10 => first | k_is | rfl); (case c10 => first | k_is | rfl); (case k10 => first | k_is | rfl); (case a11 => first | k_is | rfl); (case l11 => first | k_is | rfl); (case c11 => first | k_is | rfl); (case k11 => first | k_is | rfl); (case a12 => first | k_is | rfl); (case l12 => first | k_is | rfl); (case c12 => first | k_is | rfl); (case k12 => first | k_is | rfl); (case a13 => first | k_is | rfl); (case l13 => first | k_is | rfl); (case c13 => first | k_is | rfl); (case k13 => first | k_is | rfl); (case z_int => first | k_is | rfl); (case z_isinstance => first | k_is | rfl); (case z_len => first | k_is | rfl); (case z_list => first | k_is | rfl); (case z_range => first | k_is | rfl); (case z_reversed => first | k_is | rfl); (case y_BASE => first | k_is | rfl); (case y_FOUR => first | k_is | rfl); (case y_SUM_FACTOR => first | k_is | rfl); (case y_SUM_LIMIT => first | k_is | rfl); (case y_SUM_START => first | k_is | rfl); (case gn_ => first | k_is | rfl); (case gt_ => first | k_is | rfl); (case aCorpusError => first | k_is | rfl); (case hdCorpusError => first | k_is | rfl); (case tyCorpusError => first | k_is | rfl); (case sbCorpusError => first | k_is | rfl); (case kpCorpusError => first | k_is | rfl); (case gaCorpusError => first | k_is | rfl); (case ggCorpusError => first | k_is | rfl); (case hcCorpusError => first | k_is | rfl); (case hmCorpusError => first | k_is | rfl); (case exCorpusError => k_exc); (case aInvalidBytes => first | k_is | rfl); (case hdInvalidBytes => first | k_is | rfl); (case tyInvalidBytes => first | k_is | rfl); (case sbInvalidBytes => first | k_is | rfl); (case kpInvalidBytes => first | k_is | rfl); (case gaInvalidBytes => first | k_is | rfl); (case ggInvalidBytes => first | k_is | rfl); (case hcInvalidBytes => first | k_is | rfl); (case hmInvalidBytes => first | k_is | rfl); (case xlInvalidBytes => first | k_is | rfl); (case saInvalidBytes => first | k_is | rfl); (case noInvalidBytes_at => first | k_is | rfl); (case iiInvalidBytes => first | k_is | rfl); (case tiInvalidBytes => first | k_is | rfl); (case liInvalidBytes => first | k_is | rfl); (case ciInvalidBytes => first | k_is | rfl); (case kiInvalidBytes => first | k_is | rfl); (case aByteReader => first | k_is | rfl); (case pgByteReader => first | k_is | rfl); (case hdByteReader => first | k_is | rfl); (case poByteReader => first | k_is | rfl); (case saByteReader => first | k_is | rfl); (case mkByteReader => first | k_is | rfl); (case kcByteReader => first | k_is | rfl); (case naByteReader_data => first | k_is | rfl); (case naByteReader_at => first | k_is | rfl); (case maByteReader_init__ => first | k_is | rfl); (case miByteReader_init__ => first | k_is | rfl); (case mlByteReader_init__ => first | k_is | rfl); (case mcByteReader_init__ => first | k_is | rfl); (case mk_ByteReader_init__ => first | k_is | rfl); (case maByteReader_take_byte => first | k_is | rfl); (case miByteReader_take_byte => first | k_is | rfl); (case mlByteReader_take_byte => first | k_is | rfl); (case mcByteReader_take_byte => first | k_is | rfl); (case mk_ByteReader_take_byte => first | k_is | rfl); (case maByteReader_take_number => first | k_is | rfl); (case miByteReader_take_number => first | k_is | rfl); (case mlByteReader_take_number => first | k_is | rfl); (case mcByteReader_take_number => first | k_is | rfl); (case mk_ByteReader_take_number => first | k_is | rfl); (case maByteReader_take_numbers => first | k_is | rfl); (case miByteReader_take_numbers => first | k_is | rfl); (case mlByteReader_take_numbers => first | k_is | rfl); (case mcByteReader_take_numbers => first | k_is | rfl); (case mk_ByteReader_take_numbers => first | k_is | rfl); (case maByteReader_take_end => first | k_is | rfl); (case miByteReader_take_end => first | k_is | rfl); (case mlByteReader_take_end => first | k_is | rfl); (case mcByteReader_take_end => first | k_is | rfl); (case mk_ByteReader_take_end => first | k_is | rfl); (case suCorpusError_CorpusError => first | k_is | rfl); (case ktCorpusError_CorpusError => first | k_is | rfl); (case suCorpusError_InvalidBytes => first | k_is | rfl); (case ktCorpusError_InvalidBytes => first | k_is | rfl); (case suInvalidBytes_CorpusError => first | k_is | rfl); (case ktInvalidBytes_CorpusError => first | k_is | rfl); (case suInvalidBytes_InvalidBytes => first | k_is | rfl); (case ktInvalidBytes_InvalidBytes => first | k_is | rfl)
