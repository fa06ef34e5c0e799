import PyProof.Rows.All
import Wide.All
import OpenK.AllK
import Wide.FinOn
import HandS.ForMost
import HandS.Exc
import HandS.TryOnly
import HandS.ExcOwn
import HandS.WordsExc
import HandS.ExcCtx
import HandS.HotCalls
import HandS.ExcInitHot
import HandS.ExcField
import HandS.Property
import HandS.OwnIter
import HandS.OwnEq
import HandS.Star
import HandS.Walk
import HandS.Zip
import HandS.IsInst
import KE.GoesEnum
import HandS.Replace
import HandS.IterVal
import HandS.ExcIs
import KE.KExcIs
import PyProof.StrLawsFirst
import HandS.Style
import PyProof.Rows.StrMul
import HandS.ClsMeth
import HandS.TupAny
import HandS.TupMul
import PySem.Challenge.RW_tailheard_k01_drills_led
import HandS.Defaults
import HandS.Head0
import HandS.Head1
import HandS.Head2
import HandS.HeadEnd
import HandS.HeadHook1
import KE.KStateDown
set_option Elab.async false
set_option linter.all false
set_option maxRecDepth 100000
section
set_option maxHeartbeats 4000000
/-! Vl: a logic of plain values over the hand layer: what an expression or a block of the text gives, told of data without a heap. -/
namespace Vl
open PySem PySem.Spec PyProof.Rows L2

/-! ### data -/
inductive D where
  | non | bl (b : Bool) | int (i : Int) | str (x : Str) | ty (n : String) | cl (k : Nat)
  | lst (xs : List D) | tup (xs : List D)
  | obj (c : Nat) (fs : List (Str × D))
  | own (k : Nat)
  deriving Inhabited

/-- the law's draw list at dr: its cells at cl -/
def DrawAt (dr cl : Addr) (ns : List Int) (H : Hp) : Prop := ∃ i1 i2 i3 i4 i5 : Int, 0 ≤ i1 ∧ H cl = some (.lst (ns.map V.int)) ∧ H dr = some (.lst [.ref cl, .int i1, .int i2, .int i3, .int i4, .int i5])
/-- what the run has made besides data: base its objects, mv those that everybody may change; dr the one that data may name: a draw list (kind 1), a list of whole numbers (kind 2), nothing (kind 0) -/
structure Wd (cls : Nat → Addr) where
  dr : Addr
  cl : Addr
  ns : List Int
  kind : Nat
  mv : Addr → Prop
  base : Addr → Prop
  ok : Hp → Prop
  mvb : ∀ a, mv a → base a
  some : ∀ H, ok H → ∀ a, base a → H a ≠ Option.none
  keep : ∀ H H', ok H → (∀ a, base a → H' a = H a) → ok H'
  dmv : kind = 1 → mv dr ∧ cl ≠ dr ∧ ns.length ≤ 63
  dok : kind = 1 → ∀ H, ok H → DrawAt dr cl ns H
  dset : kind = 1 → ∀ H H', ok H → (∀ a, a ≠ dr → base a → H' a = H a) → DrawAt dr cl ns H' → ok H'
  cok : kind = 2 → ∀ H, ok H → H dr = Option.some (.lst (ns.map V.int)) ∧ ns.length ≤ 63
/-- none of the region may be changed -/
def Wd.nd {cls : Nat → Addr} (W : Wd cls) (R : Addr → Prop) : Prop := ∀ a, W.mv a → ¬ R a

variable {cls : Nat → Addr}

mutual
inductive Dq (W : Wd cls) (R : Addr → Prop) (H : Hp) : V → D → Prop
  | non : Dq W R H .non .non
  | bl (b : Bool) : Dq W R H (.bl b) (.bl b)
  | int (i : Int) : Dq W R H (.int i) (.int i)
  | str (x : Str) : Dq W R H (.str x) (.str x)
  | ty (n : String) : Dq W R H (.ty n) (.ty n)
  | cl (k : Nat) : Dq W R H (.ref (cls k)) (.cl k)
  | lst {a : Addr} {vs : List V} {ds : List D} : R a → H a = some (.lst vs) → DqL W R H vs ds → Dq W R H (.ref a) (.lst ds)
  | tup {a : Addr} {vs : List V} {ds : List D} : R a → H a = some (.tup vs) → DqL W R H vs ds → Dq W R H (.ref a) (.tup ds)
  | obj {a dx : Addr} {c : Nat} {fs : List (Str × V)} {gs : List (Str × D)} : R a → H a = some (.ins (cls c) dx fs) → DqF W R H fs gs → Dq W R H (.ref a) (.obj c gs)
  | own {k : Nat} : W.kind = k → Dq W R H (.ref W.dr) (.own k)
inductive DqL (W : Wd cls) (R : Addr → Prop) (H : Hp) : List V → List D → Prop
  | nil : DqL W R H [] []
  | cons {v : V} {d : D} {vs : List V} {ds : List D} : Dq W R H v d → DqL W R H vs ds → DqL W R H (v :: vs) (d :: ds)
inductive DqF (W : Wd cls) (R : Addr → Prop) (H : Hp) : List (Str × V) → List (Str × D) → Prop
  | nil : DqF W R H [] []
  | cons {f : Str} {v : V} {d : D} {fs : List (Str × V)} {gs : List (Str × D)} : Dq W R H v d → DqF W R H fs gs → DqF W R H ((f, v) :: fs) ((f, d) :: gs)
end

section
variable {W : Wd cls} {R R' : Addr → Prop} {H H' H'' : Hp}
/-- all but the one list is as it was -/
def Gr (W : Wd cls) (H H' : Hp) : Prop := ∀ a o, ¬ W.mv a → H a = some o → H' a = some o
/-- of the region, or new -/
def Nw (R : Addr → Prop) (H : Hp) : Addr → Prop := fun a => R a ∨ H a = Option.none

theorem Gr.refl : Gr W H H := fun _ _ _ h => h
theorem Gr.trans (a : Gr W H H') (b : Gr W H' H'') : Gr W H H'' := fun x o n h => b x o n (a x o n h)
theorem Gr.of_same (h : Same H H') : Gr W H H' := fun a o _ e => h a o e
theorem ok_same (ok : W.ok H) (h : Same H H') : W.ok H' := W.keep H H' ok fun a b => by
  cases e : H a with
  | none => exact absurd e (W.some H ok a b)
  | some o => exact h a o e

mutual
theorem Dq.mono2 (h : ∀ a o, R a → H a = some o → R' a ∧ H' a = some o) : ∀ {v : V} {d : D}, Dq W R H v d → Dq W R' H' v d
  | _, _, .non => .non
  | _, _, .bl b => .bl b
  | _, _, .int i => .int i
  | _, _, .str x => .str x
  | _, _, .ty n => .ty n
  | _, _, .cl n => .cl n
  | _, _, .lst r e q => .lst (h _ _ r e).1 (h _ _ r e).2 (DqL.mono2 h q)
  | _, _, .tup r e q => .tup (h _ _ r e).1 (h _ _ r e).2 (DqL.mono2 h q)
  | _, _, .obj r e q => .obj (h _ _ r e).1 (h _ _ r e).2 (DqF.mono2 h q)
  | _, _, .own e => .own e
theorem DqL.mono2 (h : ∀ a o, R a → H a = some o → R' a ∧ H' a = some o) : ∀ {vs : List V} {ds : List D}, DqL W R H vs ds → DqL W R' H' vs ds
  | _, _, .nil => .nil
  | _, _, .cons q r => .cons (Dq.mono2 h q) (DqL.mono2 h r)
theorem DqF.mono2 (h : ∀ a o, R a → H a = some o → R' a ∧ H' a = some o) : ∀ {fs : List (Str × V)} {gs : List (Str × D)}, DqF W R H fs gs → DqF W R' H' fs gs
  | _, _, .nil => .nil
  | _, _, .cons q r => .cons (Dq.mono2 h q) (DqF.mono2 h r)
end
theorem Dq.mono (hR : ∀ a, R a → R' a) (hH : ∀ a o, R a → H a = some o → H' a = some o) {v : V} {d : D} (q : Dq W R H v d) : Dq W R' H' v d := q.mono2 fun a o r e => ⟨hR a r, hH a o r e⟩
theorem DqL.mono (hR : ∀ a, R a → R' a) (hH : ∀ a o, R a → H a = some o → H' a = some o) {v : List V} {d : List D} (q : DqL W R H v d) : DqL W R' H' v d := q.mono2 fun a o r e => ⟨hR a r, hH a o r e⟩
theorem DqF.mono (hR : ∀ a, R a → R' a) (hH : ∀ a o, R a → H a = some o → H' a = some o) {v : List (Str × V)} {d : List (Str × D)} (q : DqF W R H v d) : DqF W R' H' v d := q.mono2 fun a o r e => ⟨hR a r, hH a o r e⟩
/-- what stands of the region -/
def Al (R : Addr → Prop) (H : Hp) : Addr → Prop := fun a => R a ∧ H a ≠ Option.none
theorem al_of : ∀ a o, R a → H a = some o → Al R H a ∧ H a = some o := fun a o r e => ⟨⟨r, fun z => by rw [e] at z; cases z⟩, e⟩
theorem Dq.alive {v : V} {d : D} (q : Dq W R H v d) : Dq W (Al R H) H v d := q.mono2 al_of
theorem DqL.alive {v : List V} {d : List D} (q : DqL W R H v d) : DqL W (Al R H) H v d := q.mono2 al_of
theorem DqF.alive {v : List (Str × V)} {d : List (Str × D)} (q : DqF W R H v d) : DqF W (Al R H) H v d := q.mono2 al_of
theorem hH_of (hd : W.nd R) (g : Gr W H H') : ∀ a o, R a → H a = some o → H' a = some o := fun a o r e => g a o (fun z => hd a z r) e
theorem Dq.grow (hd : W.nd R) (g : Gr W H H') {v : V} {d : D} (q : Dq W R H v d) : Dq W (Nw R H) H' v d := q.mono (fun _ r => .inl r) (hH_of hd g)
theorem DqL.grow (hd : W.nd R) (g : Gr W H H') {v : List V} {d : List D} (q : DqL W R H v d) : DqL W (Nw R H) H' v d := q.mono (fun _ r => .inl r) (hH_of hd g)
theorem DqF.grow (hd : W.nd R) (g : Gr W H H') {v : List (Str × V)} {d : List (Str × D)} (q : DqF W R H v d) : DqF W (Nw R H) H' v d := q.mono (fun _ r => .inl r) (hH_of hd g)
theorem Dq.wide {v : V} {d : D} (h : ∀ a, R a → R' a) (q : Dq W R H v d) : Dq W R' H v d := q.mono h fun _ _ _ e => e
theorem DqL.wide {v : List V} {d : List D} (h : ∀ a, R a → R' a) (q : DqL W R H v d) : DqL W R' H v d := q.mono h fun _ _ _ e => e
theorem DqF.wide {v : List (Str × V)} {d : List (Str × D)} (h : ∀ a, R a → R' a) (q : DqF W R H v d) : DqF W R' H v d := q.mono h fun _ _ _ e => e

theorem nw_dr (ok : W.ok H) (hd : W.nd R) : W.nd (Nw R H) := fun a m z => z.elim (hd a m) (W.some H ok _ (W.mvb _ m))
/-- new since later is new -/
theorem none_back (ok' : W.ok H') (g : Gr W H H') {a : Addr} (h : H' a = Option.none) : H a = Option.none := by
  cases e : H a with
  | none => rfl
  | some o =>
    have n : ¬ W.mv a := fun z => W.some H' ok' _ (W.mvb _ z) h
    rw [g a o n e] at h
    cases h
theorem nw_nw (ok' : W.ok H') (g : Gr W H H') : ∀ a, Nw (Nw R H) H' a → Nw R H a := fun a z => z.elim id fun z => .inr (none_back ok' g z)

theorem DqL.length : ∀ {vs : List V} {ds : List D}, DqL W R H vs ds → vs.length = ds.length
  | _, _, .nil => rfl
  | _, _, .cons _ r => by rw [List.length_cons, List.length_cons, r.length]
theorem DqL.get : ∀ {vs : List V} {ds : List D} {i : Nat} {d : D}, DqL W R H vs ds → ds[i]? = some d → ∃ v, vs[i]? = some v ∧ Dq W R H v d
  | _, _, _, _, .nil, e => by simp at e
  | _, _, 0, _, .cons q _, e => by simp at e; subst e; exact ⟨_, rfl, q⟩
  | _, _, i + 1, _, .cons _ r, e => by
    obtain ⟨v, h1, h2⟩ := r.get (i := i) (by simpa using e)
    exact ⟨v, by simpa using h1, h2⟩
theorem DqL.get' : ∀ {vs : List V} {ds : List D} {i : Nat} {v : V}, DqL W R H vs ds → vs[i]? = some v → ∃ d, ds[i]? = some d ∧ Dq W R H v d
  | _, _, _, _, .nil, e => by simp at e
  | _, _, 0, _, .cons q _, e => by simp at e; subst e; exact ⟨_, rfl, q⟩
  | _, _, i + 1, _, .cons _ r, e => by
    obtain ⟨v, h1, h2⟩ := r.get' (i := i) (by simpa using e)
    exact ⟨v, by simpa using h1, h2⟩
theorem DqL.append : ∀ {vs ws : List V} {ds es : List D}, DqL W R H vs ds → DqL W R H ws es → DqL W R H (vs ++ ws) (ds ++ es)
  | _, _, _, _, .nil, s => s
  | _, _, _, _, .cons q r, s => .cons q (r.append s)
theorem DqL.set {v : V} {d : D} (q : Dq W R H v d) : ∀ {vs : List V} {ds : List D} (i : Nat), DqL W R H vs ds → DqL W R H (vs.set i v) (ds.set i d)
  | _, _, _, .nil => .nil
  | _, _, 0, .cons _ r => .cons q r
  | _, _, i + 1, .cons p r => .cons p (DqL.set q i r)
theorem DqL.eraseIdx : ∀ {vs : List V} {ds : List D} (i : Nat), DqL W R H vs ds → DqL W R H (vs.eraseIdx i) (ds.eraseIdx i)
  | _, _, _, .nil => .nil
  | _, _, 0, .cons _ r => r
  | _, _, i + 1, .cons p r => .cons p (DqL.eraseIdx i r)
theorem DqL.take : ∀ {vs : List V} {ds : List D} (i : Nat), DqL W R H vs ds → DqL W R H (vs.take i) (ds.take i)
  | _, _, 0, _ => .nil
  | _, _, _ + 1, .nil => .nil
  | _, _, i + 1, .cons p r => .cons p (DqL.take i r)
theorem DqL.drop : ∀ {vs : List V} {ds : List D} (i : Nat), DqL W R H vs ds → DqL W R H (vs.drop i) (ds.drop i)
  | _, _, 0, r => r
  | _, _, _ + 1, .nil => .nil
  | _, _, i + 1, .cons p r => DqL.drop i r
theorem DqF.lookup {f : Str} {d : D} : ∀ {fs : List (Str × V)} {gs : List (Str × D)}, DqF W R H fs gs → gs.lookup f = some d → ∃ v, fs.lookup f = some v ∧ Dq W R H v d
  | _, _, .nil, e => by simp at e
  | _, _, .cons (f := g) q r, e => by
    by_cases h : f == g
    · simp only [List.lookup, h] at e ⊢
      cases e
      exact ⟨_, rfl, q⟩
    · simp only [List.lookup, h] at e ⊢
      exact r.lookup e
theorem DqF.lookup_none {f : Str} : ∀ {fs : List (Str × V)} {gs : List (Str × D)}, DqF W R H fs gs → gs.lookup f = none → fs.lookup f = none
  | _, _, .nil, e => rfl
  | _, _, .cons (f := g) q r, e => by
    by_cases h : f == g
    · simp only [List.lookup, h] at e
      cases e
    · simp only [List.lookup, h] at e ⊢
      exact r.lookup_none e
end

/-! ### slots -/
/-- an exception: its class, its fields -/
structure Xd where
  c : Nat
  fs : List (Str × D)

inductive Sv where
  | val (d : D)
  | lst (ds : List D)
  | ob (a : Addr) (c : Nat) (fs : List (Str × D))
  | exc (e : Addr × Addr × Xd)
abbrev Rho := List (Option Sv)


/-- where one stands: the context, the world, the region and the heap at the entry -/
structure Cy (cls : Nat → Addr) where
  X : Cx
  W : Wd cls
  R0 : Addr → Prop
  H0 : Hp

def ExcAt (W : Wd cls) (R : Addr → Prop) (H : Hp) (c : Value) (d : Option Addr) (x : Xd) : Prop :=
  c = .ref (cls x.c) ∧ ∃ dd fs, d = some dd ∧ H dd = some (.xd fs) ∧ R dd ∧ DqF W R H fs x.fs

/-- the exception that is handled: where it is, where its fields are -/
def Xq (W : Wd cls) (R : Addr → Prop) (H : Hp) (v : V) (e : Addr × Addr × Xd) : Prop := v = .ref e.1 ∧ ∃ fs, R e.2.1 ∧ H e.2.1 = some (.xd fs) ∧ DqF W R H fs e.2.2.fs
section
variable {W : Wd cls} {R R' : Addr → Prop} {H H' : Hp} {v : V} {e : Addr × Addr × Xd}
theorem Xq.mono2 (h : ∀ a o, R a → H a = some o → R' a ∧ H' a = some o) (q : Xq W R H v e) : Xq W R' H' v e := by
  obtain ⟨h1, fs, h2, h3, h4⟩ := q
  exact ⟨h1, fs, (h _ _ h2 h3).1, (h _ _ h2 h3).2, h4.mono2 h⟩
theorem Xq.mono (hR : ∀ a, R a → R' a) (hH : ∀ a o, R a → H a = some o → H' a = some o) (q : Xq W R H v e) : Xq W R' H' v e := q.mono2 fun a o r z => ⟨hR a r, hH a o r z⟩
theorem Xq.wide (h : ∀ a, R a → R' a) (q : Xq W R H v e) : Xq W R' H v e := q.mono h fun _ _ _ z => z
theorem Xq.alive (q : Xq W R H v e) : Xq W (Al R H) H v e := q.mono2 al_of
theorem Xq.grow (hd : W.nd R) (g : Gr W H H') (q : Xq W R H v e) : Xq W (Nw R H) H' v e := q.mono (fun _ r => .inl r) (hH_of hd g)
end
structure Sl (c : Cy cls) (R : Addr → Prop) (H : Hp) (σ : L2.St) (ρ : Rho) : Prop where
  ndr : c.W.nd R
  ok : c.W.ok H
  ok0 : ∀ a, c.W.base a → c.H0 a ≠ none
  gr : Gr c.W c.H0 H
  sub : ∀ a, R a → Nw c.R0 c.H0 a
  len : σ.length = ρ.length
  val : ∀ (i : Nat) d, ρ[i]? = some (some (.val d)) → ∃ v, σ[i]? = some (some v) ∧ Dq c.W R H v d
  lst : ∀ (i : Nat) ds, ρ[i]? = some (some (.lst ds)) → ∃ a vs, σ[i]? = some (some (.ref a)) ∧ ¬ R a ∧ c.H0 a = none ∧ H a = some (.lst vs) ∧ DqL c.W R H vs ds
  sep : ∀ (i j : Nat) ds es a, i ≠ j → ρ[i]? = some (some (.lst ds)) → ρ[j]? = some (some (.lst es)) → σ[i]? = some (some (.ref a)) → σ[j]? ≠ some (some (.ref a))
  ob : ∀ (i : Nat) a k fs, ρ[i]? = some (some (.ob a k fs)) → ∃ dx vs, σ[i]? = some (some (.ref a)) ∧ ¬ R a ∧ c.H0 a = none ∧ H a = some (.ins (cls k) dx vs) ∧ DqF c.W R H vs fs
  exc : ∀ (i : Nat) e, ρ[i]? = some (some (.exc e)) → ∃ v, σ[i]? = some (some v) ∧ Xq c.W R H v e

section
variable {c : Cy cls} {R : Addr → Prop} {H H' : Hp} {σ : L2.St} {ρ : Rho}
theorem Sl.grow (S : Sl c R H σ ρ) (g : Gr c.W H H') (ok : c.W.ok H') : Sl c (Nw R H) H' σ ρ where
  ndr := nw_dr S.ok S.ndr
  ok := ok
  ok0 := S.ok0
  gr := S.gr.trans g
  sub := fun a z => z.elim (S.sub a) fun z => .inr (none_back S.ok S.gr z)
  len := S.len
  val := fun i d e => let ⟨v, h1, h2⟩ := S.val i d e; ⟨v, h1, h2.grow S.ndr g⟩
  exc := fun i d e => let ⟨v, h1, h2⟩ := S.exc i d e; ⟨v, h1, h2.grow S.ndr g⟩
  lst := fun i ds e => by
    obtain ⟨a, vs, h1, h2, h3, h4, h5⟩ := S.lst i ds e
    have nd : ¬ c.W.mv a := fun z => S.ok0 _ (c.W.mvb _ z) h3
    exact ⟨a, vs, h1, fun z => z.elim h2 (fun z => by rw [h4] at z; cases z), h3, g a _ nd h4, h5.grow S.ndr g⟩
  sep := S.sep
  ob := fun i a k fs e => by
    obtain ⟨dx, vs, h1, h2, h3, h4, h5⟩ := S.ob i a k fs e
    have nd : ¬ c.W.mv a := fun z => S.ok0 _ (c.W.mvb _ z) h3
    exact ⟨dx, vs, h1, fun z => z.elim h2 (fun z => by rw [h4] at z; cases z), h3, g a _ nd h4, h5.grow S.ndr g⟩
theorem Sl.same (S : Sl c R H σ ρ) (h : Same H H') : Sl c (Nw R H) H' σ ρ := S.grow (Gr.of_same h) (ok_same S.ok h)

/-- the end of an expression -/
def Fin (c : Cy cls) (R : Addr → Prop) (H : Hp) (P : D → Prop) : VK := fun v H' => ∃ d, Gr c.W H H' ∧ c.W.ok H' ∧ Dq c.W (Nw R H) H' v d ∧ P d
def FinL (c : Cy cls) (R : Addr → Prop) (H : Hp) (P : List D → Prop) : List V → Hp → Prop := fun vs H' => ∃ ds, Gr c.W H H' ∧ c.W.ok H' ∧ DqL c.W (Nw R H) H' vs ds ∧ P ds
def FinT (c : Cy cls) (H : Hp) (P : Bool → Prop) : Bool → Hp → Prop := fun b H' => Gr c.W H H' ∧ c.W.ok H' ∧ P b
/-- what is wished of an exception from here on -/
def ExOk (c : Cy cls) (R : Addr → Prop) (H : Hp) (E : XK) (ex : Xd → Prop) : Prop := ∀ x k d H', Gr c.W H H' → c.W.ok H' → ExcAt c.W (Nw R H) H' k d x → ex x → E k d H'
theorem ExcAt.wide {W : Wd cls} {R R' : Addr → Prop} {k : Value} {d : Option Addr} {x : Xd} (h : ∀ a, R a → R' a) (q : ExcAt W R H k d x) : ExcAt W R' H k d x := by
  obtain ⟨h1, dd, fs, h2, h3, h4, h5⟩ := q
  exact ⟨h1, dd, fs, h2, h3, h _ h4, h5.wide h⟩
theorem ExOk.grow {E : XK} {ex : Xd → Prop} (x : ExOk c R H E ex) (g : Gr c.W H H') (ok : c.W.ok H') : ExOk c (Nw R H) H' E ex := fun y k d H2 g2 ok2 a h =>
  x y k d H2 (g.trans g2) ok2 (a.wide (nw_nw ok g)) h
theorem Fin.back {P : D → Prop} (g : Gr c.W H H') (ok : c.W.ok H') {v : V} {H2 : Hp} (f : Fin c (Nw R H) H' P v H2) : Fin c R H P v H2 :=
  let ⟨d, h1, h2, h3, h4⟩ := f; ⟨d, g.trans h1, h2, h3.wide (nw_nw ok g), h4⟩

abbrev Pas (X : Cx) (σ : L2.St) (E : XK) : Prop := PassesAt (L2N.CX X.prog X.w) X σ E

/-- e gives a datum with P; what is raised has ex -/
structure WE (c : Cy cls) (e : Expr) (ρ : Rho) (P : D → Prop) (ex : Xd → Prop) : Prop where
  run : ∀ (pins : List (Addr × Obj)) (s : Shared) (σ : L2.St) (H : Hp) (R : Addr → Prop) (E : XK), Inv c.X pins σ H s → Sl c R H σ ρ → Pas c.X σ E → ExOk c R H E ex →
    wpAny (model c.X.prog c.X.w) c.X.A (eval e c.X.env) (EP c.X pins σ (Fin c R H P)) c.X.xe s
structure WT (c : Cy cls) (e : Expr) (ρ : Rho) (P : Bool → Prop) (ex : Xd → Prop) : Prop where
  run : ∀ (pins : List (Addr × Obj)) (s : Shared) (σ : L2.St) (H : Hp) (R : Addr → Prop) (E : XK), Inv c.X pins σ H s → Sl c R H σ ρ → Pas c.X σ E → ExOk c R H E ex →
    wpAny (model c.X.prog c.X.w) c.X.A (isTrue e c.X.env (eval e c.X.env)) (TP c.X pins σ (FinT c H P)) c.X.xe s

/-- the reading of any expression -/
def tU (c : Cy cls) (e : Expr) : TE := fun σ H Q => ∃ (ρ : Rho) (R : Addr → Prop) (E : XK) (P : D → Prop) (ex : Xd → Prop), Sl c R H σ ρ ∧ Pas c.X σ E ∧ ExOk c R H E ex ∧ WE c e ρ P ex ∧ ∀ v H', Fin c R H P v H' → Q v H'
theorem peU (c : Cy cls) (e : Expr) : PE c.X e (tU c e) := ⟨fun pins s σ H Q I h => by
  obtain ⟨ρ, R, E, P, ex, S, p, x, w, k⟩ := h
  exact thn (w.run pins s σ H R E I S p x) fun u s' ⟨v, H', I', r, f⟩ => ⟨v, H', I', r, k v H' f⟩⟩
def tUT (c : Cy cls) (e : Expr) : TT := fun σ H Q => ∃ (ρ : Rho) (R : Addr → Prop) (E : XK) (P : Bool → Prop) (ex : Xd → Prop), Sl c R H σ ρ ∧ Pas c.X σ E ∧ ExOk c R H E ex ∧ WT c e ρ P ex ∧ ∀ v H', FinT c H P v H' → Q v H'
theorem ptU (c : Cy cls) (e : Expr) : PT c.X e (tUT c e) := ⟨fun pins s σ H Q I h => by
  obtain ⟨ρ, R, E, P, ex, S, p, x, w, k⟩ := h
  exact thn (w.run pins s σ H R E I S p x) fun u s' ⟨H', I', f⟩ => ⟨H', I', k _ H' f⟩⟩

theorem we_of {e : Expr} {te : TE} {P : D → Prop} {ex : Xd → Prop} (hp : PE c.X e te) (h : ∀ σ H R E, Sl c R H σ ρ → Pas c.X σ E → ExOk c R H E ex → te σ H (Fin c R H P)) : WE c e ρ P ex :=
  ⟨fun pins s σ H R E I S p x => hp.run pins s σ H _ I (h σ H R E S p x)⟩
theorem wt_of {e : Expr} {te : TT} {P : Bool → Prop} {ex : Xd → Prop} (hp : PT c.X e te) (h : ∀ σ H R E, Sl c R H σ ρ → Pas c.X σ E → ExOk c R H E ex → te σ H (FinT c H P)) : WT c e ρ P ex :=
  ⟨fun pins s σ H R E I S p x => hp.run pins s σ H _ I (h σ H R E S p x)⟩
theorem tU.mk {e : Expr} {E : XK} {P : D → Prop} {ex : Xd → Prop} {Q : VK} (w : WE c e ρ P ex) (S : Sl c R H σ ρ) (p : Pas c.X σ E) (x : ExOk c R H E ex) (k : ∀ v H', Fin c R H P v H' → Q v H') : tU c e σ H Q := ⟨ρ, R, E, P, ex, S, p, x, w, k⟩
theorem tUT.mk {e : Expr} {E : XK} {P : Bool → Prop} {ex : Xd → Prop} {Q : Bool → Hp → Prop} (w : WT c e ρ P ex) (S : Sl c R H σ ρ) (p : Pas c.X σ E) (x : ExOk c R H E ex) (k : ∀ v H', FinT c H P v H' → Q v H') : tUT c e σ H Q := ⟨ρ, R, E, P, ex, S, p, x, w, k⟩
theorem WE.mono {e : Expr} {P P' : D → Prop} {ex : Xd → Prop} (w : WE c e ρ P ex) (h : ∀ d, P d → P' d) : WE c e ρ P' ex := ⟨fun pins s σ H R E I S p x =>
  thn (w.run pins s σ H R E I S p x) fun u s' ⟨v, H', I', r, d, f1, f2, f3, f4⟩ => ⟨v, H', I', r, d, f1, f2, f3, h d f4⟩⟩
theorem WT.mono {e : Expr} {P P' : Bool → Prop} {ex : Xd → Prop} (w : WT c e ρ P ex) (h : ∀ d, P d → P' d) : WT c e ρ P' ex := ⟨fun pins s σ H R E I S p x =>
  thn (w.run pins s σ H R E I S p x) fun u s' ⟨H', I', f1, f2, f4⟩ => ⟨H', I', f1, f2, h _ f4⟩⟩

/-! ### names, constants -/
theorem we_val {i : Nat} {x : Str} {pos : Pos} {d : D} {P : D → Prop} {ex : Xd → Prop} (hN : c.X.N[i]? = some x) (hρ : ρ[i]? = some (some (.val d))) (h : P d) (hv : Vis c.X.env.scope x := by first | exact Or.inl rfl | exact Or.inr (Or.inl rfl) | exact Or.inr (Or.inr rfl))
    (hd : (x == ("__debug__" : Str)) = false := by decide) (hcd : (x == ("__classdict__" : Str)) = false := by decide) : WE c (.Name x pos) ρ P ex :=
  we_of (pe_var hN hv hd hcd) fun σ H R E S _ _ => by
    obtain ⟨v, h1, h2⟩ := S.val i d hρ
    exact ⟨v, h1, d, Gr.refl, S.ok, h2.grow S.ndr Gr.refl, h⟩
theorem we_c {e : Expr} {v : V} {d : D} {P : D → Prop} {ex : Xd → Prop} (hp : PE c.X e (tC v)) (hq : ∀ R H, Dq c.W R H v d) (h : P d) : WE c e ρ P ex :=
  we_of hp fun σ H R E S _ _ => ⟨d, Gr.refl, S.ok, hq _ _, h⟩
theorem we_int {i : Int} {j pos} {P : D → Prop} {ex : Xd → Prop} (h : P (.int i)) : WE c (.Constant (.int i) j pos) ρ P ex := we_c pe_int (fun _ _ => .int i) h
theorem we_bl {b : Bool} {j pos} {P : D → Prop} {ex : Xd → Prop} (h : P (.bl b)) : WE c (.Constant (.bool b) j pos) ρ P ex := we_c pe_bl (fun _ _ => .bl b) h
theorem we_non {j pos} {P : D → Prop} {ex : Xd → Prop} (h : P .non) : WE c (.Constant .none j pos) ρ P ex := we_c pe_non (fun _ _ => .non) h
theorem we_str {x : Str} {j pos} {P : D → Prop} {ex : Xd → Prop} (h : P (.str x)) : WE c (.Constant (.str x) j pos) ρ P ex := we_c pe_str (fun _ _ => .str x) h

/-! ### two operands -/
/-- the operation r on data: F tells what it wants and gives -/
def OpD (c : Cy cls) (r : R2) (F : D → D → (D → Prop) → Prop) : Prop := ∀ R H vx vy x y P, c.W.nd R → c.W.ok H → Dq c.W R H vx x → Dq c.W R H vy y → F x y P → ∀ Q : VK, (∀ v H', Fin c R H P v H' → Q v H') → r vx vy H Q
def UnD (c : Cy cls) (r : V → Hp → VK → Prop) (F : D → (D → Prop) → Prop) : Prop := ∀ R H vx x P, c.W.nd R → c.W.ok H → Dq c.W R H vx x → F x P → ∀ Q : VK, (∀ v H', Fin c R H P v H' → Q v H') → r vx H Q
def LsD (c : Cy cls) (r : List V → Hp → VK → Prop) (F : List D → (D → Prop) → Prop) : Prop := ∀ R H vs ds P, c.W.nd R → c.W.ok H → DqL c.W R H vs ds → F ds P → ∀ Q : VK, (∀ v H', Fin c R H P v H' → Q v H') → r vs H Q
theorem we_un {a e : Expr} {r : V → Hp → VK → Prop} {F : D → (D → Prop) → Prop} {P : D → Prop} {ex : Xd → Prop} (hp : PE c.X e (tUn r (tU c a))) (hF : UnD c r F) (h : WE c a ρ (fun x => F x P) ex) : WE c e ρ P ex :=
  we_of hp fun σ H R E S p x => tU.mk h S p x fun vx H1 ⟨dx, g1, ok1, q1, w1⟩ => hF _ _ _ _ _ (S.grow g1 ok1).ndr ok1 q1 w1 _ fun v H' f => f.back g1 ok1
theorem we_bin {a b e : Expr} {r : R2} {F : D → D → (D → Prop) → Prop} {P : D → Prop} {ex : Xd → Prop} (hp : PE c.X e (tOp r (tU c a) (tU c b))) (hF : OpD c r F) (h : WE c a ρ (fun x => WE c b ρ (fun y => F x y P) ex) ex) : WE c e ρ P ex :=
  we_of hp fun σ H R E S p x => tU.mk h S p x fun vx H1 ⟨dx, g1, ok1, q1, w1⟩ => tU.mk w1 (S.grow g1 ok1) p (x.grow g1 ok1) fun vy H2 ⟨dy, g2, ok2, q2, f2⟩ =>
    hF _ _ _ _ _ _ _ ((S.grow g1 ok1).grow g2 ok2).ndr ok2 (q1.grow (S.grow g1 ok1).ndr g2) q2 f2 _ fun v H' f => (f.back g2 ok2).back g1 ok1
/-- .. as a test -/
theorem wt_val {e : Expr} {P : Bool → Prop} {ex : Xd → Prop} (h : WE c e ρ (fun d => ∃ b, d = .bl b ∧ P b) ex) (hp : PT c.X e (tB (tU c e)) := by exact pt_val (peU _ _)) : WT c e ρ P ex :=
  wt_of hp fun σ H R E S p x => tU.mk h S p x fun v H1 ⟨d, g1, ok1, q1, b, e1, h1⟩ => by
    subst e1
    cases q1
    exact ⟨b, rfl, g1, ok1, h1⟩
theorem wt_bin {a b e : Expr} {r : R2} {F : D → D → (D → Prop) → Prop} {P : Bool → Prop} {ex : Xd → Prop} (hp : PT c.X e (tTest (tOp r (tU c a) (tU c b)))) (hF : OpD c r F) (h : WE c a ρ (fun x => WE c b ρ (fun y => F x y (fun d => ∃ b, d = .bl b ∧ P b)) ex) ex) : WT c e ρ P ex :=
  wt_of hp fun σ H R E S p x => tU.mk h S p x fun vx H1 ⟨dx, g1, ok1, q1, w1⟩ => tU.mk w1 (S.grow g1 ok1) p (x.grow g1 ok1) fun vy H2 ⟨dy, g2, ok2, q2, f2⟩ =>
    hF _ _ _ _ _ _ _ ((S.grow g1 ok1).grow g2 ok2).ndr ok2 (q1.grow (S.grow g1 ok1).ndr g2) q2 f2 _ fun v H' f => by
      obtain ⟨d, g3, ok3, q3, b, e1, h1⟩ := (f.back g2 ok2).back g1 ok1
      subst e1
      cases q3
      exact ⟨b, rfl, g3, ok3, h1⟩
/-- nothing is made -/
theorem Fin.here {P : D → Prop} {v : V} {d : D} (ok : c.W.ok H) (hd : c.W.nd R) (q : Dq c.W R H v d) (h : P d) : Fin c R H P v H := ⟨d, Gr.refl, ok, q.grow hd Gr.refl, h⟩
/-- a new object at p -/
theorem Fin.new {P : D → Prop} {v : V} {d : D} {p : Addr} {o : HO} (ok : c.W.ok H) (hp : H p = none) (q : Dq c.W (Nw R H) (upd H p o) v d) (h : P d) : Fin c R H P v (upd H p o) :=
  have s : Same H (upd H p o) := fun b o' e => by rw [upd_ne (ne_of_none e hp)]; exact e
  ⟨d, Gr.of_same s, ok_same ok s, q, h⟩
theorem same_upd {p : Addr} {o : HO} (hp : H p = none) : Same H (upd H p o) := fun b o' e => by rw [upd_ne (ne_of_none e hp)]; exact e

/-! ### numbers -/
theorem opd_I0 (g : Int → Int → V) (gd : Int → Int → D) (hg : ∀ R H i j, Dq c.W R H (g i j) (gd i j)) : OpD c (rI0 g) (fun x y P => ∃ i j, x = .int i ∧ y = .int j ∧ P (gd i j)) := fun R H vx vy x y P nd ok qx qy f Q k => by
  obtain ⟨i, j, rfl, rfl, h⟩ := f
  cases qx
  cases qy
  exact ⟨i, j, rfl, rfl, k _ _ (Fin.here ok nd (hg _ _ _ _) h)⟩
theorem opd_I (C : Int → Int → Prop) (g : Int → Int → V) (gd : Int → Int → D) (hg : ∀ R H i j, Dq c.W R H (g i j) (gd i j)) : OpD c (rI C g) (fun x y P => ∃ i j, x = .int i ∧ y = .int j ∧ C i j ∧ P (gd i j)) := fun R H vx vy x y P nd ok qx qy f Q k => by
  obtain ⟨i, j, rfl, rfl, hc, h⟩ := f
  cases qx
  cases qy
  exact ⟨i, j, rfl, rfl, hc, k _ _ (Fin.here ok nd (hg _ _ _ _) h)⟩
end
end Vl
end
section
set_option maxHeartbeats 4000000
namespace Vl
open PySem PySem.Spec PyProof.Rows L2
variable {cls : Nat → Addr}

/-- what the region has is kept -/
def Kp (R : Addr → Prop) (H : Hp) (R' : Addr → Prop) (H' : Hp) : Prop := ∀ a o, R a → H a = some o → R' a ∧ H' a = some o
theorem Kp.refl {R : Addr → Prop} {H : Hp} : Kp R H R H := fun _ _ r e => ⟨r, e⟩
theorem Kp.trans {R R1 R2 : Addr → Prop} {H H1 H2 : Hp} (a : Kp R H R1 H1) (b : Kp R1 H1 R2 H2) : Kp R H R2 H2 := fun x o r e => b x o (a x o r e).1 (a x o r e).2
theorem Kp.grow {W : Wd cls} {R : Addr → Prop} {H H' : Hp} (hd : W.nd R) (g : Gr W H H') : Kp R H (Nw R H) H' := fun a o r e => ⟨.inl r, hH_of hd g a o r e⟩
theorem Kp.wide {R R' : Addr → Prop} {H : Hp} (h : ∀ a, R a → R' a) : Kp R H R' H := fun a _ r e => ⟨h a r, e⟩
theorem Kp.new {R : Addr → Prop} {H : Hp} {p : Addr} {o : HO} (hp : H p = none) : Kp R H (Al R H) (upd H p o) := fun a u r e => ⟨⟨r, fun z => by rw [e] at z; cases z⟩, same_upd hp a u e⟩
theorem Kp.mut {R : Addr → Prop} {H : Hp} {p : Addr} {o : HO} (hp : ¬ R p) : Kp R H R (upd H p o) := fun a u r e => ⟨r, by rw [upd_ne (show a ≠ p from fun z => hp (z ▸ r))]; exact e⟩
theorem Kp.dq {W : Wd cls} {R R' : Addr → Prop} {H H' : Hp} (k : Kp R H R' H') {v : V} {d : D} (q : Dq W R H v d) : Dq W R' H' v d := q.mono2 k
theorem Kp.dql {W : Wd cls} {R R' : Addr → Prop} {H H' : Hp} (k : Kp R H R' H') {v : List V} {d : List D} (q : DqL W R H v d) : DqL W R' H' v d := q.mono2 k

/-! ### slots change -/
section
variable {c : Cy cls} {R : Addr → Prop} {H H' : Hp} {σ : L2.St} {ρ : Rho}
theorem get_set_self {α : Type} {l : List α} {i : Nat} {a x : α} (h : (l.set i a)[i]? = some x) : x = a := by
  by_cases hi : i < l.length
  · rw [List.getElem?_set_self hi] at h; exact (Option.some.inj h).symm
  · rw [List.getElem?_eq_none (by simpa using hi)] at h; cases h
theorem set_lt {α : Type} {l : List α} {i : Nat} {a x : α} (h : (l.set i a)[i]? = some x) : i < l.length := by
  by_cases hi : i < l.length
  · exact hi
  · rw [List.getElem?_eq_none (by simpa using hi)] at h; cases h
theorem Sl.setVal (S : Sl c R H σ ρ) {i : Nat} {v : V} {d : D} (q : Dq c.W R H v d) : Sl c R H (σ.set i (some v)) (ρ.set i (some (.val d))) where
  ndr := S.ndr
  ok := S.ok
  ok0 := S.ok0
  gr := S.gr
  sub := S.sub
  len := by simp [S.len]
  val := fun j e h => by
    by_cases hj : i = j
    · subst hj
      have lt := set_lt h
      have z := get_set_self h
      cases z
      exact ⟨v, by rw [List.getElem?_set_self (by rw [S.len]; exact lt)], q⟩
    · rw [List.getElem?_set_ne hj] at h ⊢
      exact S.val j e h
  lst := fun j e h => by
    by_cases hj : i = j
    · subst hj
      have z := get_set_self h
      cases z
    · rw [List.getElem?_set_ne hj] at h ⊢
      exact S.lst j e h
  sep := fun j k ds es a hjk h1 h2 h3 => by
    by_cases hj : i = j
    · subst hj
      have z := get_set_self h1
      cases z
    · by_cases hk : i = k
      · subst hk
        have z := get_set_self h2
        cases z
      · rw [List.getElem?_set_ne hj] at h1 h3
        rw [List.getElem?_set_ne hk] at h2 ⊢
        exact S.sep j k ds es a hjk h1 h2 h3
  ob := fun j a k fs h => by
    by_cases hj : i = j
    · subst hj
      have z := get_set_self h
      cases z
    · rw [List.getElem?_set_ne hj] at h ⊢
      exact S.ob j a k fs h
  exc := fun j e h => by
    by_cases hj : i = j
    · subst hj
      have z := get_set_self h
      cases z
    · rw [List.getElem?_set_ne hj] at h ⊢
      exact S.exc j e h
/-- a name goes -/
theorem Sl.setNone (S : Sl c R H σ ρ) {i : Nat} {o : Option V} : Sl c R H (σ.set i o) (ρ.set i none) where
  ndr := S.ndr
  ok := S.ok
  ok0 := S.ok0
  gr := S.gr
  sub := S.sub
  len := by simp [S.len]
  val := fun j e h => by
    by_cases hj : i = j
    · subst hj
      have z := get_set_self h
      cases z
    · rw [List.getElem?_set_ne hj] at h ⊢
      exact S.val j e h
  lst := fun j e h => by
    by_cases hj : i = j
    · subst hj
      have z := get_set_self h
      cases z
    · rw [List.getElem?_set_ne hj] at h ⊢
      exact S.lst j e h
  sep := fun j k ds es a hjk h1 h2 h3 => by
    by_cases hj : i = j
    · subst hj
      have z := get_set_self h1
      cases z
    · by_cases hk : i = k
      · subst hk
        have z := get_set_self h2
        cases z
      · rw [List.getElem?_set_ne hj] at h1 h3
        rw [List.getElem?_set_ne hk] at h2 ⊢
        exact S.sep j k ds es a hjk h1 h2 h3
  ob := fun j a k fs h => by
    by_cases hj : i = j
    · subst hj
      have z := get_set_self h
      cases z
    · rw [List.getElem?_set_ne hj] at h ⊢
      exact S.ob j a k fs h
  exc := fun j e h => by
    by_cases hj : i = j
    · subst hj
      have z := get_set_self h
      cases z
    · rw [List.getElem?_set_ne hj] at h ⊢
      exact S.exc j e h
/-- an own list becomes a datum -/
theorem Sl.pub (S : Sl c R H σ ρ) {i : Nat} {ds : List D} (hi : ρ[i]? = some (some (.lst ds))) : ∃ R' : Addr → Prop, (∀ b, R b → R' b) ∧ Sl c R' H σ (ρ.set i (some (.val (.lst ds)))) := by
  obtain ⟨a, vs, h1, h2, h3, h4, h5⟩ := S.lst i ds hi
  have nd : ¬ c.W.mv a := fun z => S.ok0 _ (c.W.mvb _ z) h3
  have w : ∀ b, R b → (R b ∨ b = a) := fun b r => .inl r
  have li : i < ρ.length := (List.getElem?_eq_some_iff.mp hi).1
  refine ⟨fun b => R b ∨ b = a, w, fun b m z => z.elim (S.ndr b m) (fun z => nd (z ▸ m)), S.ok, S.ok0, S.gr, fun b z => z.elim (S.sub b) (fun z => by subst z; exact .inr h3), by simp [S.len], fun j d h => ?_, fun j e h => ?_, fun j k ds' es b hjk g1 g2 g3 => ?_, fun j b k fs h => ?_, fun j e h => ?_⟩
  · by_cases hj : i = j
    · subst hj
      have z := get_set_self h
      cases z
      exact ⟨_, h1, .lst (.inr rfl) h4 (h5.wide w)⟩
    · rw [List.getElem?_set_ne hj] at h
      obtain ⟨v, e1, e2⟩ := S.val j d h
      exact ⟨v, e1, e2.wide w⟩
  · by_cases hj : i = j
    · subst hj
      have z := get_set_self h
      cases z
    · rw [List.getElem?_set_ne hj] at h
      obtain ⟨b, ws, e1, e2, e3, e4, e5⟩ := S.lst j e h
      refine ⟨b, ws, e1, fun z => z.elim e2 fun z => ?_, e3, e4, e5.wide w⟩
      subst z
      exact S.sep i j _ _ _ hj hi h h1 e1
  · by_cases hj : i = j
    · subst hj
      have z := get_set_self g1
      cases z
    · by_cases hk : i = k
      · subst hk
        have z := get_set_self g2
        cases z
      · rw [List.getElem?_set_ne hj] at g1
        rw [List.getElem?_set_ne hk] at g2
        exact S.sep j k ds' es b hjk g1 g2 g3
  · by_cases hj : i = j
    · subst hj
      have z := get_set_self h
      cases z
    · rw [List.getElem?_set_ne hj] at h
      obtain ⟨dx, ws, e1, e2, e3, e4, e5⟩ := S.ob j b k fs h
      refine ⟨dx, ws, e1, fun z => z.elim e2 fun z => ?_, e3, e4, e5.wide w⟩
      subst z
      rw [h4] at e4
      cases e4
  · by_cases hj : i = j
    · subst hj
      have z := get_set_self h
      cases z
    · rw [List.getElem?_set_ne hj] at h
      obtain ⟨v, e1, e2⟩ := S.exc j e h
      exact ⟨v, e1, e2.wide w⟩
theorem Sl.alive (S : Sl c R H σ ρ) : Sl c (Al R H) H σ ρ where
  ndr := fun b m z => S.ndr b m z.1
  ok := S.ok
  ok0 := S.ok0
  gr := S.gr
  sub := fun a z => S.sub a z.1
  len := S.len
  val := fun j e h => let ⟨v, e1, e2⟩ := S.val j e h; ⟨v, e1, e2.alive⟩
  lst := fun j e h => let ⟨a, vs, e1, e2, e3, e4, e5⟩ := S.lst j e h; ⟨a, vs, e1, fun z => e2 z.1, e3, e4, e5.alive⟩
  sep := S.sep
  ob := fun j a k fs h => let ⟨a, vs, e1, e2, e3, e4, e5⟩ := S.ob j a k fs h; ⟨a, vs, e1, fun z => e2 z.1, e3, e4, e5.alive⟩
  exc := fun j e h => let ⟨v, e1, e2⟩ := S.exc j e h; ⟨v, e1, e2.alive⟩
/-- a new list (nobody else has it) at a name -/
theorem Sl.setLst (S : Sl c R H σ ρ) {i : Nat} {p : Addr} {vs : List V} {ds : List D} (hp : H p = none) (q : DqL c.W R H vs ds) : Sl c (Al R H) (upd H p (.lst vs)) (σ.set i (some (.ref p))) (ρ.set i (some (.lst ds))) := by
  have s := same_upd (o := .lst vs) hp
  have np : ∀ {a : Addr} {o : HO}, H a = some o → a ≠ p := fun e z => by subst z; rw [hp] at e; cases e
  have hn : ∀ a o, Al R H a → H a = some o → upd H p (.lst vs) a = some o := fun a o _ e => s a o e
  have h0 : c.H0 p = none := none_back S.ok S.gr hp
  have S := S.alive
  refine ⟨S.ndr, ok_same S.ok s, S.ok0, S.gr.trans (Gr.of_same s), S.sub, by simp [S.len], fun j e h => ?_, fun j e h => ?_, fun j k ds' es a hjk g1 g2 g3 => ?_, fun j a k fs h => ?_, fun j e h => ?_⟩
  · by_cases hj : i = j
    · subst hj
      have z := get_set_self h
      cases z
    · rw [List.getElem?_set_ne hj] at h ⊢
      obtain ⟨v, e1, e2⟩ := S.val j e h
      exact ⟨v, e1, e2.mono (fun _ r => r) hn⟩
  · by_cases hj : i = j
    · subst hj
      have lt := set_lt h
      have z := get_set_self h
      cases z
      exact ⟨p, vs, by rw [List.getElem?_set_self (by rw [S.len]; exact lt)], fun z => z.2 hp, h0, upd_same, q.alive.mono (fun _ r => r) hn⟩
    · rw [List.getElem?_set_ne hj] at h ⊢
      obtain ⟨a, ws, e1, e2, e3, e4, e5⟩ := S.lst j e h
      exact ⟨a, ws, e1, e2, e3, s _ _ e4, e5.mono (fun _ r => r) hn⟩
  · have key : ∀ {j : Nat} {es : List D} {b : Addr}, i ≠ j → ρ[j]? = some (some (.lst es)) → σ[j]? = some (some (.ref b)) → b ≠ p := fun {j es b} _ h1 h2 => by
      obtain ⟨a, ws, e1, e2, e3, e4, e5⟩ := S.lst j es h1
      rw [e1] at h2
      cases h2
      exact np e4
    by_cases hj : i = j
    · subst hj
      have lt := set_lt g3
      have z := get_set_self g3
      cases z
      rw [List.getElem?_set_ne hjk] at g2 ⊢
      exact fun z => key hjk g2 z rfl
    · by_cases hk : i = k
      · subst hk
        rw [List.getElem?_set_ne hj] at g1 g3
        intro z
        have z := get_set_self z
        cases z
        exact key hj g1 g3 rfl
      · rw [List.getElem?_set_ne hj] at g1 g3
        rw [List.getElem?_set_ne hk] at g2 ⊢
        exact S.sep j k ds' es a hjk g1 g2 g3
  · by_cases hj : i = j
    · subst hj
      have z := get_set_self h
      cases z
    · rw [List.getElem?_set_ne hj] at h ⊢
      obtain ⟨dx, ws, e1, e2, e3, e4, e5⟩ := S.ob j a k fs h
      exact ⟨dx, ws, e1, e2, e3, s _ _ e4, e5.mono (fun _ r => r) hn⟩
  · by_cases hj : i = j
    · subst hj
      have z := get_set_self h
      cases z
    · rw [List.getElem?_set_ne hj] at h ⊢
      obtain ⟨v, e1, e2⟩ := S.exc j e h
      exact ⟨v, e1, e2.mono (fun _ r => r) hn⟩
/-- an own list is written -/
theorem Sl.mutLst (S : Sl c R H σ ρ) {i : Nat} {p : Addr} {ws : List V} {ds es : List D} (hi : ρ[i]? = some (some (.lst ds))) (hs : σ[i]? = some (some (.ref p))) (q : DqL c.W R H ws es) :
    Sl c R (upd H p (.lst ws)) σ (ρ.set i (some (.lst es))) := by
  obtain ⟨p', vs', h1, h2, h3, h4, h5⟩ := S.lst i ds hi
  rw [hs] at h1
  cases h1
  have nd : ¬ c.W.mv p := fun z => S.ok0 _ (c.W.mvb _ z) h3
  have hn : ∀ a o, R a → H a = some o → upd H p (.lst ws) a = some o := fun a o r e => by
    rw [upd_ne (show a ≠ p from fun z => h2 (z ▸ r))]
    exact e
  have nb : ∀ a, c.W.base a → a ≠ p := fun a b z => S.ok0 _ b (z ▸ h3)
  refine ⟨S.ndr, c.W.keep H _ S.ok fun a b => upd_ne (nb a b), S.ok0, fun a o n e => ?_, S.sub, by simp [S.len], fun j e h => ?_, fun j e h => ?_, fun j k ds' es' a hjk g1 g2 g3 => ?_, fun j a k fs h => ?_, fun j e h => ?_⟩
  · rw [upd_ne (show a ≠ p from fun z => by subst z; rw [h3] at e; cases e)]
    exact S.gr a o n e
  · by_cases hj : i = j
    · subst hj
      have z := get_set_self h
      cases z
    · rw [List.getElem?_set_ne hj] at h
      obtain ⟨v, e1, e2⟩ := S.val j e h
      exact ⟨v, e1, e2.mono (fun _ r => r) hn⟩
  · by_cases hj : i = j
    · subst hj
      have z := get_set_self h
      cases z
      exact ⟨p, ws, hs, h2, h3, upd_same, q.mono (fun _ r => r) hn⟩
    · rw [List.getElem?_set_ne hj] at h
      obtain ⟨a, us, e1, e2, e3, e4, e5⟩ := S.lst j e h
      exact ⟨a, us, e1, e2, e3, by rw [upd_ne (show a ≠ p from fun z => S.sep i j _ _ p hj hi h hs (by rw [e1, z]))]; exact e4, e5.mono (fun _ r => r) hn⟩
  · by_cases hj : i = j
    · subst hj
      rw [List.getElem?_set_ne hjk] at g2
      exact S.sep i k _ _ a hjk hi g2 g3
    · by_cases hk : i = k
      · subst hk
        rw [List.getElem?_set_ne hj] at g1
        exact S.sep j i _ _ a hjk g1 hi g3
      · rw [List.getElem?_set_ne hj] at g1
        rw [List.getElem?_set_ne hk] at g2
        exact S.sep j k _ _ a hjk g1 g2 g3
  · by_cases hj : i = j
    · subst hj
      have z := get_set_self h
      cases z
    · rw [List.getElem?_set_ne hj] at h
      obtain ⟨dx, us, e1, e2, e3, e4, e5⟩ := S.ob j a k fs h
      exact ⟨dx, us, e1, e2, e3, by rw [upd_ne (show a ≠ p from fun z => by subst z; rw [h4] at e4; cases e4)]; exact e4, e5.mono (fun _ r => r) hn⟩
  · by_cases hj : i = j
    · subst hj
      have z := get_set_self h
      cases z
    · rw [List.getElem?_set_ne hj] at h
      obtain ⟨v, e1, e2⟩ := S.exc j e h
      exact ⟨v, e1, e2.mono (fun _ r => r) hn⟩
/-- an object that is being made gets a field -/
theorem Sl.mutOb (S : Sl c R H σ ρ) {i : Nat} {p dx : Addr} {k : Nat} {fs : List (Str × D)} {vs ws : List (Str × V)} {gs : List (Str × D)} (hi : ρ[i]? = some (some (.ob p k fs))) (hH : H p = some (.ins (cls k) dx vs)) (q : DqF c.W R H ws gs)
    (one : ∀ j k' fs', ρ[j]? = some (some (.ob p k' fs')) → j = i) : Sl c R (upd H p (.ins (cls k) dx ws)) σ (ρ.set i (some (.ob p k gs))) := by
  obtain ⟨dx', vs', h1, h2, h3, h4, h5⟩ := S.ob i p k fs hi
  have nd : ¬ c.W.mv p := fun z => S.ok0 _ (c.W.mvb _ z) h3
  have hn : ∀ a o, R a → H a = some o → upd H p (.ins (cls k) dx ws) a = some o := fun a o r e => by
    rw [upd_ne (show a ≠ p from fun z => h2 (z ▸ r))]
    exact e
  have nb : ∀ a, c.W.base a → a ≠ p := fun a b z => S.ok0 _ b (z ▸ h3)
  refine ⟨S.ndr, c.W.keep H _ S.ok fun a b => upd_ne (nb a b), S.ok0, fun a o n e => ?_, S.sub, by simp [S.len], fun j e h => ?_, fun j e h => ?_, fun j k ds' es' a hjk g1 g2 g3 => ?_, fun j a k' fs' h => ?_, fun j e h => ?_⟩
  · rw [upd_ne (show a ≠ p from fun z => by subst z; rw [h3] at e; cases e)]
    exact S.gr a o n e
  · by_cases hj : i = j
    · subst hj
      have z := get_set_self h
      cases z
    · rw [List.getElem?_set_ne hj] at h
      obtain ⟨v, e1, e2⟩ := S.val j e h
      exact ⟨v, e1, e2.mono (fun _ r => r) hn⟩
  · by_cases hj : i = j
    · subst hj
      have z := get_set_self h
      cases z
    · rw [List.getElem?_set_ne hj] at h
      obtain ⟨a, us, e1, e2, e3, e4, e5⟩ := S.lst j e h
      exact ⟨a, us, e1, e2, e3, by rw [upd_ne (show a ≠ p from fun z => by subst z; rw [h4] at e4; cases e4)]; exact e4, e5.mono (fun _ r => r) hn⟩
  · by_cases hj : i = j
    · subst hj
      have z := get_set_self g1
      cases z
    · by_cases hk : i = k
      · subst hk
        have z := get_set_self g2
        cases z
      · rw [List.getElem?_set_ne hj] at g1
        rw [List.getElem?_set_ne hk] at g2
        exact S.sep j k _ _ a hjk g1 g2 g3
  · by_cases hj : i = j
    · subst hj
      have z := get_set_self h
      cases z
      exact ⟨dx, ws, h1, h2, h3, upd_same, q.mono (fun _ r => r) hn⟩
    · rw [List.getElem?_set_ne hj] at h
      obtain ⟨dy, us, e1, e2, e3, e4, e5⟩ := S.ob j a k' fs' h
      have na : a ≠ p := fun z => by subst z; exact hj (one j k' fs' h).symm
      exact ⟨dy, us, e1, e2, e3, by rw [upd_ne na]; exact e4, e5.mono (fun _ r => r) hn⟩
  · by_cases hj : i = j
    · subst hj
      have z := get_set_self h
      cases z
    · rw [List.getElem?_set_ne hj] at h
      obtain ⟨v, e1, e2⟩ := S.exc j e h
      exact ⟨v, e1, e2.mono (fun _ r => r) hn⟩
end
end Vl
end
section
set_option maxHeartbeats 4000000
namespace Vl
open PySem PySem.Spec PyProof.Rows L2
variable {cls : Nat → Addr}

/-! ### statements -/
structure Po where
  nx : Rho → Prop
  rt : Rho → D → Prop
  bk : Rho → Prop := fun _ => False
  ct : Rho → Prop := fun _ => False
  ex : Rho → Xd → Prop := fun _ _ => False
structure EndsOk (c : Cy cls) (R0 : Addr → Prop) (H0 : Hp) (Ds : Ends) (p : Po) : Prop where
  nx : ∀ R H σ ρ, Sl c R H σ ρ → Kp R0 H0 R H → p.nx ρ → Ds.nx σ H
  rt : ∀ R H σ ρ v d, Sl c R H σ ρ → Dq c.W R H v d → p.rt ρ d → Ds.rt v H
  bk : ∀ R H σ ρ, Sl c R H σ ρ → Kp R0 H0 R H → p.bk ρ → Ds.bk σ H
  ct : ∀ R H σ ρ, Sl c R H σ ρ → Kp R0 H0 R H → p.ct ρ → Ds.ct σ H
theorem EndsOk.from {c : Cy cls} {R R1 : Addr → Prop} {H H1 : Hp} {Ds : Ends} {p : Po} (en : EndsOk c R H Ds p) (k : Kp R H R1 H1) : EndsOk c R1 H1 Ds p :=
  ⟨fun R2 H2 σ ρ S k2 h => en.nx R2 H2 σ ρ S (k.trans k2) h, en.rt, fun R2 H2 σ ρ S k2 h => en.bk R2 H2 σ ρ S (k.trans k2) h, fun R2 H2 σ ρ S k2 h => en.ct R2 H2 σ ρ S (k.trans k2) h⟩
def ExS (c : Cy cls) (E : L2.St → XK) (ex : Rho → Xd → Prop) : Prop := ∀ R H σ ρ x k d, Sl c R H σ ρ → ExcAt c.W R H k d x → ex ρ x → E σ k d H
/-- what is raised from here on is taken as E tells -/
def Tk (X : Cx) (E : L2.St → XK) : Prop := L2N.Takes X (fun k d σ H => E σ k d H)
theorem Tk.at {X : Cx} {E : L2.St → XK} (t : Tk X E) (σ : L2.St) : Pas X σ (E σ) := L2N.passAt t σ
structure WS (c : Cy cls) (st : Stmt) (ρ : Rho) (p : Po) : Prop where
  run : ∀ (pins : List (Addr × Obj)) (s : Shared) (σ : L2.St) (H : Hp) (R : Addr → Prop) (Ds : Ends) (E : L2.St → XK), Inv c.X pins σ H s → Sl c R H σ ρ → Tk c.X E → EndsOk c R H Ds p → ExS c E p.ex →
    wpAny (model c.X.prog c.X.w) c.X.A (exec st c.X.env) (SP c.X pins Ds) c.X.xe s
structure WSs (c : Cy cls) (st : List Stmt) (ρ : Rho) (p : Po) : Prop where
  run : ∀ (pins : List (Addr × Obj)) (s : Shared) (σ : L2.St) (H : Hp) (R : Addr → Prop) (Ds : Ends) (E : L2.St → XK), Inv c.X pins σ H s → Sl c R H σ ρ → Tk c.X E → EndsOk c R H Ds p → ExS c E p.ex →
    wpAny (model c.X.prog c.X.w) c.X.A (execs st c.X.env) (SP c.X pins Ds) c.X.xe s
section
variable {c : Cy cls} {R : Addr → Prop} {H H' : Hp} {σ : L2.St} {ρ : Rho}
def tUS (c : Cy cls) (st : Stmt) : TS := fun Ds σ H => ∃ (ρ : Rho) (R : Addr → Prop) (E : L2.St → XK) (p : Po), Sl c R H σ ρ ∧ Tk c.X E ∧ EndsOk c R H Ds p ∧ ExS c E p.ex ∧ WS c st ρ p
def tUSs (c : Cy cls) (st : List Stmt) : TS := fun Ds σ H => ∃ (ρ : Rho) (R : Addr → Prop) (E : L2.St → XK) (p : Po), Sl c R H σ ρ ∧ Tk c.X E ∧ EndsOk c R H Ds p ∧ ExS c E p.ex ∧ WSs c st ρ p
theorem psU (c : Cy cls) (st : Stmt) : PS c.X st (tUS c st) := ⟨fun pins s σ H Ds I ⟨ρ, R, E, p, S, ps, en, x, w⟩ => w.run pins s σ H R Ds E I S ps en x⟩
theorem pssU (c : Cy cls) (st : List Stmt) : PSs c.X st (tUSs c st) := ⟨fun pins s σ H Ds I ⟨ρ, R, E, p, S, ps, en, x, w⟩ => w.run pins s σ H R Ds E I S ps en x⟩
theorem ws_of {st : Stmt} {t : TS} {p : Po} (hp : PS c.X st t) (h : ∀ σ H R Ds E, Sl c R H σ ρ → Tk c.X E → EndsOk c R H Ds p → ExS c E p.ex → t Ds σ H) : WS c st ρ p :=
  ⟨fun pins s σ H R Ds E I S ps en x => hp.run pins s σ H Ds I (h σ H R Ds E S ps en x)⟩
theorem wss_of {st : List Stmt} {t : TS} {p : Po} (hp : PSs c.X st t) (h : ∀ σ H R Ds E, Sl c R H σ ρ → Tk c.X E → EndsOk c R H Ds p → ExS c E p.ex → t Ds σ H) : WSs c st ρ p :=
  ⟨fun pins s σ H R Ds E I S ps en x => hp.run pins s σ H Ds I (h σ H R Ds E S ps en x)⟩
theorem ExS.at {E : L2.St → XK} {ex : Rho → Xd → Prop} (x : ExS c E ex) (S : Sl c R H σ ρ) : ExOk c R H (E σ) (ex ρ) := fun y k d H' g ok a h => x _ H' σ ρ y k d (S.grow g ok) a h
theorem Fin.rt {P : D → Prop} {v : V} {H' : Hp} (S : Sl c R H σ ρ) (f : Fin c R H P v H') : ∃ d, Gr c.W c.H0 H' ∧ c.W.ok H' ∧ Dq c.W (Nw c.R0 c.H0) H' v d ∧ P d := by
  obtain ⟨d, g, ok, q, h⟩ := f
  exact ⟨d, S.gr.trans g, ok, q.wide (S.grow g ok).sub, h⟩
theorem WSs.mono {st : List Stmt} {p q : Po} (w : WSs c st ρ p) (h1 : ∀ ρ, p.nx ρ → q.nx ρ) (h2 : ∀ ρ d, p.rt ρ d → q.rt ρ d) (h3 : ∀ ρ, p.bk ρ → q.bk ρ) (h4 : ∀ ρ, p.ct ρ → q.ct ρ) (h5 : ∀ ρ x, p.ex ρ x → q.ex ρ x) : WSs c st ρ q :=
  ⟨fun pins s σ H R Ds E I S ps en x => w.run pins s σ H R Ds E I S ps ⟨fun R H σ ρ S k h => en.nx R H σ ρ S k (h1 ρ h), fun R H σ ρ v d S qq h => en.rt R H σ ρ v d S qq (h2 ρ d h), fun R H σ ρ S k h => en.bk R H σ ρ S k (h3 ρ h), fun R H σ ρ S k h => en.ct R H σ ρ S k (h4 ρ h)⟩ (fun R H σ ρ y k d S a h => x R H σ ρ y k d S a (h5 ρ y h))⟩

theorem wss_nil {p : Po} (h : p.nx ρ) : WSs c [] ρ p := wss_of pss_nil fun σ H R Ds E S _ en _ => en.nx R H σ ρ S Kp.refl h
theorem wss_cons {st : Stmt} {rest : List Stmt} {p : Po} (h : WS c st ρ { p with nx := fun ρ' => WSs c rest ρ' p }) : WSs c (st :: rest) ρ p :=
  wss_of (pss_cons (psU c st) (pssU c rest)) fun σ H R Ds E S ps en x =>
    ⟨ρ, R, E, { p with nx := fun ρ' => WSs c rest ρ' p }, S, ps, ⟨fun R1 H1 σ ρ' S' k w => ⟨ρ', R1, E, p, S', ps, en.from k, x, w⟩, en.rt, en.bk, en.ct⟩, x, h⟩
/-- the last statement -/
theorem wss_one {st : Stmt} {p : Po} (h : WS c st ρ p) : WSs c [st] ρ p := wss_of (pss_one (psU c st)) fun σ H R Ds E S ps en x => ⟨ρ, R, E, p, S, ps, en, x, h⟩
/-- an own list is a datum from here on -/
theorem wss_pub {st : List Stmt} {p : Po} (i : Nat) {ds : List D} (hi : ρ[i]? = some (some (.lst ds))) (h : WSs c st (ρ.set i (some (.val (.lst ds)))) p) : WSs c st ρ p := ⟨fun pins s σ H R Ds E I S ps en x =>
  let ⟨R', hR, S'⟩ := S.pub hi
  h.run pins s σ H R' Ds E I S' ps (en.from (Kp.wide hR)) x⟩
theorem ws_ret {e : Expr} {pos : Pos} {p : Po} (h : WE c e ρ (p.rt ρ) (p.ex ρ)) : WS c (.Return (some e) pos) ρ p :=
  ws_of (ps_ret (peU c e)) fun σ H R Ds E S ps en x => tU.mk h S (ps.at σ) (x.at S) fun v H' f => by
    obtain ⟨d, g, ok, q, hd⟩ := f
    exact en.rt _ H' σ ρ v d (S.grow g ok) q hd
theorem ws_retN {pos : Pos} {p : Po} (h : p.rt ρ .non) : WS c (.Return none pos) ρ p :=
  ws_of ps_retN fun σ H R Ds E S ps en x => en.rt R H σ ρ .non .non S .non h
theorem ws_expr {e : Expr} {pos : Pos} {p : Po} (h : WE c e ρ (fun _ => p.nx ρ) (p.ex ρ)) (hs : swapsWith e none pos.line c.X.env = pure false := by rfl) : WS c (.Expr e pos) ρ p :=
  ws_of (ps_expr (peU c e) hs) fun σ H R Ds E S ps en x => tU.mk h S (ps.at σ) (x.at S) fun v H' ⟨d, g, ok, q, hd⟩ => en.nx _ H' σ ρ (S.grow g ok) (Kp.grow S.ndr g) hd
theorem ws_set (i : Nat) {x : Str} {e : Expr} {pos pos' : Pos} {p : Po} (hN : c.X.N.Nodup) (hi : c.X.N[i]? = some x) (h : WE c e ρ (fun d => p.nx (ρ.set i (some (.val d)))) (p.ex ρ)) (hx : Loc c.X.env.scope x := by first | exact Or.inl rfl | exact Or.inr rfl)
    (hs : swapsWith e (some (.Name x pos')) pos.line c.X.env = pure false := by rfl) (hf : c.X.fn x = true ∨ c.X.env.scope.names.lookup x = some .local := by first | exact .inl rfl | exact .inr rfl) : WS c (.Assign [.Name x pos'] e pos) ρ p :=
  ws_of (ps_set hN hi hx (peU c e) hs hf) fun σ H R Ds E S ps en y => tU.mk h S (ps.at σ) (y.at S) fun v H' ⟨d, g, ok, q, hd⟩ => en.nx _ H' _ _ ((S.grow g ok).setVal q) (Kp.grow S.ndr g) hd
theorem ws_if {t : Expr} {a b : List Stmt} {pos : Pos} {p : Po} (h : WT c t ρ (fun k => (k = true → WSs c a ρ p) ∧ (k = false → WSs c b ρ p)) (p.ex ρ)) : WS c (.If t a b pos) ρ p :=
  ws_of (ps_if (ptU c t) (pssU c a) (pssU c b)) fun σ H R Ds E S ps en x => tUT.mk h S (ps.at σ) (x.at S) fun k H' ⟨g, ok, h1, h2⟩ => by
    cases k with
    | true => exact ⟨ρ, _, E, p, S.grow g ok, ps, en.from (Kp.grow S.ndr g), x, h1 rfl⟩
    | false => exact ⟨ρ, _, E, p, S.grow g ok, ps, en.from (Kp.grow S.ndr g), x, h2 rfl⟩
theorem ws_pass {pos : Pos} {p : Po} (h : p.nx ρ) : WS c (.Pass pos) ρ p := ws_of ps_pass fun σ H R Ds E S _ en _ => en.nx R H σ ρ S Kp.refl h
theorem ws_brk {pos : Pos} {p : Po} (h : p.bk ρ) : WS c (.Break pos) ρ p := ws_of ps_break fun σ H R Ds E S _ en _ => en.bk R H σ ρ S Kp.refl h
theorem ws_cont {pos : Pos} {p : Po} (h : p.ct ρ) : WS c (.Continue pos) ρ p := ws_of ps_continue fun σ H R Ds E S _ en _ => en.ct R H σ ρ S Kp.refl h

/-! ### tests, values of and, or, not -/
structure WP (c : Cy cls) (e : Expr) (ρ : Rho) (P : Bool → Prop) (ex : Xd → Prop) : Prop where
  run : ∀ (wh : Sem Value) (pins : List (Addr × Obj)) (s : Shared) (σ : L2.St) (H : Hp) (R : Addr → Prop) (E : XK), Inv c.X pins σ H s → Sl c R H σ ρ → Pas c.X σ E → ExOk c R H E ex →
    wpAny (model c.X.prog c.X.w) c.X.A (isTrue e c.X.env wh) (TP c.X pins σ (FinT c H P)) c.X.xe s
theorem wt_wp {e : Expr} {P : Bool → Prop} {ex : Xd → Prop} (h : WP c e ρ P ex) : WT c e ρ P ex := ⟨h.run _⟩
def tUP (c : Cy cls) (e : Expr) : TT := fun σ H Q => ∃ (ρ : Rho) (R : Addr → Prop) (E : XK) (P : Bool → Prop) (ex : Xd → Prop), Sl c R H σ ρ ∧ Pas c.X σ E ∧ ExOk c R H E ex ∧ WP c e ρ P ex ∧ ∀ v H', FinT c H P v H' → Q v H'
theorem pwU (c : Cy cls) (e : Expr) : PW c.X e (tUP c e) := ⟨fun wh pins s σ H Q I h => by
  obtain ⟨ρ, R, E, P, ex, S, p, x, w, k⟩ := h
  exact thn (w.run wh pins s σ H R E I S p x) fun u s' ⟨H', I', f⟩ => ⟨H', I', k _ H' f⟩⟩
theorem wp_of {e : Expr} {te : TT} {P : Bool → Prop} {ex : Xd → Prop} (hp : PW c.X e te) (h : ∀ σ H R E, Sl c R H σ ρ → Pas c.X σ E → ExOk c R H E ex → te σ H (FinT c H P)) : WP c e ρ P ex :=
  ⟨fun wh pins s σ H R E I S p x => hp.run wh pins s σ H _ I (h σ H R E S p x)⟩
theorem FinT.back {P : Bool → Prop} (g : Gr c.W H H') {b : Bool} {H2 : Hp} (f : FinT c H' P b H2) : FinT c H P b H2 := ⟨g.trans f.1, f.2.1, f.2.2⟩
theorem wp_and1 {a : Expr} {pos : Pos} {P : Bool → Prop} {ex : Xd → Prop} (h : WT c a ρ P ex) : WP c (.BoolOp .And [a] pos) ρ P ex := wp_of (pw_and1 (ptU c a)) fun σ H R E S p x => tUT.mk h S p x fun _ _ f => f
theorem wp_or1 {a : Expr} {pos : Pos} {P : Bool → Prop} {ex : Xd → Prop} (h : WT c a ρ P ex) : WP c (.BoolOp .Or [a] pos) ρ P ex := wp_of (pw_or1 (ptU c a)) fun σ H R E S p x => tUT.mk h S p x fun _ _ f => f
theorem wp_and {a b : Expr} {rest : List Expr} {pos : Pos} {P : Bool → Prop} {ex : Xd → Prop} (h : WT c a ρ (fun k => (k = true → WP c (.BoolOp .And (b :: rest) pos) ρ P ex) ∧ (k = false → P false)) ex) : WP c (.BoolOp .And (a :: b :: rest) pos) ρ P ex :=
  wp_of (pw_and (ptU c a) (pwU c _)) fun σ H R E S p x => tUT.mk h S p x fun k H' ⟨g, ok, h1, h2⟩ => by
    cases k with
    | true => exact ⟨ρ, _, E, P, ex, S.grow g ok, p, x.grow g ok, h1 rfl, fun v H2 f => f.back g⟩
    | false => exact ⟨g, ok, h2 rfl⟩
theorem wp_or {a b : Expr} {rest : List Expr} {pos : Pos} {P : Bool → Prop} {ex : Xd → Prop} (h : WT c a ρ (fun k => (k = true → P true) ∧ (k = false → WP c (.BoolOp .Or (b :: rest) pos) ρ P ex)) ex) : WP c (.BoolOp .Or (a :: b :: rest) pos) ρ P ex :=
  wp_of (pw_or (ptU c a) (pwU c _)) fun σ H R E S p x => tUT.mk h S p x fun k H' ⟨g, ok, h1, h2⟩ => by
    cases k with
    | true => exact ⟨g, ok, h1 rfl⟩
    | false => exact ⟨ρ, _, E, P, ex, S.grow g ok, p, x.grow g ok, h2 rfl, fun v H2 f => f.back g⟩
theorem wt_not {a : Expr} {pos : Pos} {P : Bool → Prop} {ex : Xd → Prop} (h : WT c a ρ (fun k => P (!k)) ex) : WT c (.UnaryOp .Not a pos) ρ P ex := wt_of (pt_not (ptU c a)) fun σ H R E S p x => tUT.mk h S p x fun _ _ f => f
theorem we_one {op} {a : Expr} {pos : Pos} {P : D → Prop} {ex : Xd → Prop} (h : WE c a ρ P ex) : WE c (.BoolOp op [a] pos) ρ P ex := we_of (pe_one (peU c a)) fun σ H R E S p x => tU.mk h S p x fun _ _ f => f
theorem we_and {a b : Expr} {rest : List Expr} {pos : Pos} {P : D → Prop} {ex : Xd → Prop} (h : WE c a ρ (fun x => ∃ k, x = .bl k ∧ (k = true → WE c (.BoolOp .And (b :: rest) pos) ρ P ex) ∧ (k = false → P (.bl false))) ex) : WE c (.BoolOp .And (a :: b :: rest) pos) ρ P ex :=
  we_of (pe_and (peU c a) (peU c _)) fun σ H R E S p x => tU.mk h S p x fun v H' ⟨d, g, ok, q, k, e, h1, h2⟩ => by
    subst e
    cases q
    refine ⟨k, rfl, ?_⟩
    cases k with
    | true => exact tU.mk (h1 rfl) (S.grow g ok) p (x.grow g ok) fun v H2 f => f.back g ok
    | false => exact ⟨_, g, ok, .bl false, h2 rfl⟩
theorem we_or {a b : Expr} {rest : List Expr} {pos : Pos} {P : D → Prop} {ex : Xd → Prop} (h : WE c a ρ (fun x => ∃ k, x = .bl k ∧ (k = true → P (.bl true)) ∧ (k = false → WE c (.BoolOp .Or (b :: rest) pos) ρ P ex)) ex) : WE c (.BoolOp .Or (a :: b :: rest) pos) ρ P ex :=
  we_of (pe_or (peU c a) (peU c _)) fun σ H R E S p x => tU.mk h S p x fun v H' ⟨d, g, ok, q, k, e, h1, h2⟩ => by
    subst e
    cases q
    refine ⟨k, rfl, ?_⟩
    cases k with
    | true => exact ⟨_, g, ok, .bl true, h1 rfl⟩
    | false => exact tU.mk (h2 rfl) (S.grow g ok) p (x.grow g ok) fun v H2 f => f.back g ok
theorem we_not {a : Expr} {pos : Pos} {P : D → Prop} {ex : Xd → Prop} (h : WE c a ρ (fun x => ∃ k, x = .bl k ∧ P (.bl (!k))) ex) : WE c (.UnaryOp .Not a pos) ρ P ex :=
  we_of (pe_not (peU c a)) fun σ H R E S p x => tU.mk h S p x fun v H' ⟨d, g, ok, q, k, e, h1⟩ => by
    subst e
    cases q
    exact ⟨k, rfl, _, g, ok, .bl _, h1⟩
theorem we_if {t a b : Expr} {pos : Pos} {P : D → Prop} {ex : Xd → Prop} (h : WT c t ρ (fun k => (k = true → WE c a ρ P ex) ∧ (k = false → WE c b ρ P ex)) ex) : WE c (.IfExp t a b pos) ρ P ex :=
  we_of (pe_ifExp (ptU c t) (peU c a) (peU c b)) fun σ H R E S p x => tUT.mk h S p x fun k H' ⟨g, ok, h1, h2⟩ => by
    cases k with
    | true => exact tU.mk (h1 rfl) (S.grow g ok) p (x.grow g ok) fun v H2 f => f.back g ok
    | false => exact tU.mk (h2 rfl) (S.grow g ok) p (x.grow g ok) fun v H2 f => f.back g ok

/-! ### several expressions in a row -/
def WAs (c : Cy cls) (ρ : Rho) (ex : Xd → Prop) : List Expr → (List D → Prop) → Prop
  | [], P => P []
  | e :: es, P => WE c e ρ (fun d => WAs c ρ ex es (fun ds => P (d :: ds))) ex
def tAs (c : Cy cls) : List Expr → TA
  | [] => tNil
  | e :: es => tCons (tU c e) (tAs c es)
theorem WAs.mono {ex : Xd → Prop} : ∀ {es : List Expr} {P P' : List D → Prop}, WAs c ρ ex es P → (∀ ds, P ds → P' ds) → WAs c ρ ex es P'
  | [], _, _, w, h => h [] w
  | e :: es, P, P', w, h => WE.mono w fun d z => WAs.mono z fun ds k => h (d :: ds) k
theorem WAs.len {ex : Xd → Prop} : ∀ {es : List Expr} {P : List D → Prop}, WAs c ρ ex es P → WAs c ρ ex es (fun ds => P ds ∧ ds.length = es.length)
  | [], _, w => ⟨w, rfl⟩
  | e :: es, P, w => WE.mono w fun d z => WAs.mono z.len fun ds k => ⟨k.1, by rw [List.length_cons, List.length_cons, k.2]⟩
theorem tAs.mk {ex : Xd → Prop} {E : XK} : ∀ {es : List Expr} {R : Addr → Prop} {H : Hp} {P : List D → Prop} {Q : List V → Hp → Prop}, WAs c ρ ex es P → Sl c R H σ ρ → Pas c.X σ E → ExOk c R H E ex → (∀ vs H', FinL c R H P vs H' → Q vs H') → tAs c es σ H Q
  | [], R, H, P, Q, w, S, p, x, k => k [] H ⟨[], Gr.refl, S.ok, .nil, w⟩
  | e :: es, R, H, P, Q, w, S, p, x, k => tU.mk w S p x fun v H1 ⟨d, g, ok, q, w1⟩ => tAs.mk w1 (S.grow g ok) p (x.grow g ok) fun vs H2 ⟨ds, g2, ok2, q2, h2⟩ =>
      k (v :: vs) H2 ⟨d :: ds, g.trans g2, ok2, .cons ((q.grow (S.grow g ok).ndr g2).wide (nw_nw ok g)) (q2.wide (nw_nw ok g)), h2⟩
theorem DqL.up {vs : List V} {ds : List D} {p : Addr} {o : HO} (hp : H p = none) (q : DqL c.W R H vs ds) : DqL c.W (Nw R H) (upd H p o) vs ds := q.mono (fun _ r => .inl r) fun a u _ e => by
  rw [upd_ne (ne_of_none e hp)]
  exact e
theorem we_tup {es : List Expr} {k} {pos : Pos} {P : D → Prop} {ex : Xd → Prop} (h : WAs c ρ ex es (fun ds => P (.tup ds))) (hp : PA c.X es (tAs c es) := by (repeat (first | exact pa_nil | refine pa_cons (peU _ _) ?_))) (hz : es.length ≤ sizeLine := by decide) : WE c (.Tuple es k pos) ρ P ex :=
  we_of (pe_tup hp) fun σ H R E S p x => tAs.mk h.len S p x fun vs H1 ⟨ds, g, ok, q, hd, hl⟩ => ⟨by rw [q.length, hl]; exact hz, fun a ha => (Fin.new ok ha (.tup (.inr ha) upd_same (DqL.up ha q)) hd).back g ok⟩
theorem we_lst {es : List Expr} {pos : Pos} {P : D → Prop} {ex : Xd → Prop} (h : WAs c ρ ex es (fun ds => P (.lst ds))) (hp : PA c.X es (tAs c es) := by (repeat (first | exact pa_nil | refine pa_cons (peU _ _) ?_))) (hz : es.length ≤ sizeLine := by decide) : WE c (.List es pos) ρ P ex :=
  we_of (pe_lst hp) fun σ H R E S p x => tAs.mk h.len S p x fun vs H1 ⟨ds, g, ok, q, hd, hl⟩ => ⟨by rw [q.length, hl]; exact hz, fun a ha => (Fin.new ok ha (.lst (.inr ha) upd_same (DqL.up ha q)) hd).back g ok⟩
/-- name = [..], nobody else has the list -/
theorem ws_own (i : Nat) {x : Str} {es : List Expr} {pos pos' pos2 : Pos} {p : Po} (hN : c.X.N.Nodup) (hi : c.X.N[i]? = some x) (h : WAs c ρ (p.ex ρ) es (fun ds => p.nx (ρ.set i (some (.lst ds))))) (hx : Loc c.X.env.scope x := by first | exact Or.inl rfl | exact Or.inr rfl)
    (hp : PA c.X es (tAs c es) := by (repeat (first | exact pa_nil | refine pa_cons (peU _ _) ?_))) (hz : es.length ≤ sizeLine := by decide)
    (hs : swapsWith (.List es pos2) (some (.Name x pos')) pos.line c.X.env = pure false := by rfl) (hf : c.X.fn x = true ∨ c.X.env.scope.names.lookup x = some .local := by first | exact .inl rfl | exact .inr rfl) : WS c (.Assign [.Name x pos'] (.List es pos2) pos) ρ p :=
  ws_of (ps_set hN hi hx (pe_lst hp) hs hf) fun σ H R Ds E S ps en y => tAs.mk h.len S (ps.at σ) (y.at S) fun vs H1 ⟨ds, g, ok, q, hd, hl⟩ => ⟨by rw [q.length, hl]; exact hz, fun a ha => en.nx _ _ _ _ ((S.grow g ok).setLst ha q) ((Kp.grow S.ndr g).trans (Kp.new ha)) hd⟩
/-- own.append(e) -/
theorem ws_app (i : Nat) {x : Str} {e : Expr} {pos ppos apos npos : Pos} {p : Po} {ds : List D} (hN : c.X.N[i]? = some x) (hρ : ρ[i]? = some (some (.lst ds))) (hz : ds.length < sizeLine) (h : WE c e ρ (fun d => p.nx (ρ.set i (some (.lst (ds ++ [d]))))) (p.ex ρ))
    (hv : Vis c.X.env.scope x := by first | exact Or.inl rfl | exact Or.inr (Or.inl rfl) | exact Or.inr (Or.inr rfl)) (hd : (x == ("__debug__" : Str)) = false := by decide) (hcd : (x == ("__classdict__" : Str)) = false := by decide)
    (hpe : PE c.X (.Call (.Attribute (.Name x npos) "append" apos) [e] [] ppos) (tBM c.X.K "list" rAppend (tVar i) (tAs c [e])) := by exact pe_bm PySem.F.plainAttrs_list PySem.F.slot_list_append PySem.F.type_list_append mt_append (pv _) (pa_cons (peU _ _) pa_nil))
    (hs : swapsWith (.Call (.Attribute (.Name x npos) "append" apos) [e] [] ppos) none pos.line c.X.env = pure false := by rfl) : WS c (.Expr (.Call (.Attribute (.Name x npos) "append" apos) [e] [] ppos) pos) ρ p :=
  ws_of (ps_expr hpe hs) fun σ H R Ds E S ps en y => by
    obtain ⟨a, vs, h1, h2, h3, h4, h5⟩ := S.lst i ds hρ
    refine ⟨_, h1, .inl ⟨rfl, _, .inl (.inl h4)⟩, ?_⟩
    refine tU.mk h S (ps.at σ) (y.at S) fun v H1 ⟨d, g, ok, q, hd⟩ => ?_
    have S1 := S.grow g ok
    obtain ⟨a', vs', g1, g2, g3, g4, g5⟩ := S1.lst i ds hρ
    rw [h1] at g1
    cases g1
    exact ⟨a, vs', v, rfl, rfl, g4, by rw [g5.length]; exact hz, en.nx _ _ _ _ (S1.mutLst hρ h1 (g5.append (.cons q .nil))) ((Kp.grow S.ndr g).trans (Kp.mut g2)) hd⟩
end
end Vl
end
section
set_option maxHeartbeats 4000000
namespace Vl
open PySem PySem.Spec PyProof.Rows L2
variable {cls : Nat → Addr}

/-! ### defs -/
/-- what a def is worth: the arguments, what is wanted of the answer, what is wanted of what is raised -/
abbrev FS := List D → (D → Prop) → (Xd → Prop) → Prop
def spOf (cls : Nat → Addr) (fs : FS) : Sp := fun vs H Q E => ∃ (W : Wd cls) (R : Addr → Prop) (ds : List D) (rt : D → Prop) (ex : Xd → Prop), W.nd R ∧ W.ok H ∧ DqL W R H vs ds ∧ fs ds rt ex ∧
  (∀ v d H', Gr W H H' → W.ok H' → Dq W (Nw R H) H' v d → rt d → Q v H') ∧ (∀ x k d H', Gr W H H' → W.ok H' → ExcAt W (Nw R H) H' k d x → ex x → E k d H')
structure Df (P : Program) (w : World) (K : PySem.W.Frag) (mg : Str → Option Value) (base : Heap) (cls : Nat → Addr) (x : Str) (k : Nat) (ps : List Str) (fs : FS) : Prop where
  ex : ∃ f fd, FnOk P w K mg base (L2N.CX P w) k f fd ps (spOf cls fs) ∧ mg x = some (.ref f) ∧ PySem.W.keepIn K (.ref f) = true ∧ Binds K fd ps []
abbrev DfX (X : Cx) (cls : Nat → Addr) (x : Str) (k : Nat) (ps : List Str) (fs : FS) : Prop := Df X.prog X.w X.K X.mg X.base cls x k ps fs
section
variable {c : Cy cls} {R : Addr → Prop} {H H' : Hp} {σ : L2.St} {ρ : Rho}
theorem spOf.mk {fs : FS} {vs : List V} {ds : List D} {P : D → Prop} {ex : Xd → Prop} {E : XK} (S : Sl c R H σ ρ) (g : Gr c.W H H') (ok : c.W.ok H') (q : DqL c.W (Nw R H) H' vs ds) (h : fs ds P ex) (x : ExOk c R H E ex) : spOf cls fs vs H' (Fin c R H P) E :=
  ⟨c.W, Nw R H, ds, P, ex, (S.grow g ok).ndr, ok, q, h, fun v d H2 g2 ok2 q2 h2 => Fin.back g ok ⟨d, g2, ok2, q2, h2⟩, x.grow g ok⟩
theorem we_call {x : Str} {p pos : Pos} {e : Expr} {es : List Expr} {k : Nat} {ps : List Str} {fs : FS} {P : D → Prop} {ex : Xd → Prop} (d : DfX c.X cls x k ps fs) (hr : Room k c.X.A) (h : WAs c ρ ex (e :: es) (fun ds => fs ds P ex))
    (hg : Gl c.X x := by rfl) (ha : PA c.X (e :: es) (tAs c (e :: es)) := by (repeat (first | exact pa_nil | refine pa_cons (peU _ _) ?_))) (hdb : (x == ("__debug__" : Str)) = false := by decide)
    (he : starEach (e :: es) c.X.env = (false, eval e c.X.env) :: starEach es c.X.env := by rfl) (hpl : (backTo pos (starEach es c.X.env)).any (·.1) = false := by rfl) : WE c (.Call (.Name x p) (e :: es) [] pos) ρ P ex := by
  refine ⟨fun pins s σ H R E I S ps' y => ?_⟩
  obtain ⟨f, fd, F, hm, hk, hb⟩ := d.ex
  refine wpAny_Call_Name_kw (ld_glob I hg hm ?_ hdb)
  have h' : tAs c (e :: es) σ H (fun vs H1 => spOf cls fs vs H1 (Fin c R H P) E) := tAs.mk h S ps' y fun vs H1 ⟨ds, g, ok, q, hd⟩ => spOf.mk S g ok q hd y
  refine PySem.W.callWith_K (h₀ := c.X.base) I.ok.mod.kin hk (thn (ha.run pos pins s σ H _ I h') fun us s1 ⟨vs, H1, I1, r, q⟩ => ⟨I1.kIn, ?_⟩) he hpl
  exact run_fnS (E := fun _ => E) F hr hb ps' I1 r q
end

/-! ### a def's body -/
def rho0 (N : List Str) (ds : List D) : Rho := ds.map (fun d => some (.val d)) ++ List.replicate (N.length - ds.length) none
theorem Sl.start {c : Cy cls} {N : List Str} {vs : List V} {ds : List D} (nd : c.W.nd c.R0) (ok : c.W.ok c.H0) (q : DqL c.W c.R0 c.H0 vs ds) : Sl c c.R0 c.H0 (L2.start N vs) (rho0 N ds) where
  ndr := nd
  ok := ok
  ok0 := c.W.some c.H0 ok
  gr := Gr.refl
  sub := fun a r => .inl r
  len := by simp [L2.start, rho0, q.length]
  val := fun i d h => by
    unfold rho0 at h
    have hi : i < ds.length := by
      by_cases hi : i < ds.length
      · exact hi
      · rw [List.getElem?_append_right (by simpa using hi), List.getElem?_replicate] at h
        split at h <;> cases h
    rw [List.getElem?_append_left (by simpa using hi), List.getElem?_map] at h
    cases e : ds[i]? with
    | none => rw [e] at h; cases h
    | some d' =>
      rw [e] at h
      cases h
      obtain ⟨v, h1, h2⟩ := q.get e
      refine ⟨v, ?_, h2⟩
      unfold L2.start
      have hv : i < vs.length := (List.getElem?_eq_some_iff.mp h1).1
      rw [List.getElem?_append_left (by simpa using hv), List.getElem?_map, h1]
      rfl
  exc := fun i ds' h => by
    unfold rho0 at h
    by_cases hi : i < ds.length
    · rw [List.getElem?_append_left (by simpa using hi), List.getElem?_map] at h
      cases e : ds[i]? with
      | none => rw [e] at h; cases h
      | some d' => rw [e] at h; cases h
    · rw [List.getElem?_append_right (by simpa using hi), List.getElem?_replicate] at h
      split at h <;> cases h
  lst := fun i ds' h => by
    unfold rho0 at h
    by_cases hi : i < ds.length
    · rw [List.getElem?_append_left (by simpa using hi), List.getElem?_map] at h
      cases e : ds[i]? with
      | none => rw [e] at h; cases h
      | some d' => rw [e] at h; cases h
    · rw [List.getElem?_append_right (by simpa using hi), List.getElem?_replicate] at h
      split at h <;> cases h
  sep := fun i j ds' es a _ h => by
    unfold rho0 at h
    by_cases hi : i < ds.length
    · rw [List.getElem?_append_left (by simpa using hi), List.getElem?_map] at h
      cases e : ds[i]? with
      | none => rw [e] at h; cases h
      | some d' => rw [e] at h; cases h
    · rw [List.getElem?_append_right (by simpa using hi), List.getElem?_replicate] at h
      split at h <;> cases h
  ob := fun i a k fs h => by
    unfold rho0 at h
    by_cases hi : i < ds.length
    · rw [List.getElem?_append_left (by simpa using hi), List.getElem?_map] at h
      cases e : ds[i]? with
      | none => rw [e] at h; cases h
      | some d' => rw [e] at h; cases h
    · rw [List.getElem?_append_right (by simpa using hi), List.getElem?_replicate] at h
      split at h <;> cases h
abbrev cyOf (P : Program) (w : World) (K : PySem.W.Frag) (mg : Str → Option Value) (base : Heap) (N : List Str) (qual : Str) (sc : Scope) (f : Addr) (cdv : Value) (A : Around) (outer : List Env) (s : Shared) (H : Hp) (E : XK) (W : Wd cls) (R : Addr → Prop) : Cy cls :=
  ⟨cxOf (L2N.CX P w) P w K mg base N qual sc f cdv A outer s H E, W, R, H⟩
section
variable {P : Program} {w : World} {K : PySem.W.Frag} {mg : Str → Option Value} {base : Heap}
/-- a def that may raise, by its body -/
theorem okN {x qual : Str} {st : Stmt} {f : Addr} {fd : FuncData} {N ps : List Str} {k : Nat} {sp : Sp} (F : Fun K x qual st f fd) (S : FnScope N ps (defScope st)) (len : ∀ vs H Q E, sp vs H Q E → vs.length = ps.length)
    (bd : ∀ (cdv : Value) (A : Around) (outer : List Env) (s : Shared) (H : Hp) (vs : List V) (Q : VK) (E : XK), Room k (A.deeper (envOfC qual (defScope st) s.heap.objs.size f cdv)) → sp vs H Q E →
      ∃ t, PSs (cxOf (L2N.CX P w) P w K mg base N qual (defScope st) f cdv A outer s H E) (defBody st) t ∧ t { nx := fun _ H' => Q .non H', rt := Q } (L2.start N vs) H) : FnOk P w K mg base (L2N.CX P w) (k + 1) f fd ps sp := by
  have ⟨_, _, _, _, _, _, cdv, _, _, e, lk, hc⟩ := F.ex
  cases e
  exact fn_of lk hc S len fun A outer s H vs Q E => bd cdv A outer s H vs Q E
theorem def_ok {x qual : Str} {st : Stmt} {f : Addr} {fd : FuncData} {N ps : List Str} {k : Nat} {fs : FS} (F : Fun K x qual st f fd) (S : FnScope N ps (defScope st)) (len : ∀ ds rt ex, fs ds rt ex → ds.length = ps.length)
    (body : ∀ (cdv : Value) (A : Around) (outer : List Env) (s : Shared) (H : Hp) (E : XK) (W : Wd cls) (R : Addr → Prop) (ds : List D) (rt : D → Prop) (ex : Xd → Prop), Room k (A.deeper (envOfC qual (defScope st) s.heap.objs.size f cdv)) → fs ds rt ex →
      WSs (cyOf P w K mg base N qual (defScope st) f cdv A outer s H E W R) (defBody st) (rho0 N ds) { nx := fun _ => rt .non, rt := fun _ => rt, ex := fun _ => ex }) : FnOk P w K mg base (L2N.CX P w) (k + 1) f fd ps (spOf cls fs) := by
  refine okN F S (fun vs H Q E h => ?_) (fun cdv A outer s H vs Q E hr h => ?_)
  · obtain ⟨W, R, ds, rt, ex, _, _, q, h, _⟩ := h
    rw [q.length]
    exact len _ _ _ h
  · obtain ⟨W, R, ds, rt, ex, nd, ok, q, h, k1, k2⟩ := h
    refine ⟨_, pssU (cyOf P w K mg base N qual (defScope st) f cdv A outer s H E W R) _, rho0 N ds, R, fun _ => E, { nx := fun _ => rt .non, rt := fun _ => rt, ex := fun _ => ex }, Sl.start nd ok q, L2N.takes_of rfl rfl rfl rfl, ⟨fun R' H' σ ρ S _ h => ?_, fun R' H' σ ρ v d S q h => k1 v d H' S.gr S.ok (q.wide S.sub) h, fun _ _ _ _ _ _ z => z.elim, fun _ _ _ _ _ _ z => z.elim⟩, fun R' H' σ ρ x kk d S a h => ?_, body cdv A outer s H E W R ds rt ex hr h⟩
    · exact k1 .non .non H' S.gr S.ok .non h
    · exact k2 x kk d H' S.gr S.ok (a.wide S.sub) h
theorem df_mk {x qual : Str} {st : Stmt} {f : Addr} {fd : FuncData} {ps : List Str} {k : Nat} {fs : FS} (F : Fun K x qual st f fd) (G : FnOk P w K mg base (L2N.CX P w) k f fd ps (spOf cls fs)) (hm : mg x = some (.ref f))
    (h : ∀ (kV doc pm : Value) (an : Option Addr) (cdv ct : Value) (us : List Value), us.length = ps.length → bindArgs (PySem.W.fnOf x qual (defArgs st) (defBody st) (defScope st) .none kV doc pm an cdv ct) ⟨us, []⟩ = pure (ps.zip us)) : Df P w K mg base cls x k ps fs :=
  ⟨f, fd, G, hm, F.kp, F.binds h⟩
end

/-! ### built-in functions by their name, built-in classes -/
section
variable {c : Cy cls} {R : Addr → Prop} {H H' : Hp} {σ : L2.St} {ρ : Rho}
theorem we_blt {e : Expr} {es : List Expr} {r : List V → Hp → VK → Prop} {F : List D → (D → Prop) → Prop} {P : D → Prop} {ex : Xd → Prop} (hp : PE c.X e (tCB r (tAs c es))) (hF : LsD c r F) (h : WAs c ρ ex es (fun ds => F ds P)) : WE c e ρ P ex :=
  we_of hp fun σ H R E S p x => tAs.mk h S p x fun vs H1 ⟨ds, g, ok, q, hd⟩ => hF _ _ _ _ _ (S.grow g ok).ndr ok q hd _ fun v H' f => f.back g ok
/-- how long a datum is -/
def lenD : D → Option Nat
  | .str x => if x.length ≤ sizeLine then some x.length else none
  | .lst xs => some xs.length
  | .tup xs => some xs.length
  | _ => none
theorem sq_l {K : PySem.W.Frag} {a : Addr} {vs : List V} (h : H a = some (.lst vs)) : SqL K H a vs := .inl (.inl h)
theorem sq_t {K : PySem.W.Frag} {a : Addr} {vs : List V} (h : H a = some (.tup vs)) : SqT K H a vs := .inl (.inl h)
theorem lsd_len : LsD c (fun xs H Q => ∃ x n, xs = [x] ∧ LenV c.X.K x H n ∧ Q (.int n) H) (fun ds P => ∃ d n, ds = [d] ∧ lenD d = some n ∧ P (.int n)) := fun R H vs ds P nd ok q f Q k => by
  obtain ⟨d, n, rfl, hl, h⟩ := f
  cases q with
  | cons q r =>
    cases r
    refine ⟨_, n, rfl, ?_, k _ _ (Fin.here ok nd (.int _) h)⟩
    cases q with
    | str x =>
      simp only [lenD] at hl
      by_cases hz : x.length ≤ sizeLine
      · rw [if_pos hz] at hl
        cases hl
        exact ⟨hz, rfl⟩
      · rw [if_neg hz] at hl
        cases hl
    | lst _ e q2 =>
      simp only [lenD] at hl
      cases hl
      exact .inl ⟨_, sq_l e, by rw [q2.length]⟩
    | tup _ e q2 =>
      simp only [lenD] at hl
      cases hl
      exact .inr ⟨_, sq_t e, by rw [q2.length]⟩
    | _ => cases hl
theorem lsd_abs : LsD c (fun xs H Q => ∃ i, xs = [.int i] ∧ Q (.int (if i < 0 then -i else i)) H) (fun ds P => ∃ i, ds = [.int i] ∧ P (.int (if i < 0 then -i else i))) := fun R H vs ds P nd ok q f Q k => by
  obtain ⟨i, rfl, h⟩ := f
  cases q with
  | cons q r =>
    cases r
    cases q
    exact ⟨i, rfl, k _ _ (Fin.here ok nd (.int _) h)⟩
theorem lsd_int : LsD c (fun xs H Q => (∃ i, xs = [.int i] ∧ Q (.int i) H) ∨ ∃ k, xs = [.bl k] ∧ Q (.int (if k then 1 else 0)) H) (fun ds P => ∃ i, ds = [.int i] ∧ P (.int i)) := fun R H vs ds P nd ok q f Q k => by
  obtain ⟨i, rfl, h⟩ := f
  cases q with
  | cons q r =>
    cases r
    cases q
    exact .inl ⟨i, rfl, k _ _ (Fin.here ok nd (.int _) h)⟩
theorem DqL.ints : ∀ {vs : List V} {ns : List Int} {W : Wd cls}, DqL W R H vs (ns.map D.int) → vs = ns.map V.int
  | _, [], _, .nil => rfl
  | _, n :: ns, _, .cons q r => by cases q; rw [List.map_cons, r.ints]
theorem DqL.bls : ∀ {vs : List V} {ns : List Bool} {W : Wd cls}, DqL W R H vs (ns.map D.bl) → vs = ns.map V.bl
  | _, [], _, .nil => rfl
  | _, n :: ns, _, .cons q r => by cases q; rw [List.map_cons, r.bls]
theorem DqL.strs : ∀ {vs : List V} {ns : List Str} {W : Wd cls}, DqL W R H vs (ns.map D.str) → vs = ns.map V.str
  | _, [], _, .nil => rfl
  | _, n :: ns, _, .cons q r => by cases q; rw [List.map_cons, r.strs]
theorem DqL.of_ints {W : Wd cls} : ∀ (ns : List Int), DqL W R H (ns.map V.int) (ns.map D.int)
  | [] => .nil
  | n :: ns => .cons (.int n) (DqL.of_ints ns)
theorem DqL.of_strs {W : Wd cls} : ∀ (ns : List Str), DqL W R H (ns.map V.str) (ns.map D.str)
  | [] => .nil
  | n :: ns => .cons (.str n) (DqL.of_strs ns)
theorem lsd_sum : LsD c (rSum c.X.K) (fun ds P => ∃ ns : List Int, ds = [.lst (ns.map D.int)] ∧ P (.int ns.sum)) := fun R H vs ds P nd ok q f Q k => by
  obtain ⟨ns, rfl, h⟩ := f
  cases q with
  | cons q r =>
    cases r
    cases q with
    | lst _ e q =>
      rw [q.ints] at e
      exact ⟨_, ns, rfl, sq_l e, k _ _ (Fin.here ok nd (.int _) h)⟩
theorem lsd_all : LsD c (rAll c.X.K) (fun ds P => ∃ bs : List Bool, ds = [.lst (bs.map D.bl)] ∧ P (.bl (bs.all id))) := fun R H vs ds P nd ok q f Q k => by
  obtain ⟨ns, rfl, h⟩ := f
  cases q with
  | cons q r =>
    cases r
    cases q with
    | lst _ e q =>
      rw [q.bls] at e
      exact ⟨_, ns, rfl, sq_l e, k _ _ (Fin.here ok nd (.bl _) h)⟩
theorem lsd_any : LsD c (rAny c.X.K) (fun ds P => ∃ bs : List Bool, ds = [.lst (bs.map D.bl)] ∧ P (.bl (bs.any id))) := fun R H vs ds P nd ok q f Q k => by
  obtain ⟨ns, rfl, h⟩ := f
  cases q with
  | cons q r =>
    cases r
    cases q with
    | lst _ e q =>
      rw [q.bls] at e
      exact ⟨_, ns, rfl, sq_l e, k _ _ (Fin.here ok nd (.bl _) h)⟩
/-- sorted of texts, shorter than 64 -/
theorem lsd_sortedS : LsD c (rSortedS c.X.K) (fun ds P => ∃ xs : List Str, ds = [.lst (xs.map D.str)] ∧ xs.length < 64 ∧ ∀ ys : List Str, ys.Perm xs → sortedS ys = true → P (.lst (ys.map D.str))) := fun R H vs ds P nd ok q f Q k => by
  obtain ⟨xs, rfl, hz, h⟩ := f
  cases q with
  | cons q r =>
    cases r
    cases q with
    | lst _ e q =>
      rw [q.strs] at e
      exact ⟨_, xs, rfl, sq_l e, hz, fun ys p h1 h2 hp => k _ _ (Fin.new ok hp (.lst (.inr hp) upd_same (DqL.of_strs ys)) (h ys h1 h2))⟩
/-- tuple(a list), a tuple -/
theorem lsd_tuple : LsD c (fun xs H Q => ∃ p ys, xs = [.ref p] ∧ ((SqL c.X.K H p ys ∧ ∀ l, H l = none → Q (.ref l) (upd H l (.tup ys))) ∨ (SqT c.X.K H p ys ∧ Q (.ref p) H))) (fun ds P => ∃ xs, (ds = [.lst xs] ∨ ds = [.tup xs]) ∧ P (.tup xs)) := fun R H vs ds P nd ok q f Q k => by
  obtain ⟨xs, h1 | h1, h⟩ := f
  · subst h1
    cases q with
    | cons q r =>
      cases r
      cases q with
      | lst _ e q => exact ⟨_, _, rfl, .inl ⟨sq_l e, fun l hl => k _ _ (Fin.new ok hl (.tup (.inr hl) upd_same (DqL.up (c := c) hl q)) h)⟩⟩
  · subst h1
    cases q with
    | cons q r =>
      cases r
      cases q with
      | tup rr e q => exact ⟨_, _, rfl, .inr ⟨sq_t e, k _ _ (Fin.here ok nd (.tup rr e q) h)⟩⟩
theorem lsd_list : LsD c (fun xs H Q => ∃ p ys, xs = [.ref p] ∧ (SqL c.X.K H p ys ∨ SqT c.X.K H p ys) ∧ ∀ l, H l = none → Q (.ref l) (upd H l (.lst ys))) (fun ds P => ∃ xs, (ds = [.lst xs] ∨ ds = [.tup xs]) ∧ P (.lst xs)) := fun R H vs ds P nd ok q f Q k => by
  obtain ⟨xs, h1 | h1, h⟩ := f
  · subst h1
    cases q with
    | cons q r =>
      cases r
      cases q with
      | lst _ e q => exact ⟨_, _, rfl, .inl (sq_l e), fun l hl => k _ _ (Fin.new ok hl (.lst (.inr hl) upd_same (DqL.up (c := c) hl q)) h)⟩
  · subst h1
    cases q with
    | cons q r =>
      cases r
      cases q with
      | tup rr e q => exact ⟨_, _, rfl, .inr (sq_t e), fun l hl => k _ _ (Fin.new ok hl (.lst (.inr hl) upd_same (DqL.up (c := c) hl q)) h)⟩

/-! ### items -/
def itemD : D → Int → Option D
  | .lst xs, i => atI xs i
  | .tup xs, i => atI xs i
  | .str z, i => if z.length ≤ sizeLine then (atI z.cps.toList i).map fun n => .str ⟨#[n]⟩ else none
  | _, _ => none
theorem DqL.atI {W : Wd cls} {vs : List V} {ds : List D} {i : Int} {d : D} (q : DqL W R H vs ds) (e : L2.atI ds i = some d) : ∃ v, L2.atI vs i = some v ∧ Dq W R H v d := by
  unfold L2.atI at e ⊢
  rw [← q.length] at e
  cases h : ixN vs.length i with
  | none => rw [h] at e; cases e
  | some j =>
    rw [h] at e
    exact q.get e
theorem opd_ix : OpD c (rIx c.X.K) (fun x y P => ∃ i d, y = .int i ∧ itemD x i = some d ∧ P d) := fun R H vx vy x y P nd ok qx qy f Q k => by
  obtain ⟨i, d, rfl, hi, h⟩ := f
  cases qy
  cases qx with
  | str z =>
    simp only [itemD] at hi
    by_cases hz : z.length ≤ sizeLine
    · rw [if_pos hz] at hi
      cases e : L2.atI z.cps.toList i with
      | none => rw [e] at hi; cases hi
      | some n =>
        rw [e] at hi
        cases hi
        exact .inr (.inr ⟨z, i, n, rfl, rfl, hz, e, k _ _ (Fin.here ok nd (.str _) h)⟩)
    · rw [if_neg hz] at hi
      cases hi
  | lst rr e q =>
    simp only [itemD] at hi
    obtain ⟨v, h1, h2⟩ := q.atI hi
    exact .inl ⟨_, _, i, v, rfl, rfl, sq_l e, h1, k _ _ (Fin.here ok nd h2 h)⟩
  | tup rr e q =>
    simp only [itemD] at hi
    obtain ⟨v, h1, h2⟩ := q.atI hi
    exact .inr (.inl ⟨_, _, i, v, rfl, rfl, sq_t e, h1, k _ _ (Fin.here ok nd h2 h)⟩)
  | _ => simp only [itemD] at hi; cases hi
end
end Vl
end
section
set_option maxHeartbeats 4000000
namespace Vl
open PySem PySem.Spec PyProof.Rows L2
variable {cls : Nat → Addr}
section
variable {c : Cy cls} {R : Addr → Prop} {H H' : Hp} {σ : L2.St} {ρ : Rho}
/-! ### what a for walks -/
/-- J yields the items, as long as the region is kept -/
def IterD (c : Cy cls) (R : Addr → Prop) (H : Hp) (J : It) (items : List D) : Prop := ∃ (G : Hp → Prop) (Y : Nat → Hp → V → Hp → Prop), Walk J items.length G Y ∧ (∀ R' H', Kp R H R' H' → G H') ∧
  ∀ i Hc x H', Y i Hc x H' → ∀ R', c.W.nd R' → c.W.ok Hc → Kp R H R' Hc → ∃ d, items[i]? = some d ∧ Same Hc H' ∧ Dq c.W (Nw R' Hc) H' x d
def FinJ (c : Cy cls) (R : Addr → Prop) (H : Hp) (P : List D → Prop) : It → Hp → Prop := fun J H' => ∃ items, Gr c.W H H' ∧ c.W.ok H' ∧ IterD c (Nw R H) H' J items ∧ P items
structure WI (c : Cy cls) (tg iter : Expr) (ρ : Rho) (P : List D → Prop) (ex : Xd → Prop) : Prop where
  run : ∀ (pins : List (Addr × Obj)) (s : Shared) (σ : L2.St) (H : Hp) (R : Addr → Prop) (E : XK), Inv c.X pins σ H s → Sl c R H σ ρ → Pas c.X σ E → ExOk c R H E ex →
    wpAny (model c.X.prog c.X.w) c.X.A (eval iter c.X.env) (fun v s1 => wpAny (model c.X.prog c.X.w) c.X.A (pyIter v) (PIE c.X pins σ tg (FinJ c R H P)) c.X.xe s1) c.X.xe s
def tUI (c : Cy cls) (tg iter : Expr) : TI := fun σ H Q => ∃ (ρ : Rho) (R : Addr → Prop) (E : XK) (P : List D → Prop) (ex : Xd → Prop), Sl c R H σ ρ ∧ Pas c.X σ E ∧ ExOk c R H E ex ∧ WI c tg iter ρ P ex ∧ ∀ J H', FinJ c R H P J H' → Q J H'
theorem piU (c : Cy cls) (tg iter : Expr) : PI c.X tg iter (tUI c tg iter) := ⟨fun pins s σ H Q I h => by
  obtain ⟨ρ, R, E, P, ex, S, p, x, w, k⟩ := h
  exact thn (w.run pins s σ H R E I S p x) fun v s1 q => thn q fun itv s2 z => by
    obtain ⟨it, fp, tn, J, H2, e, I2, T, st2, f2, f⟩ := z
    exact ⟨it, fp, tn, J, H2, e, I2, T, st2, f2, k J H2 f⟩⟩
theorem wi_of {tg iter : Expr} {ti : TI} {P : List D → Prop} {ex : Xd → Prop} (hp : PI c.X tg iter ti) (h : ∀ σ H R E, Sl c R H σ ρ → Pas c.X σ E → ExOk c R H E ex → ti σ H (FinJ c R H P)) : WI c tg iter ρ P ex :=
  ⟨fun pins s σ H R E I S p x => hp.run pins s σ H _ I (h σ H R E S p x)⟩
theorem IterD.list {a : Addr} {vs : List V} {ds : List D} (r : R a) (e : H a = some (.lst vs)) (q : DqL c.W R H vs ds) : IterD c R H (Itl c.X.K a) ds :=
  ⟨_, _, by rw [← q.length]; exact walk_list, fun R' H' k => sq_l (k a _ r e).2, fun i Hc x H' y R' nd ok k => by
    obtain ⟨e1, e2⟩ := y
    subst e1
    obtain ⟨d, h1, h2⟩ := q.get' e2
    exact ⟨d, h1, Same.refl _, (k.dq h2).grow nd Gr.refl⟩⟩
theorem IterD.tup {a : Addr} {vs : List V} {ds : List D} (r : R a) (e : H a = some (.tup vs)) (q : DqL c.W R H vs ds) : IterD c R H (Itt c.X.K a) ds :=
  ⟨_, _, by rw [← q.length]; exact walk_tup, fun R' H' k => sq_t (k a _ r e).2, fun i Hc x H' y R' nd ok k => by
    obtain ⟨e1, e2⟩ := y
    subst e1
    obtain ⟨d, h1, h2⟩ := q.get' e2
    exact ⟨d, h1, Same.refl _, (k.dq h2).grow nd Gr.refl⟩⟩
/-- the signs of a text -/
def signs (z : Str) : List D := z.cps.toList.map fun n => .str ⟨#[n]⟩
theorem signs_length (z : Str) : (signs z).length = z.length := by unfold signs; rw [List.length_map, Array.length_toList]; rfl
theorem IterD.str {z : Str} : IterD c R H (Its z) (signs z) :=
  ⟨fun _ => True, _, by rw [signs_length]; exact walk_str, fun _ _ _ => True.intro, fun i Hc x H' y R' nd ok k => by
    obtain ⟨e1, n, h1, h2⟩ := y
    subst e1 h2
    refine ⟨.str ⟨#[n]⟩, ?_, Same.refl _, .str _⟩
    unfold signs
    rw [List.getElem?_map, Array.getElem?_toList, h1]
    rfl⟩
/-- 0, 1, .. below n, from lo -/
def rangeD (lo : Int) (n : Nat) : List D := (List.range n).map fun i => .int (lo + (i : Nat))
theorem rangeD_length {lo : Int} {n : Nat} : (rangeD lo n).length = n := by unfold rangeD; rw [List.length_map, List.length_range]
theorem rangeD_get {lo : Int} {n i : Nat} {d : D} (h : (rangeD lo n)[i]? = some d) : i < n ∧ d = .int (lo + (i : Nat)) := by
  unfold rangeD at h
  rw [List.getElem?_map] at h
  by_cases hi : i < n
  · rw [List.getElem?_range hi] at h
    exact ⟨hi, (Option.some.inj h).symm⟩
  · rw [List.getElem?_eq_none (by simpa using hi)] at h
    cases h
theorem IterD.range {lo : Int} {n : Nat} : IterD c R H (Itr lo n) (rangeD lo n) := by
  refine ⟨fun _ => True, fun i Hc x H' => i < n ∧ H' = Hc ∧ x = .int (lo + (i : Nat)), ?_, fun _ _ _ => True.intro, fun i Hc x H' y R' nd ok k => ?_⟩
  · rw [rangeD_length]
    exact ⟨fun _ _ hi _ => hi, fun _ _ => Nat.le_refl _, fun i _ _ _ hi _ y => ⟨hi, y⟩⟩
  · obtain ⟨hi, e1, e2⟩ := y
    subst e1 e2
    refine ⟨.int (lo + (i : Nat)), ?_, Same.refl _, .int _⟩
    unfold rangeD
    rw [List.getElem?_map, List.getElem?_range hi]
    rfl
/-- pairs -/
theorem IterD.pair {J : It} {n : Nat} {G : Hp → Prop} {fx fy : Nat → Option V} {gx gy : Nat → Option D} {items : List D} (w : Walk J n G (YPair fx fy)) (hn : items.length = n) (hG : ∀ R' H', Kp R H R' H' → G H')
    (hx : ∀ i v, fx i = some v → ∃ d, gx i = some d ∧ Dq c.W R H v d) (hy : ∀ i v, fy i = some v → ∃ d, gy i = some d ∧ Dq c.W R H v d) (hi : ∀ i d e, gx i = some d → gy i = some e → items[i]? = some (.tup [d, e])) : IterD c R H J items := by
  refine ⟨G, _, by rw [hn]; exact w, hG, fun i Hc x H' y R' nd ok k => ?_⟩
  obtain ⟨T, vx, vy, e1, e2, e3, e4, e5⟩ := y
  subst e1 e3
  obtain ⟨dx, h1, q1⟩ := hx i vx e4
  obtain ⟨dy, h2, q2⟩ := hy i vy e5
  exact ⟨.tup [dx, dy], hi i dx dy h1 h2, same_upd e2, .tup (.inr e2) upd_same (DqL.up (c := c) e2 (.cons (k.dq q1) (.cons (k.dq q2) .nil)))⟩

theorem wi_list {tg l : Expr} {P : List D → Prop} {ex : Xd → Prop} (h : WE c l ρ (fun x => ∃ ds, x = .lst ds ∧ P ds) ex) : WI c tg l ρ P ex :=
  wi_of (pi_list (peU c l)) fun σ H R E S p x => tU.mk h S p x fun v H1 ⟨d, g, ok, q, ds, e, hp⟩ => by
    subst e
    cases q with
    | lst r e q => exact ⟨_, rfl, ⟨_, sq_l e⟩, ds, g, ok, IterD.list r e q, hp⟩
theorem wi_tup {tg l : Expr} {P : List D → Prop} {ex : Xd → Prop} (h : WE c l ρ (fun x => ∃ ds, x = .tup ds ∧ P ds) ex) : WI c tg l ρ P ex :=
  wi_of (pi_tup (peU c l)) fun σ H R E S p x => tU.mk h S p x fun v H1 ⟨d, g, ok, q, ds, e, hp⟩ => by
    subst e
    cases q with
    | tup r e q => exact ⟨_, rfl, ⟨_, sq_t e⟩, ds, g, ok, IterD.tup r e q, hp⟩
theorem wi_str {tg l : Expr} {P : List D → Prop} {ex : Xd → Prop} (h : WE c l ρ (fun x => ∃ z, x = .str z ∧ P (signs z)) ex) : WI c tg l ρ P ex :=
  wi_of (pi_str (peU c l)) fun σ H R E S p x => tU.mk h S p x fun v H1 ⟨d, g, ok, q, z, e, hp⟩ => by
    subst e
    cases q
    exact ⟨z, rfl, signs z, g, ok, IterD.str, hp⟩
theorem wi_range1 {tg a : Expr} {pp pos : Pos} {P : List D → Prop} {ex : Xd → Prop} (hm : c.X.mg "range" = none) (h : WE c a ρ (fun x => ∃ n : Int, x = .int n ∧ -(2 ^ 62) ≤ n ∧ n < 2 ^ 62 ∧ P (rangeD 0 n.toNat)) ex)
    (hg : Gl c.X "range" := by rfl) (ha : PA c.X [a] (tAs c [a]) := by (repeat (first | exact pa_nil | refine pa_cons (peU _ _) ?_))) (hs : starEach [a] c.X.env = [(false, eval a c.X.env)] := by rfl) : WI c tg (.Call (.Name "range" pp) [a] [] pos) ρ P ex :=
  wi_of (pi_range1 hg hm ha hs) fun σ H R E S p x => tU.mk h S p x fun v H1 ⟨d, g, ok, q, n, e, h1, h2, hp⟩ => by
    subst e
    cases q
    exact ⟨n, rfl, h1, h2, _, g, ok, IterD.range, hp⟩
theorem wi_range2 {tg a b : Expr} {pp pos : Pos} {P : List D → Prop} {ex : Xd → Prop} (hm : c.X.mg "range" = none) (h : WE c a ρ (fun x => WE c b ρ (fun y => ∃ m n : Int, x = .int m ∧ y = .int n ∧ (-(2 ^ 62) ≤ m ∧ m < 2 ^ 62 ∧ -(2 ^ 62) ≤ n ∧ n < 2 ^ 62) ∧ P (rangeD m (n - m).toNat)) ex) ex)
    (hg : Gl c.X "range" := by rfl) (ha : PA c.X [a, b] (tAs c [a, b]) := by (repeat (first | exact pa_nil | refine pa_cons (peU _ _) ?_))) (hs : starEach [a, b] c.X.env = [(false, eval a c.X.env), (false, eval b c.X.env)] := by rfl) (hs2 : starEach [b] c.X.env = [(false, eval b c.X.env)] := by rfl) :
    WI c tg (.Call (.Name "range" pp) [a, b] [] pos) ρ P ex :=
  wi_of (pi_range2 hg hm ha hs hs2) fun σ H R E S p x => tAs.mk (P := fun ds => ∃ m n : Int, ds = [.int m, .int n] ∧ (-(2 ^ 62) ≤ m ∧ m < 2 ^ 62 ∧ -(2 ^ 62) ≤ n ∧ n < 2 ^ 62) ∧ P (rangeD m (n - m).toNat)) (WE.mono h fun d z => WE.mono z fun d' ⟨m, n, e1, e2, hb, hp⟩ => ⟨m, n, by rw [e1, e2], hb, hp⟩) S p x fun vs H1 ⟨ds, g, ok, q, m, n, e, hb, hp⟩ => by
    subst e
    cases q with
    | cons q r =>
      cases q
      cases r with
      | cons q r =>
        cases q
        cases r
        exact ⟨m, n, rfl, hb, _, g, ok, IterD.range, hp⟩
/-- numbered -/
def enumD (xs : List D) : List D := (xs.zipIdx).map fun p => .tup [.int (p.2 : Nat), p.1]
theorem enumD_length {xs : List D} : (enumD xs).length = xs.length := by unfold enumD; rw [List.length_map, List.length_zipIdx]
theorem enumD_get {xs : List D} {i : Nat} : (enumD xs)[i]? = (xs[i]?).map fun d => .tup [.int (i : Nat), d] := by
  unfold enumD
  rw [List.getElem?_map, List.getElem?_zipIdx]
  cases xs[i]? with
  | none => rfl
  | some d => simp
theorem wi_enumL {e : Expr} {elts : List Expr} {kk : Nat} {pp pos tpos : Pos} {P : List D → Prop} {ex : Xd → Prop} (hm : c.X.mg "enumerate" = none) (h : WE c e ρ (fun x => ∃ ds, x = .lst ds ∧ P (enumD ds)) ex)
    (hg : Gl c.X "enumerate" := by rfl) (ha : PA c.X [e] (tAs c [e]) := by (repeat (first | exact pa_nil | refine pa_cons (peU _ _) ?_))) (hs : starEach [e] c.X.env = [(false, eval e c.X.env)] := by rfl) : WI c (.Tuple elts kk tpos) (.Call (.Name "enumerate" pp) [e] [] pos) ρ P ex :=
  wi_of (pi_enum hg hm ha hs) fun σ H R E S p x => tU.mk h S p x fun v H1 ⟨d, g, ok, q, ds, e, hp⟩ => by
    subst e
    cases q with
    | lst r e q =>
      refine ⟨_, _, rfl, sq_l e, enumD ds, g, ok, IterD.pair (gx := fun i => some (.int (i : Nat))) (gy := fun i => ds[i]?) walk_enum (by rw [enumD_length, q.length]) (fun R' H' k => sq_l (k _ _ r e).2) (fun i v h => ?_) (fun i v h => q.get' h) (fun i d e h1 h2 => ?_), hp⟩
      · cases h
        exact ⟨_, rfl, .int _⟩
      · cases h1
        rw [enumD_get, h2]
        rfl
def zipD (xs ys : List D) : List D := (xs.zip ys).map fun p => .tup [p.1, p.2]
theorem wi_zip {a b : Expr} {elts : List Expr} {kk : Nat} {pp pos tpos : Pos} {P : List D → Prop} {ex : Xd → Prop} (hm : c.X.mg "zip" = none) (h : WE c a ρ (fun x => WE c b ρ (fun y => ∃ xs ys, x = .lst xs ∧ y = .lst ys ∧ P (zipD xs ys)) ex) ex)
    (hg : Gl c.X "zip" := by rfl) (ha : PA c.X [a, b] (tAs c [a, b]) := by (repeat (first | exact pa_nil | refine pa_cons (peU _ _) ?_))) (hs : starEach [a, b] c.X.env = (false, eval a c.X.env) :: starEach [b] c.X.env := by rfl) (hpl : (backTo pos (starEach [b] c.X.env)).any (·.1) = false := by rfl) :
    WI c (.Tuple elts kk tpos) (.Call (.Name "zip" pp) [a, b] [] pos) ρ P ex :=
  wi_of (RZ.pi_zipA hg hm ha hs hpl) fun σ H R E S p x => tAs.mk (P := fun ds => ∃ xs ys, ds = [.lst xs, .lst ys] ∧ P (zipD xs ys)) (WE.mono h fun d z => WE.mono z fun d' ⟨m, n, e1, e2, hp⟩ => ⟨m, n, by rw [e1, e2], hp⟩) S p x fun vs H1 ⟨ds, g, ok, q, xs, ys, e, hp⟩ => by
    subst e
    cases q with
    | cons q r =>
      cases q with
      | lst r1 e1 q1 =>
      cases r with
      | cons q r =>
        cases q with
        | lst r2 e2 q2 =>
        cases r
        refine ⟨_, _, _, _, rfl, .inl ⟨sq_l e1, sq_l e2, zipD xs ys, g, ok, IterD.pair (gx := fun i => xs[i]?) (gy := fun i => ys[i]?) (walk_zip rfl) ?_ (fun R' H' k => ⟨sq_l (k _ _ r1 e1).2, sq_l (k _ _ r2 e2).2⟩) (fun i v h => q1.get' h) (fun i v h => q2.get' h) (fun i d e h1 h2 => ?_), hp⟩⟩
        · unfold zipD
          rw [List.length_map, List.length_zip, q1.length, q2.length]
        · unfold zipD
          rw [List.getElem?_map, (List.getElem?_zip_eq_some (z := (d, e))).mpr ⟨h1, h2⟩]
          rfl

/-! ### targets -/
structure WG (c : Cy cls) (tg : Expr) (d : D) (ρ : Rho) (Q : Rho → Prop) : Prop where
  run : ∀ (pins : List (Addr × Obj)) (s : Shared) (σ : L2.St) (H : Hp) (R : Addr → Prop) (v : V) (u : Value), Inv c.X pins σ H s → Sl c R H σ ρ → Dq c.W R H v d → RelV v u →
  wpAny (model c.X.prog c.X.w) c.X.A (assign tg c.X.env u) (fun _ s' => ∃ σ', Inv c.X pins σ' H s' ∧ ∃ ρ', Sl c R H σ' ρ' ∧ Q ρ') c.X.xe s
def tUG (c : Cy cls) (tg : Expr) : TG := fun v σ H Q => ∃ (ρ : Rho) (R : Addr → Prop) (d : D) (P : Rho → Prop), Sl c R H σ ρ ∧ Dq c.W R H v d ∧ WG c tg d ρ P ∧ ∀ σ' ρ', Sl c R H σ' ρ' → P ρ' → Q σ' H
theorem pgU (c : Cy cls) (tg : Expr) : PG c.X tg (tUG c tg) := ⟨fun pins s σ H v u Q I r h => by
  obtain ⟨ρ, R, d, P, S, q, w, k⟩ := h
  exact thn (w.run pins s σ H R v u I S q r) fun _ s' ⟨σ', I', ρ', S', hp⟩ => ⟨σ', H, I', k σ' ρ' S' hp⟩⟩
theorem wg_name (i : Nat) {x : Str} {pos : Pos} {d : D} {Q : Rho → Prop} (hN : c.X.N.Nodup) (hi : c.X.N[i]? = some x) (h : Q (ρ.set i (some (.val d)))) (hx : Loc c.X.env.scope x := by first | exact Or.inl rfl | exact Or.inr rfl)
    (hf : c.X.fn x = true ∨ c.X.env.scope.names.lookup x = some .local := by first | exact .inl rfl | exact .inr rfl) : WG c (.Name x pos) d ρ Q := ⟨fun pins s σ H R v u I S q r =>
  wpAny_assign_Name (store_ok I hN hi hx r (fun s' I' => ⟨_, I', _, S.setVal q, h⟩) hf)⟩
/-- several targets -/
def WGs (c : Cy cls) : List Expr → List D → Rho → (Rho → Prop) → Prop
  | [], [], ρ, Q => Q ρ
  | t :: ts, d :: ds, ρ, Q => WG c t d ρ (fun ρ' => WGs c ts ds ρ' Q)
  | _, _, _, _ => False
def tUGs (c : Cy cls) : List Expr → TGs
  | [] => gNil
  | t :: ts => gCons (tUG c t) (tUGs c ts)
theorem tUGs.mk : ∀ {ts : List Expr} {ds : List D} {ρ : Rho} {σ : L2.St} {vs : List V} {Q : Rho → Prop} {K : L2.St → Hp → Prop}, WGs c ts ds ρ Q → Sl c R H σ ρ → DqL c.W R H vs ds → (∀ σ' ρ', Sl c R H σ' ρ' → Q ρ' → K σ' H) → tUGs c ts vs σ H K
  | [], [], ρ, σ, _, Q, K, w, S, .nil, k => ⟨rfl, k σ ρ S w⟩
  | t :: ts, d :: ds, ρ, σ, _, Q, K, w, S, .cons q r, k => ⟨_, _, rfl, ρ, R, d, _, S, q, w, fun σ' ρ' S' w' => tUGs.mk w' S' r k⟩
  | [], _ :: _, _, _, _, _, _, w, _, _, _ => w.elim
  | _ :: _, [], _, _, _, _, _, w, _, _, _ => w.elim
theorem wg_tup {ts : List Expr} {k : Nat} {pos : Pos} {x : D} {Q : Rho → Prop} (hc : c.X.calm = true) (h : ∃ ds, x = .tup ds ∧ ds.length = ts.length ∧ WGs c ts ds ρ Q) (hp : PGs c.X ts (tUGs c ts) := by (repeat (first | exact pgs_nil | refine pgs_cons (pgU _ _) ?_)))
    (hn : (assignEach ts c.X.env).length = ts.length := by rfl) (hst : (assignEach ts c.X.env).findIdx? (·.1) = none := by rfl) : WG c (.Tuple ts k pos) x ρ Q := ⟨fun pins s σ H R v u I S q r => by
  obtain ⟨ds, e, hl, w⟩ := h
  subst e
  cases q with
  | tup ra ea q =>
    refine thn ((pg_tup (k := k) (pos := pos) hc hp hn hst).run pins s σ H _ u (fun σ' H' => H' = H ∧ ∃ ρ', Sl c R H σ' ρ' ∧ Q ρ') I r ⟨_, _, rfl, sq_t ea, by rw [q.length, hl], tUGs.mk w S q fun σ' ρ' S' hq => ⟨rfl, ρ', S', hq⟩⟩) fun _ s' ⟨σ', H', I', e', ρ', S', hq⟩ => ?_
    subst e'
    exact ⟨σ', I', ρ', S', hq⟩⟩
theorem wg_lst {ts : List Expr} {k : Nat} {pos : Pos} {x : D} {Q : Rho → Prop} (hc : c.X.calm = true) (h : ∃ ds, x = .lst ds ∧ ds.length = ts.length ∧ WGs c ts ds ρ Q) (hp : PGs c.X ts (tUGs c ts) := by (repeat (first | exact pgs_nil | refine pgs_cons (pgU _ _) ?_)))
    (hn : (assignEach ts c.X.env).length = ts.length := by rfl) (hst : (assignEach ts c.X.env).findIdx? (·.1) = none := by rfl) : WG c (.Tuple ts k pos) x ρ Q := ⟨fun pins s σ H R v u I S q r => by
  obtain ⟨ds, e, hl, w⟩ := h
  subst e
  cases q with
  | lst ra ea q =>
    refine thn ((pg_lst (k := k) (pos := pos) hc hp hn hst).run pins s σ H _ u (fun σ' H' => H' = H ∧ ∃ ρ', Sl c R H σ' ρ' ∧ Q ρ') I r ⟨_, _, rfl, sq_l ea, by rw [q.length, hl], tUGs.mk w S q fun σ' ρ' S' hq => ⟨rfl, ρ', S', hq⟩⟩) fun _ s' ⟨σ', H', I', e', ρ', S', hq⟩ => ?_
    subst e'
    exact ⟨σ', I', ρ', S', hq⟩⟩
/-- target = value -/
theorem ws_asg {tg e : Expr} {pos : Pos} {p : Po} (h : WE c e ρ (fun d => WG c tg d ρ p.nx) (p.ex ρ)) (hs : swapsWithSole [tg] e pos.line c.X.env = pure false := by rfl) (hw : swappedStores [tg] e c.X.env = pure none := by rfl)
    (h1 : (assignEach [tg] c.X.env).map (·.2) = [assign tg c.X.env] := by rfl) : WS c (.Assign [tg] e pos) ρ p :=
  ws_of (ps_asg (peU c e) (pgU c tg) hs hw h1) fun σ H R Ds E S ps en x => tU.mk h S (ps.at σ) (x.at S) fun v H' ⟨d, g, ok, q, w⟩ => ⟨ρ, _, d, _, S.grow g ok, q, w, fun σ' ρ' S' hn => en.nx _ H' σ' ρ' S' (Kp.grow S.ndr g) hn⟩
/-- for -/
theorem ws_for {tg iter : Expr} {body : List Stmt} {pos : Pos} {p : Po} (hc : c.X.calm = true) (h : WI c tg iter ρ (fun items => ∃ I : Nat → Rho → Prop, I 0 ρ ∧
      (∀ i d ρ', items[i]? = some d → I i ρ' → WG c tg d ρ' (fun ρ2 => WSs c body ρ2 { p with nx := I (i + 1), ct := I (i + 1), bk := p.nx })) ∧ (∀ ρ', I items.length ρ' → p.nx ρ')) (p.ex ρ))
    (hpass : PassesOwn (model c.X.prog c.X.w) c.X.A c.X.env c.X.xe := by exact passes_of rfl) (hs : ∀ x, foldedSetIterable iter c.X.env x = pure x := by intro _; rfl) : WS c (.For tg iter body [] pos) ρ p :=
  ws_of (ps_for hpass hc (piU c tg iter) (pgU c tg) (pssU c body) hs) fun σ H R Ds E S ps en x => ⟨ρ, R, E σ, _, p.ex ρ, S, ps.at σ, x.at S, h, fun J H1 ⟨items, g, ok, ⟨G, Y, w, hG, hY⟩, I, i0, turn, done⟩ => by
    have S1 := S.grow g ok
    have K1 := Kp.grow S.ndr g
    refine for_it w (fun i σ' H' => ∃ R' ρ', Sl c R' H' σ' ρ' ∧ Kp (Nw R H) H1 R' H' ∧ I i ρ') ⟨_, ρ, S1, Kp.refl, i0⟩ (fun i σ' H' _ ⟨R', ρ', S', k, _⟩ => hG R' H' k) (fun i v σ' Hc H' hi ⟨R', ρ', S', k, hI⟩ y => ?_) (fun σ' H' ⟨R', ρ', S', k, hI⟩ => en.nx R' H' σ' ρ' S' (K1.trans k) (done ρ' hI))
    obtain ⟨d, hd, sm, q⟩ := hY i Hc v H' y R' S'.ndr S'.ok k
    have S2 := S'.same sm
    have k2 : Kp (Nw R H) H1 (Nw R' Hc) H' := k.trans (Kp.grow S'.ndr (Gr.of_same sm))
    refine ⟨ρ', _, d, _, S2, q, turn i d ρ' hd hI, fun σ2 ρ2 S3 w2 => ?_⟩
    exact ⟨ρ2, _, E, { p with nx := I (i + 1), ct := I (i + 1), bk := p.nx }, S3, ps, ⟨fun R4 H4 σ4 ρ4 S4 k4 h4 => ⟨R4, ρ4, S4, k2.trans k4, h4⟩, en.rt, fun R4 H4 σ4 ρ4 S4 k4 h4 => en.nx R4 H4 σ4 ρ4 S4 (K1.trans (k2.trans k4)) h4, fun R4 H4 σ4 ρ4 S4 k4 h4 => ⟨R4, ρ4, S4, k2.trans k4, h4⟩⟩, x, w2⟩⟩
end
end Vl
end
section
set_option maxHeartbeats 4000000
namespace Vl
open PySem PySem.Spec PyProof.Rows L2
variable {cls : Nat → Addr}
section
variable {c : Cy cls} {R : Addr → Prop} {H H' : Hp} {σ : L2.St} {ρ : Rho}
/-! ### list comprehensions -/
/-- a block's standing -/
abbrev Cy.blk (c : Cy cls) (s : Shared) (H : Hp) (scope : Scope) (C : Addr) (cl : List (Str × Addr)) (fp : List Addr) : Cy cls := ⟨c.X.blk s H scope (compEnvC scope cl C c.X.env) fp, c.W, c.R0, c.H0⟩
theorem passN {X : Cx} : Passes (L2N.CX X.prog X.w) X E0 := fun _ _ _ _ _ _ _ h => by
  obtain ⟨_, _, _, _, _, _, _, _, _, _, _, _, no⟩ := h
  exact False.elim no
def wipeR (ρ : Rho) : List Nat → Rho
  | [] => ρ
  | v :: vs => (wipeR ρ vs).set v none
theorem Sl.wipe (S : Sl c R H σ ρ) : ∀ vs : List Nat, Sl c R H (L2.wipe σ vs) (wipeR ρ vs)
  | [] => S
  | v :: vs => (S.wipe vs).setNone
/-- elt in every block -/
def tUB (c : Cy cls) (scope : Scope) (e : Expr) : TE := fun σ H Q => ∀ s H0 C cl fp, tU (c.blk s H0 scope C cl fp) e σ H Q
theorem peUB (scope : Scope) (e : Expr) (s : Shared) (H0 : Hp) (C : Addr) (cl : List (Str × Addr)) (fp : List Addr) : PE (c.X.blk s H0 scope (compEnvC scope cl C c.X.env) fp) e (tUB c scope e) := ⟨fun pins s1 σ H Q I h => (peU (c.blk s H0 scope C cl fp) e).run pins s1 σ H Q I (h s H0 C cl fp)⟩
/-- the tests in every block -/
def tUTB (c : Cy cls) (scope : Scope) (e : Expr) : TT := fun σ H Q => ∀ s H0 C cl fp, tUT (c.blk s H0 scope C cl fp) e σ H Q
theorem ptUB (scope : Scope) (e : Expr) (s : Shared) (H0 : Hp) (C : Addr) (cl : List (Str × Addr)) (fp : List Addr) : PT (c.X.blk s H0 scope (compEnvC scope cl C c.X.env) fp) e (tUTB c scope e) := ⟨fun pins s1 σ H Q I h => (ptU (c.blk s H0 scope C cl fp) e).run pins s1 σ H Q I (h s H0 C cl fp)⟩
def WEB (c : Cy cls) (scope : Scope) (e : Expr) (ρ : Rho) (P : D → Prop) : Prop := ∀ s H0 C cl fp, WE (c.blk s H0 scope C cl fp) e ρ P (fun _ => False)
def WTB (c : Cy cls) (scope : Scope) (e : Expr) (ρ : Rho) (P : Bool → Prop) : Prop := ∀ s H0 C cl fp, WT (c.blk s H0 scope C cl fp) e ρ P (fun _ => False)
theorem pas0 {X : Cx} {σ : L2.St} : Pas X σ E0 := fun pins H s e s' I cx => passN pins σ H s e s' I cx
theorem exOk0 : ExOk c R H E0 (fun _ => False) := fun _ _ _ _ _ _ _ z => z.elim
theorem Sl.blk {s : Shared} {H0 : Hp} {scope : Scope} {C : Addr} {cl : List (Str × Addr)} {fp : List Addr} (S : Sl c R H σ ρ) : Sl (c.blk s H0 scope C cl fp) R H σ ρ := ⟨S.ndr, S.ok, S.ok0, S.gr, S.sub, S.len, S.val, S.lst, S.sep, S.ob, S.exc⟩
/-- the slots, the list q that is being filled left out -/
theorem Sl.apart {q : Addr} (S : Sl c R H σ ρ) (hq : H q = none) (g : Gr c.W H H') (ok : c.W.ok H') : Sl c (fun a => Nw R H a ∧ a ≠ q) H' σ ρ where
  ndr := fun b m z => nw_dr S.ok S.ndr b m z.1
  ok := ok
  ok0 := S.ok0
  gr := S.gr.trans g
  sub := fun a z => z.1.elim (S.sub a) fun z => .inr (none_back S.ok S.gr z)
  len := S.len
  val := fun i d e => by
    obtain ⟨v, h1, h2⟩ := S.val i d e
    exact ⟨v, h1, h2.mono2 fun a o r e => ⟨⟨.inl r, fun z => by rw [z, hq] at e; cases e⟩, hH_of S.ndr g a o r e⟩⟩
  exc := fun i d e => by
    obtain ⟨v, h1, h2⟩ := S.exc i d e
    exact ⟨v, h1, h2.mono2 fun a o r e => ⟨⟨.inl r, fun z => by rw [z, hq] at e; cases e⟩, hH_of S.ndr g a o r e⟩⟩
  lst := fun i ds e => by
    obtain ⟨a, vs, h1, h2, h3, h4, h5⟩ := S.lst i ds e
    have nd : ¬ c.W.mv a := fun z => S.ok0 _ (c.W.mvb _ z) h3
    exact ⟨a, vs, h1, fun z => z.1.elim h2 (fun z => by rw [h4] at z; cases z), h3, g a _ nd h4, h5.mono2 fun a o r e => ⟨⟨.inl r, fun z => by rw [z, hq] at e; cases e⟩, hH_of S.ndr g a o r e⟩⟩
  sep := S.sep
  ob := fun i a k fs e => by
    obtain ⟨dx, vs, h1, h2, h3, h4, h5⟩ := S.ob i a k fs e
    have nd : ¬ c.W.mv a := fun z => S.ok0 _ (c.W.mvb _ z) h3
    exact ⟨dx, vs, h1, fun z => z.1.elim h2 (fun z => by rw [h4] at z; cases z), h3, g a _ nd h4, h5.mono2 fun a o r e => ⟨⟨.inl r, fun z => by rw [z, hq] at e; cases e⟩, hH_of S.ndr g a o r e⟩⟩
/-- how a comprehension's target stands: its slots vs, the reading g of a datum -/
def TgOk (c : Cy cls) (g : TG) (vs : List Nat) (G : D → Rho → Rho → Prop) : Prop := ∀ R H σ ρ v d ρ', Sl c R H (wipe σ vs) (wipeR ρ vs) → Dq c.W R H v d → G d (wipeR ρ vs) ρ' → ∀ Q : L2.St → Hp → Prop, (∀ σ2, Sl c R H σ2 ρ' → wipe σ2 vs = wipe σ vs → Q σ2 H) → g v (wipe σ vs) H Q
theorem tg_name {j : Nat} : TgOk c (gName j) [j] (fun d ρ ρ' => ρ' = ρ.set j (some (.val d))) := fun R H σ ρ v d ρ' S q e Q k => by
  subst e
  exact k _ (S.setVal q) (by show ((σ.set j none).set j (some v)).set j none = σ.set j none; rw [List.set_set, List.set_set])
theorem set_comm {α : Type} (l : List α) {i j : Nat} (a b : α) (h : i ≠ j) : (l.set i a).set j b = (l.set j b).set i a := List.set_comm a b h
theorem tg_pair {j k : Nat} (hjk : j ≠ k) : TgOk c (gTup c.X.K 2 (gCons (gName j) (gCons (gName k) gNil))) [j, k] (fun d ρ ρ' => ∃ x y, d = .tup [x, y] ∧ ρ' = (ρ.set j (some (.val x))).set k (some (.val y))) := fun R H σ ρ v d ρ' S q ⟨x, y, e1, e2⟩ Q kk => by
  subst e1 e2
  cases q with
  | tup r e q =>
    cases q with
    | cons q1 q =>
      cases q with
      | cons q2 q =>
        cases q
        refine ⟨_, _, rfl, sq_t e, rfl, _, _, rfl, _, _, rfl, rfl, kk _ ((S.setVal q1).setVal q2) ?_⟩
        show ((((((σ.set k none).set j none).set j _).set k _).set k none).set j none) = (σ.set k none).set j none
        rw [List.set_set, List.set_set, set_comm _ _ _ hjk, List.set_set, List.set_set]
/-- the turns: what has been gathered, by the number of turns -/
def Turns (c : Cy cls) (scope : Scope) (ρ : Rho) (vs : List Nat) (G : D → Rho → Rho → Prop) (elt : Expr) (test : Option Expr) (items : List D) (Acc : Nat → List D → Prop) : Prop :=
  ∀ i d acc, items[i]? = some d → Acc i acc → ∃ ρ', G d (wipeR ρ vs) ρ' ∧ match test with
    | none => WEB c scope elt ρ' (fun y => Acc (i + 1) (acc ++ [y]))
    | some t => WTB c scope t ρ' (fun b => (b = true → WEB c scope elt ρ' (fun y => Acc (i + 1) (acc ++ [y]))) ∧ (b = false → Acc (i + 1) acc))
def ttOf (c : Cy cls) (scope : Scope) : Option Expr → TT
  | none => tYes
  | some t => tUTB c scope t
theorem lc_read {tg iter elt : Expr} {test : Option Expr} {scope : Scope} {vs : List Nat} {g : TG} {G : D → Rho → Rho → Prop} {E : XK} {ex : Xd → Prop} {P : List D → Prop} {Q : VK} (hg : TgOk c g vs G) (S : Sl c R H σ ρ) (p : Pas c.X σ E) (x : ExOk c R H E ex)
    (h : WI c tg iter ρ (fun items => items.length ≤ 1000000 ∧ ∃ Acc : Nat → List D → Prop, Acc 0 [] ∧ Turns c scope ρ vs G elt test items Acc ∧ (∀ acc, Acc items.length acc → P acc)) ex)
    (k : ∀ q H', H q = none → Gr c.W H H' → c.W.ok H' → ∀ ws acc, H' q = some (.lst ws) → DqL c.W (fun a => Nw R H a ∧ a ≠ q) H' ws acc → P acc → Q (.ref q) H') :
    tLc (tUI c tg iter) g (ttOf c scope test) (tUB c scope elt) vs σ H Q := by
  refine ⟨ρ, R, E, _, ex, S, p, x, h, fun J H1 ⟨items, g1, ok1, ⟨Gj, Y, w, hG, hY⟩, hlen, Acc, a0, turn, done⟩ q hq => ?_⟩
  have S1 := S.grow g1 ok1
  have s0 : Same H1 (upd H1 q (.lst [])) := same_upd hq
  have hq0 : H q = none := none_back ok1 g1 hq
  refine lc_it w (fun i H' => ∃ ws acc, H' q = some (.lst ws) ∧ DqL c.W (fun a => Nw (Nw R H) H1 a ∧ a ≠ q) H' ws acc ∧ Acc i acc ∧ acc.length ≤ i ∧ Gr c.W H1 H' ∧ c.W.ok H') ⟨[], [], upd_same, .nil, a0, Nat.le_refl _, Gr.of_same s0, ok_same ok1 s0⟩
    (fun i H' _ ⟨ws, acc, h1, h2, h3, h4, h5, h6⟩ => hG (Nw (Nw R H) H1) H' (Kp.grow S1.ndr h5)) (fun i v Hc H' hi ⟨ws, acc, h1, h2, h3, h4, h5, h6⟩ y => ?_) (fun H' ⟨ws, acc, h1, h2, h3, h4, h5, h6⟩ => ?_)
  · -- a turn
    have nq := S1.apart hq h5 h6
    have kq : Kp (Nw R H) H1 (fun a => Nw (Nw R H) H1 a ∧ a ≠ q) Hc := fun a o r e => ⟨⟨.inl r, fun z => by rw [z, hq] at e; cases e⟩, hH_of S1.ndr h5 a o r e⟩
    obtain ⟨d, hd, sm, qd⟩ := hY i Hc v H' y _ nq.ndr h6 kq
    have ok' := ok_same h6 sm
    have g' : Gr c.W H1 H' := h5.trans (Gr.of_same sm)
    have S2 := S1.apart hq g' ok'
    -- the new item's datum, apart from q
    have qd2 : Dq c.W (fun a => Nw (Nw R H) H1 a ∧ a ≠ q) H' v d := qd.wide fun a z => z.elim id fun z => ⟨.inr (none_back h6 h5 z), fun e => by rw [e, h1] at z; cases z⟩
    obtain ⟨ρ', hρ, ht⟩ := turn i d acc hd h3
    refine hg _ H' σ ρ v d ρ' (S2.wipe vs) qd2 hρ _ fun σ2 S3 hw => ⟨hw, ?_⟩
    have h1' := sm q _ h1
    have h2' : DqL c.W (fun a => Nw (Nw R H) H1 a ∧ a ≠ q) H' ws acc := h2.mono (fun _ r => r) fun a o _ e => sm a o e
    -- behind an element
    have elt_ : ∀ H3, Gr c.W H' H3 → c.W.ok H3 → Sl c (Nw (fun a => Nw (Nw R H) H1 a ∧ a ≠ q) H') H3 σ2 ρ' → WEB c scope elt ρ' (fun y => Acc (i + 1) (acc ++ [y])) →
        tUB c scope elt σ2 H3 fun y H4 => ∃ acc', H4 q = some (.lst acc') ∧ acc'.length < sizeLine ∧ ∃ ws acc, (upd H4 q (.lst (acc' ++ [y]))) q = some (.lst ws) ∧ DqL c.W (fun a => Nw (Nw R H) H1 a ∧ a ≠ q) (upd H4 q (.lst (acc' ++ [y]))) ws acc ∧ Acc (i + 1) acc ∧ acc.length ≤ i + 1 ∧ Gr c.W H1 (upd H4 q (.lst (acc' ++ [y]))) ∧ c.W.ok (upd H4 q (.lst (acc' ++ [y]))) := fun H3 g3 ok3 S4 we s0 H0 C cl fp => by
      have nqd : ¬ c.W.mv q := fun z => c.W.some H1 ok1 _ (c.W.mvb _ z) hq
      refine tU.mk (we s0 H0 C cl fp) S4.blk pas0 exOk0 fun y H4 ⟨dy, g4, ok4, q4, hA⟩ => ?_
      have e4 := g4 q _ nqd (g3 q _ nqd h1')
      have hn4 : ∀ a o, (Nw (Nw R H) H1 a ∧ a ≠ q) → H4 a = some o → upd H4 q (.lst (ws ++ [y])) a = some o := fun a o r e => by rw [upd_ne r.2]; exact e
      have nb : ∀ a, c.W.base a → a ≠ q := fun a b z => c.W.some H1 ok1 _ b (z ▸ hq)
      refine ⟨ws, e4, by rw [h2.length]; rw [sizeLine_eq]; omega, ws ++ [y], acc ++ [dy], upd_same, (DqL.append ((h2'.mono (fun _ r => r) fun a o r e => ?_).mono (fun _ r => r) hn4) (.cons ((q4.wide fun a z => ?_).mono (fun _ r => r) hn4) .nil)), hA, by rw [List.length_append, List.length_singleton]; omega, fun a o n e => ?_, c.W.keep H4 _ ok4 fun a b => upd_ne (nb a b)⟩
      · have nd : ¬ c.W.mv a := fun z => S2.ndr a z r
        exact g4 a o nd (g3 a o nd e)
      · -- the region of the element
        have key : ∀ {a : Addr} {Hx : Hp}, Gr c.W H1 Hx → c.W.ok Hx → Hx q ≠ none → Hx a = none → Nw (Nw R H) H1 a ∧ a ≠ q := fun {a Hx} gx okx hne z => ⟨.inr (none_back okx gx z), fun e => hne (e ▸ z)⟩
        rcases z with (z | z) | z
        · exact z
        · exact key g' ok' (by rw [h1']; intro z; cases z) z
        · exact key (g'.trans g3) ok3 (by rw [g3 q _ nqd h1']; intro z; cases z) z
      · rw [upd_ne (show a ≠ q from fun z => by rw [z, hq] at e; cases e)]
        exact g4 a o n (g3 a o n (g' a o n e))
    cases test with
    | none =>
      have S4 : Sl c (Nw (fun a => Nw (Nw R H) H1 a ∧ a ≠ q) H') H' σ2 ρ' := S3.grow Gr.refl S3.ok
      have z := elt_ H' Gr.refl ok' S4 ht
      unfold ttOf tYes
      exact iteT z
    | some t =>
      show tUTB c scope t σ2 H' _
      intro s0 H0 C cl fp
      refine tUT.mk (ht s0 H0 C cl fp) S3.blk pas0 exOk0 fun b H3 ⟨g3, ok3, hb1, hb2⟩ => ?_
      cases b with
      | true =>
        refine iteT ?_
        exact elt_ H3 g3 ok3 (S3.grow g3 ok3) (hb1 rfl)
      | false =>
        refine iteF ?_
        have nqd : ¬ c.W.mv q := fun z => c.W.some H1 ok1 _ (c.W.mvb _ z) hq
        exact ⟨ws, acc, g3 q _ nqd h1', h2'.mono (fun _ r => r) fun a o r e => g3 a o (fun z => S2.ndr a z r) e, hb2 rfl, Nat.le_succ_of_le h4, g'.trans g3, ok3⟩
  · exact k q H' hq0 (g1.trans h5) h6 ws acc h1 (h2.wide fun a z => ⟨nw_nw ok1 g1 a z.1, z.2⟩) (done acc h3)
end
end Vl
end
section
set_option maxHeartbeats 4000000
namespace Vl
open PySem PySem.Spec PyProof.Rows L2
variable {cls : Nat → Addr}
section
variable {c : Cy cls} {R : Addr → Prop} {H H' : Hp} {σ : L2.St} {ρ : Rho}
/-! ### comprehensions as expressions, given to a name -/
abbrev G1 (j : Nat) : D → Rho → Rho → Prop := fun d ρ ρ' => ρ' = ρ.set j (some (.val d))
abbrev G2 (j k : Nat) : D → Rho → Rho → Prop := fun d ρ ρ' => ∃ x y, d = .tup [x, y] ∧ ρ' = (ρ.set j (some (.val x))).set k (some (.val y))
/-- what one shows of a comprehension -/
def LC (c : Cy cls) (tg iter elt : Expr) (test : Option Expr) (scope : Scope) (ρ : Rho) (vs : List Nat) (G : D → Rho → Rho → Prop) (P : List D → Prop) (ex : Xd → Prop) : Prop :=
  WI c tg iter ρ (fun items => items.length ≤ 1000000 ∧ ∃ Acc : Nat → List D → Prop, Acc 0 [] ∧ Turns c scope ρ vs G elt test items Acc ∧ (∀ acc, Acc items.length acc → P acc)) ex
def ifsOf : Option Expr → List Expr
  | none => []
  | some t => [t]
theorem pts_of {scope : Scope} {test : Option Expr} (s : Shared) (H : Hp) (C : Addr) (cl : List (Str × Addr)) (fp : List Addr) : PTs (c.X.blk s H scope (compEnvC scope cl C c.X.env) fp) (ifsOf test) (ttOf c scope test) := by
  cases test with
  | none => exact pts_nil
  | some t => exact pts_one (ptUB scope t s H C cl fp)
theorem we_lcG {tg iter elt : Expr} {test : Option Expr} {scope : Scope} {pos : Pos} {own : List (Str × Nat)} {g : TG} {G : D → Rho → Rho → Prop} {P : D → Prop} {ex : Xd → Prop} (hg : TgOk c g (own.map (·.2)) G)
    (hpg : ∀ (s : Shared) (H : Hp) (C : Addr) (cl : List (Str × Addr)) (fp : List Addr), PG (c.X.blk s H scope (compEnvC scope cl C c.X.env) fp) tg g) (h : LC c tg iter elt test scope ρ (own.map (·.2)) G (fun xs => P (.lst xs)) ex)
    (hc : c.X.calm = true) (hN : c.X.N.Nodup) (ok : BlkOk c.X.N c.X.env.scope scope own) (hs : ∀ x, foldedSetIterable iter c.X.env x = pure x) : WE c (.ListComp elt [⟨tg, iter, ifsOf test, 0⟩] scope pos) ρ P ex :=
  we_of (pe_lc hc hN (piU c tg iter) ok hpg (fun s H C cl fp => pts_of s H C cl fp) (peUB scope elt) hs) fun σ H R E S p x =>
    lc_read hg S p x h fun q H' hq gg ok' ws acc hw qq hp => ⟨.lst acc, gg, ok', .lst (.inr hq) hw (qq.wide fun a z => z.1), hp⟩
theorem ws_lcG {i : Nat} {y : Str} {py spos : Pos} {tg iter elt : Expr} {test : Option Expr} {scope : Scope} {pos : Pos} {own : List (Str × Nat)} {g : TG} {G : D → Rho → Rho → Prop} {p : Po} (hg : TgOk c g (own.map (·.2)) G)
    (hpg : ∀ (s : Shared) (H : Hp) (C : Addr) (cl : List (Str × Addr)) (fp : List Addr), PG (c.X.blk s H scope (compEnvC scope cl C c.X.env) fp) tg g) (h : LC c tg iter elt test scope ρ (own.map (·.2)) G (fun xs => p.nx (ρ.set i (some (.val (.lst xs)))) ∨ p.nx (ρ.set i (some (.lst xs)))) (p.ex ρ))
    (hc : c.X.calm = true) (hN : c.X.N.Nodup) (hy : c.X.N[i]? = some y) (hyl : c.X.env.scope.names.lookup y = some .local) (hsw : swapsWith (.ListComp elt [⟨tg, iter, ifsOf test, 0⟩] scope pos) (some (.Name y py)) spos.line c.X.env = pure true)
    (ok : BlkOk c.X.N c.X.env.scope scope own) (hs : ∀ x, foldedSetIterable iter c.X.env x = pure x) : WS c (.Assign [.Name y py] (.ListComp elt [⟨tg, iter, ifsOf test, 0⟩] scope pos) spos) ρ p :=
  ws_of (ps_setLc hc hN hy hyl hsw (piU c tg iter) ok hpg (fun s H C cl fp => pts_of s H C cl fp) (peUB scope elt) hs) fun σ H R Ds E S ps en x =>
    lc_read hg S (ps.at σ) (x.at S) h fun q H' hq gg ok' ws acc hw qq hp => by
      rcases hp with hp | hp
      · exact en.nx _ H' _ _ ((S.grow gg ok').setVal (.lst (.inr hq) hw (qq.wide fun a z => z.1))) (Kp.grow S.ndr gg) hp
      · -- nobody else has it
        have h0 : c.H0 q = none := none_back S.ok S.gr hq
        have S1 := S.apart hq gg ok'
        refine en.nx (fun a => Nw R H a ∧ a ≠ q) H' _ _ ⟨S1.ndr, S1.ok, S1.ok0, S1.gr, S1.sub, by simp [S1.len], fun j e h => ?_, fun j e h => ?_, fun j k ds' es a hjk g1 g2 g3 => ?_, fun j a k fs h => ?_, fun j e h => ?_⟩ (fun a o r e => ⟨⟨.inl r, fun z => by rw [z, hq] at e; cases e⟩, hH_of S.ndr gg a o r e⟩) hp
        · by_cases hj : i = j
          · subst hj
            have z := get_set_self h
            cases z
          · rw [List.getElem?_set_ne hj] at h ⊢
            exact S1.val j e h
        · by_cases hj : i = j
          · subst hj
            have lt := set_lt h
            have z := get_set_self h
            cases z
            exact ⟨q, ws, by rw [List.getElem?_set_self (by rw [S1.len]; exact lt)], fun z => z.2 rfl, h0, hw, qq⟩
          · rw [List.getElem?_set_ne hj] at h ⊢
            exact S1.lst j e h
        · have key : ∀ {j : Nat} {es : List D} {b : Addr}, ρ[j]? = some (some (.lst es)) → σ[j]? = some (some (.ref b)) → b ≠ q := fun {j es b} h1 h2 => by
            obtain ⟨a, ws, e1, e2, e3, e4, e5⟩ := S.lst j es h1
            rw [e1] at h2
            cases h2
            intro z
            rw [z, hq] at e4
            cases e4
          by_cases hj : i = j
          · subst hj
            have lt := set_lt g3
            have z := get_set_self g3
            cases z
            rw [List.getElem?_set_ne hjk] at g2 ⊢
            exact fun z => key g2 z rfl
          · by_cases hk : i = k
            · subst hk
              rw [List.getElem?_set_ne hj] at g1 g3
              intro z
              have z := get_set_self z
              cases z
              exact key g1 g3 rfl
            · rw [List.getElem?_set_ne hj] at g1 g3
              rw [List.getElem?_set_ne hk] at g2 ⊢
              exact S1.sep j k ds' es a hjk g1 g2 g3
        · by_cases hj : i = j
          · subst hj
            have z := get_set_self h
            cases z
          · rw [List.getElem?_set_ne hj] at h ⊢
            exact S1.ob j a k fs h
        · by_cases hj : i = j
          · subst hj
            have z := get_set_self h
            cases z
          · rw [List.getElem?_set_ne hj] at h ⊢
            exact S1.exc j e h
/-- [elt for x in iter] -/
theorem we_lc (j : Nat) {x : Str} {xp : Pos} {iter elt : Expr} {scope : Scope} {pos : Pos} {P : D → Prop} {ex : Xd → Prop} (hN : c.X.N.Nodup) (h : LC c (.Name x xp) iter elt none scope ρ [j] (G1 j) (fun xs => P (.lst xs)) ex) (hc : c.X.calm = true := by rfl)
    (hpg : ∀ (s : Shared) (H : Hp) (C : Addr) (cl : List (Str × Addr)) (fp : List Addr), PG (c.X.blk s H scope (compEnvC scope cl C c.X.env) fp) (.Name x xp) (gName j) := by exact fun _ _ _ _ _ => pg_name (by assumption) rfl (Or.inl rfl))
    (ok : BlkOk c.X.N c.X.env.scope scope [(x, j)] := by exact blkOk_by (by kernel_rfl)) (hs : ∀ x, foldedSetIterable iter c.X.env x = pure x := by intro _; rfl) : WE c (.ListComp elt [⟨.Name x xp, iter, [], 0⟩] scope pos) ρ P ex :=
  we_lcG (own := [(x, j)]) (test := none) tg_name hpg h hc hN ok hs
theorem we_lcIf (j : Nat) {x : Str} {xp : Pos} {iter elt t : Expr} {scope : Scope} {pos : Pos} {P : D → Prop} {ex : Xd → Prop} (hN : c.X.N.Nodup) (h : LC c (.Name x xp) iter elt (some t) scope ρ [j] (G1 j) (fun xs => P (.lst xs)) ex) (hc : c.X.calm = true := by rfl)
    (hpg : ∀ (s : Shared) (H : Hp) (C : Addr) (cl : List (Str × Addr)) (fp : List Addr), PG (c.X.blk s H scope (compEnvC scope cl C c.X.env) fp) (.Name x xp) (gName j) := by exact fun _ _ _ _ _ => pg_name (by assumption) rfl (Or.inl rfl))
    (ok : BlkOk c.X.N c.X.env.scope scope [(x, j)] := by exact blkOk_by (by kernel_rfl)) (hs : ∀ x, foldedSetIterable iter c.X.env x = pure x := by intro _; rfl) : WE c (.ListComp elt [⟨.Name x xp, iter, [t], 0⟩] scope pos) ρ P ex :=
  we_lcG (own := [(x, j)]) (test := some t) tg_name hpg h hc hN ok hs
/-- [elt for x, y in iter] -/
theorem we_lc2 (j k : Nat) {x y : Str} {xp yp tp : Pos} {kk : Nat} {iter elt : Expr} {scope : Scope} {pos : Pos} {P : D → Prop} {ex : Xd → Prop} (hN : c.X.N.Nodup) (h : LC c (.Tuple [.Name x xp, .Name y yp] kk tp) iter elt none scope ρ [j, k] (G2 j k) (fun xs => P (.lst xs)) ex) (hjk : j ≠ k := by decide) (hc : c.X.calm = true := by rfl)
    (hpg : ∀ (s : Shared) (H : Hp) (C : Addr) (cl : List (Str × Addr)) (fp : List Addr), PG (c.X.blk s H scope (compEnvC scope cl C c.X.env) fp) (.Tuple [.Name x xp, .Name y yp] kk tp) (gTup c.X.K 2 (gCons (gName j) (gCons (gName k) gNil))) := by exact fun _ _ _ _ _ => pg_tup rfl (pgs_cons (pg_name (by assumption) rfl (Or.inl rfl)) (pgs_cons (pg_name (by assumption) rfl (Or.inl rfl)) pgs_nil)))
    (ok : BlkOk c.X.N c.X.env.scope scope [(x, j), (y, k)] := by exact blkOk_by (by kernel_rfl)) (hs : ∀ x, foldedSetIterable iter c.X.env x = pure x := by intro _; rfl) : WE c (.ListComp elt [⟨.Tuple [.Name x xp, .Name y yp] kk tp, iter, [], 0⟩] scope pos) ρ P ex :=
  we_lcG (own := [(x, j), (y, k)]) (test := none) (tg_pair hjk) hpg h hc hN ok hs
/-- y = [elt for x in iter] -/
theorem ws_lc (i j : Nat) {x y : Str} {xp py spos : Pos} {iter elt : Expr} {scope : Scope} {pos : Pos} {p : Po} (hN : c.X.N.Nodup) (h : LC c (.Name x xp) iter elt none scope ρ [j] (G1 j) (fun xs => p.nx (ρ.set i (some (.val (.lst xs)))) ∨ p.nx (ρ.set i (some (.lst xs)))) (p.ex ρ)) (hc : c.X.calm = true := by rfl) (hy : c.X.N[i]? = some y := by rfl)
    (hyl : c.X.env.scope.names.lookup y = some .local := by rfl) (hsw : swapsWith (.ListComp elt [⟨.Name x xp, iter, [], 0⟩] scope pos) (some (.Name y py)) spos.line c.X.env = pure true := by exact sw_true rfl rfl rfl (by kernel_rfl))
    (hpg : ∀ (s : Shared) (H : Hp) (C : Addr) (cl : List (Str × Addr)) (fp : List Addr), PG (c.X.blk s H scope (compEnvC scope cl C c.X.env) fp) (.Name x xp) (gName j) := by exact fun _ _ _ _ _ => pg_name (by assumption) rfl (Or.inl rfl))
    (ok : BlkOk c.X.N c.X.env.scope scope [(x, j)] := by exact blkOk_by (by kernel_rfl)) (hs : ∀ x, foldedSetIterable iter c.X.env x = pure x := by intro _; rfl) : WS c (.Assign [.Name y py] (.ListComp elt [⟨.Name x xp, iter, [], 0⟩] scope pos) spos) ρ p :=
  ws_lcG (own := [(x, j)]) (test := none) tg_name hpg h hc hN hy hyl hsw ok hs
theorem ws_lcIf (i j : Nat) {x y : Str} {xp py spos : Pos} {iter elt t : Expr} {scope : Scope} {pos : Pos} {p : Po} (hN : c.X.N.Nodup) (h : LC c (.Name x xp) iter elt (some t) scope ρ [j] (G1 j) (fun xs => p.nx (ρ.set i (some (.val (.lst xs)))) ∨ p.nx (ρ.set i (some (.lst xs)))) (p.ex ρ)) (hc : c.X.calm = true := by rfl) (hy : c.X.N[i]? = some y := by rfl)
    (hyl : c.X.env.scope.names.lookup y = some .local := by rfl) (hsw : swapsWith (.ListComp elt [⟨.Name x xp, iter, [t], 0⟩] scope pos) (some (.Name y py)) spos.line c.X.env = pure true := by exact sw_true rfl rfl rfl (by kernel_rfl))
    (hpg : ∀ (s : Shared) (H : Hp) (C : Addr) (cl : List (Str × Addr)) (fp : List Addr), PG (c.X.blk s H scope (compEnvC scope cl C c.X.env) fp) (.Name x xp) (gName j) := by exact fun _ _ _ _ _ => pg_name (by assumption) rfl (Or.inl rfl))
    (ok : BlkOk c.X.N c.X.env.scope scope [(x, j)] := by exact blkOk_by (by kernel_rfl)) (hs : ∀ x, foldedSetIterable iter c.X.env x = pure x := by intro _; rfl) : WS c (.Assign [.Name y py] (.ListComp elt [⟨.Name x xp, iter, [t], 0⟩] scope pos) spos) ρ p :=
  ws_lcG (own := [(x, j)]) (test := some t) tg_name hpg h hc hN hy hyl hsw ok hs
/-- the plain case: each item gives one datum -/
theorem LC.map {tg iter elt : Expr} {scope : Scope} {vs : List Nat} {G : D → Rho → Rho → Prop} {P : List D → Prop} {ex : Xd → Prop} (h : WI c tg iter ρ (fun items => items.length ≤ 1000000 ∧ ∃ f : Nat → D → D → Prop, (∀ i d, items[i]? = some d → ∃ ρ', G d (wipeR ρ vs) ρ' ∧ WEB c scope elt ρ' (fun y => f i d y)) ∧
      ∀ acc, acc.length = items.length → (∀ i d y, items[i]? = some d → acc[i]? = some y → f i d y) → P acc) ex) : LC c tg iter elt none scope ρ vs G P ex := by
  refine ⟨fun pins s σ H R E I S p x => ?_⟩
  refine thn (h.run pins s σ H R E I S p x) fun v s1 q => thn q fun itv s2 z => ?_
  obtain ⟨it, fp, tn, J, H2, e, I2, T, st2, f2, items, g, ok, w, hl, f, hf, hp⟩ := z
  refine ⟨it, fp, tn, J, H2, e, I2, T, st2, f2, items, g, ok, w, hl, fun i acc => acc.length = i ∧ ∀ k d y, items[k]? = some d → acc[k]? = some y → f k d y, ⟨rfl, fun k d y _ h => by simp at h⟩, fun i d acc hd ⟨h1, h2⟩ => ?_, fun acc ⟨h1, h2⟩ => hp acc h1 h2⟩
  obtain ⟨ρ', hG, we⟩ := hf i d hd
  refine ⟨ρ', hG, fun s0 H0 C cl fp => WE.mono (we s0 H0 C cl fp) fun y hy => ⟨by rw [List.length_append, List.length_singleton, h1], fun k d' y' hk hy' => ?_⟩⟩
  by_cases hki : k < acc.length
  · rw [List.getElem?_append_left hki] at hy'
    exact h2 k d' y' hk hy'
  · rw [List.getElem?_append_right (by omega)] at hy'
    have e0 : k = i := by
      have z := (List.getElem?_eq_some_iff.mp hy').1
      simp at z
      omega
    subst e0
    rw [h1, Nat.sub_self] at hy'
    rw [hd] at hk
    cases hk
    cases hy'
    exact hy

/-! ### names of the module -/
theorem we_glob {x : Str} {u : Value} {v : V} {d : D} {pos : Pos} {P : D → Prop} {ex : Xd → Prop} (hm : c.X.mg x = some u) (h : P d) (hq : ∀ R H, Dq c.W R H v d) (r : RelV v u) (hg : Gl c.X x := by rfl) (hd : (x == ("__debug__" : Str)) = false := by decide) : WE c (.Name x pos) ρ P ex :=
  we_c (pe_glob hg hm r hd) hq h
theorem we_gint {x : Str} {i : Int} {t : Tok} {pos : Pos} {P : D → Prop} {ex : Xd → Prop} (hm : c.X.mg x = some (.int i t)) (h : P (.int i)) (hg : Gl c.X x := by rfl) (hd : (x == ("__debug__" : Str)) = false := by decide) : WE c (.Name x pos) ρ P ex :=
  we_glob hm h (fun _ _ => .int i) ⟨t, rfl⟩ hg hd
theorem we_gstr {x : Str} {i : Str} {t : Tok} {pos : Pos} {P : D → Prop} {ex : Xd → Prop} (hm : c.X.mg x = some (.str i t)) (h : P (.str i)) (hg : Gl c.X x := by rfl) (hd : (x == ("__debug__" : Str)) = false := by decide) : WE c (.Name x pos) ρ P ex :=
  we_glob hm h (fun _ _ => .str i) ⟨t, rfl⟩ hg hd
theorem we_gcl {x : Str} {k : Nat} {pos : Pos} {P : D → Prop} {ex : Xd → Prop} (hm : c.X.mg x = some (.ref (cls k))) (h : P (.cl k)) (hg : Gl c.X x := by rfl) (hd : (x == ("__debug__" : Str)) = false := by decide) : WE c (.Name x pos) ρ P ex :=
  we_glob (v := .ref (cls k)) hm h (fun _ _ => .cl k) rfl hg hd
theorem we_ty {n : String} {pos : Pos} {P : D → Prop} {ex : Xd → Prop} (hm : c.X.mg (Str.ofString n) = none) (h : P (.ty n)) (hv : bootBuiltins (Str.ofString n) = some (.type n) := by decide +kernel) (hg : Gl c.X (Str.ofString n) := by rfl) (hn : Str.ofString n ≠ "__name__" := by decide) (hd : (Str.ofString n == ("__debug__" : Str)) = false := by decide) : WE c (.Name (Str.ofString n) pos) ρ P ex :=
  we_c (pe_bltn (v := .ty n) hg hm hv rfl hn hd) (fun _ _ => .ty n) h

/-! ### chains, comparisons of data -/
theorem we_chain {op op' : CmpOp} {a b e : Expr} {pos : Pos} {r r' : R2} {F F' : D → D → (D → Prop) → Prop} {P : D → Prop} {ex : Xd → Prop} (ho : OpR c.X (compareOp op) r) (ho' : OpR c.X (compareOp op') r') (hF : OpD c r F) (hF' : OpD c r' F')
    (h : WE c a ρ (fun x => WE c b ρ (fun y => F x y (fun z => ∃ k, z = .bl k ∧ (k = true → WE c e ρ (fun w => F' y w P) ex) ∧ (k = false → P (.bl false)))) ex) ex) (hm : lastMarks [op, op'] [b, e] = false := by with_unfolding_all rfl) : WE c (.Compare a [op, op'] [b, e] pos) ρ P ex :=
  we_of (pe_chain ho ho' (peU c a) (peU c b) (peU c e) hm) fun σ H R E S p x => tU.mk h S p x fun vx H1 ⟨dx, g1, ok1, q1, w1⟩ => tU.mk w1 (S.grow g1 ok1) p (x.grow g1 ok1) fun vy H2 ⟨dy, g2, ok2, q2, f2⟩ =>
    have S2 := (S.grow g1 ok1).grow g2 ok2
    hF _ _ _ _ _ _ _ S2.ndr ok2 (q1.grow (S.grow g1 ok1).ndr g2) q2 f2 _ fun vz H3 ⟨dz, g3, ok3, q3, k, e3, h1, h2⟩ => by
      subst e3
      cases q3
      refine ⟨k, rfl, ?_⟩
      have S3 := S2.grow g3 ok3
      cases k with
      | false => exact iteF ⟨_, (g1.trans g2).trans g3, ok3, .bl false, h2 rfl⟩
      | true =>
        refine iteT (tU.mk (h1 rfl) S3 p (((x.grow g1 ok1).grow g2 ok2).grow g3 ok3) fun vw H4 ⟨dw, g4, ok4, q4, f4⟩ => ?_)
        exact hF' _ _ _ _ _ _ _ (S3.grow g4 ok4).ndr ok4 ((q2.grow S2.ndr g3).grow S3.ndr g4) q4 f4 _ fun v5 H5 f => (((f.back g4 ok4).back g3 ok3).back g2 ok2).back g1 ok1
theorem wt_chain {op op' : CmpOp} {a b e : Expr} {pos : Pos} {r r' : R2} {F F' : D → D → (D → Prop) → Prop} {P : Bool → Prop} {ex : Xd → Prop} (ho : OpR c.X (compareOp op) r) (ho' : OpR c.X (compareOp op') r') (hF : OpD c r F) (hF' : OpD c r' F')
    (h : WE c a ρ (fun x => WE c b ρ (fun y => F x y (fun z => ∃ k, z = .bl k ∧ (k = true → WE c e ρ (fun w => F' y w (fun z => ∃ k, z = .bl k ∧ P k)) ex) ∧ (k = false → P false))) ex) ex) (hm : lastMarks [op, op'] [b, e] = false := by with_unfolding_all rfl) : WT c (.Compare a [op, op'] [b, e] pos) ρ P ex :=
  wt_of (pt_chain ho ho' (peU c a) (peU c b) (peU c e) hm) fun σ H R E S p x => tU.mk h S p x fun vx H1 ⟨dx, g1, ok1, q1, w1⟩ => tU.mk w1 (S.grow g1 ok1) p (x.grow g1 ok1) fun vy H2 ⟨dy, g2, ok2, q2, f2⟩ =>
    have S2 := (S.grow g1 ok1).grow g2 ok2
    hF _ _ _ _ _ _ _ S2.ndr ok2 (q1.grow (S.grow g1 ok1).ndr g2) q2 f2 _ fun vz H3 ⟨dz, g3, ok3, q3, k, e3, h1, h2⟩ => by
      subst e3
      cases q3
      refine ⟨k, rfl, ?_⟩
      have S3 := S2.grow g3 ok3
      cases k with
      | false => exact iteF ⟨false, rfl, (g1.trans g2).trans g3, ok3, h2 rfl⟩
      | true =>
        refine iteT (tU.mk (h1 rfl) S3 p (((x.grow g1 ok1).grow g2 ok2).grow g3 ok3) fun vw H4 ⟨dw, g4, ok4, q4, f4⟩ => ?_)
        refine hF' _ _ _ _ _ _ _ (S3.grow g4 ok4).ndr ok4 ((q2.grow S2.ndr g3).grow S3.ndr g4) q4 f4 _ fun v5 H5 f => ?_
        obtain ⟨d5, g5, ok5, q5, k5, e5, h5⟩ := (((f.back g4 ok4).back g3 ok3).back g2 ok2).back g1 ok1
        subst e5
        cases q5
        exact ⟨k5, rfl, g5, ok5, h5⟩
abbrev FB (f : Int → Int → Bool) : D → D → (D → Prop) → Prop := fun x y P => ∃ i j, x = .int i ∧ y = .int j ∧ P (.bl (f i j))
theorem opd_B (f : Int → Int → Bool) : OpD c (rI0 fun i j => .bl (f i j)) (FB f) := opd_I0 _ (fun i j => .bl (f i j)) fun _ _ _ _ => .bl _
/-- scalars -/
def scV : D → Option V
  | .non => some .non
  | .bl b => some (.bl b)
  | .int i => some (.int i)
  | .str x => some (.str x)
  | _ => none
theorem scV_dq {W : Wd cls} {v w : V} {d : D} (q : Dq W R H v d) (h : scV d = some w) : v = w := by
  cases q <;> simp only [scV] at h <;> first | exact Option.some.inj h | cases h
abbrev FEq : D → D → (D → Prop) → Prop := fun x y P => ∃ a b, scV x = some a ∧ scV y = some b ∧ scal a b = true ∧ P (.bl (decide (a = b)))
abbrev FNe : D → D → (D → Prop) → Prop := fun x y P => ∃ a b, scV x = some a ∧ scV y = some b ∧ scal a b = true ∧ P (.bl (!decide (a = b)))
theorem opd_eq : OpD c rEq FEq := fun R H vx vy x y P nd ok qx qy f Q k => by
  obtain ⟨a, b, h1, h2, h3, h⟩ := f
  have e1 := scV_dq qx h1
  have e2 := scV_dq qy h2
  subst e1 e2
  exact ⟨h3, k _ _ (Fin.here ok nd (.bl _) h)⟩
theorem opd_ne : OpD c rNe FNe := fun R H vx vy x y P nd ok qx qy f Q k => by
  obtain ⟨a, b, h1, h2, h3, h⟩ := f
  have e1 := scV_dq qx h1
  have e2 := scV_dq qy h2
  subst e1 e2
  exact ⟨h3, k _ _ (Fin.here ok nd (.bl _) h)⟩
def isNon : D → Bool
  | .non => true
  | _ => false
theorem isNon_dq {W : Wd cls} {v : V} {d : D} (q : Dq W R H v d) : decide (v = .non) = isNon d := by
  cases q <;> simp [isNon]
theorem opd_isN : OpD c (fun x y H Q => y = .non ∧ Q (.bl (decide (x = .non))) H) (fun x y P => y = .non ∧ P (.bl (isNon x))) := fun R H vx vy x y P nd ok qx qy f Q k => by
  obtain ⟨rfl, h⟩ := f
  cases qy
  refine ⟨rfl, k _ _ (Fin.here ok nd (.bl _) ?_)⟩
  rw [isNon_dq qx]
  exact h
theorem opd_notN : OpD c (fun x y H Q => y = .non ∧ Q (.bl (!decide (x = .non))) H) (fun x y P => y = .non ∧ P (.bl (!isNon x))) := fun R H vx vy x y P nd ok qx qy f Q k => by
  obtain ⟨rfl, h⟩ := f
  cases qy
  refine ⟨rfl, k _ _ (Fin.here ok nd (.bl _) ?_)⟩
  rw [isNon_dq qx]
  exact h

/-! ### isinstance -/
/-- what the written part says of a class whose instances are asked for their class -/
structure InsF (K : PySem.W.Frag) (C : Addr) : Prop where
  cl : Cls K C
  ha : PySem.W.findIn K (.ref C) "__class__" = some (some (.builtin "object.__class__"))
  hn : PySem.W.specialIn K (.builtin "object.__class__") "__get__" = some (some (.builtin "getset_descriptor.__get__"))
  ht : PySem.W.takesIn K (.builtin "object.__class__") = some true
  hm : PySem.W.mroIn K C (.type "object") = some true
/-- a datum's class -/
def tagV (cls : Nat → Addr) : D → Option Value
  | .non => some (.type "NoneType")
  | .bl _ => some (.type "bool")
  | .int _ => some (.type "int")
  | .str _ => some (.type "str")
  | .lst _ => some (.type "list")
  | .tup _ => some (.type "tuple")
  | .obj k _ => some (.ref (cls k))
  | _ => none
/-- a class as a datum -/
def clV (cls : Nat → Addr) : D → Option Value
  | .ty n => some (.type n)
  | .cl k => some (.ref (cls k))
  | _ => none
theorem tag_ok {W : Wd cls} {K : PySem.W.Frag} {v : V} {d : D} {t : Value} (q : Dq W R H v d) (h : tagV cls d = some t) (hi : ∀ k fs, d = .obj k fs → InsF K (cls k)) : TyX K H v t := by
  cases q with
  | non => cases h; exact .base .non
  | bl b => cases h; exact .base (.bl b)
  | int i => cases h; exact .base (.int i)
  | str x => cases h; exact .base (.str x)
  | lst r e q => cases h; exact .base (.lst e)
  | tup r e q => cases h; exact .base (.tup e)
  | obj r e q =>
    cases h
    obtain ⟨h1, h2, h3, h4, h5⟩ := hi _ _ rfl
    exact .base (.ins e h1 h2 h3 h4 h5)
  | ty n => cases h
  | cl k => cases h
  | own => cases h
theorem clV_ok {W : Wd cls} {v : V} {d : D} {t : Value} (q : Dq W R H v d) (h : clV cls d = some t) : ClsV v t := by
  cases q with
  | ty n => cases h; exact .ty n
  | cl k => cases h; exact .own _
  | _ => cases h
theorem clVs_ok {W : Wd cls} : ∀ {vs : List V} {ds : List D} {us : List Value}, DqL W R H vs ds → ds.mapM (clV cls) = some us → Paired ClsV vs us
  | _, _, us, .nil, h => by cases h; exact .nil
  | _, _, us, .cons (d := d) (ds := ds) q r, h => by
    rw [List.mapM_cons] at h
    cases e1 : clV cls d with
    | none => rw [e1] at h; cases h
    | some t =>
      rw [e1] at h
      cases e2 : ds.mapM (clV cls) with
      | none => rw [e2] at h; cases h
      | some ts =>
        rw [e2] at h
        cases h
        exact .cons (clV_ok q e1) (clVs_ok r e2)
theorem lsd_isi : LsD c (rIsi c.X.K) (fun ds P => ∃ d k t u b, ds = [d, k] ∧ tagV cls d = some t ∧ clV cls k = some u ∧ (∀ k fs, d = .obj k fs → InsF c.X.K (cls k)) ∧ PySem.W.kitOne c.X.K t u = some b ∧ P (.bl b)) := fun R H vs ds P nd ok q f Q kk => by
  obtain ⟨d, k, t, u, b, rfl, h1, h2, h3, h4, h⟩ := f
  cases q with
  | cons q1 q =>
    cases q with
    | cons q2 q =>
      cases q
      exact ⟨_, _, t, u, b, rfl, clV_ok q2 h2, tag_ok q1 h1 h3, h4, kk _ _ (Fin.here ok nd (.bl _) h)⟩
theorem lsd_isiT : LsD c (rIsiT c.X.K) (fun ds P => ∃ d ks t us b, ds = [d, .tup ks] ∧ tagV cls d = some t ∧ ks.mapM (clV cls) = some us ∧ (∀ k fs, d = .obj k fs → InsF c.X.K (cls k)) ∧ PySem.W.kitAny c.X.K t us = some b ∧ P (.bl b)) := fun R H vs ds P nd ok q f Q kk => by
  obtain ⟨d, ks, t, us, b, rfl, h1, h2, h3, h4, h⟩ := f
  cases q with
  | cons q1 q =>
    cases q with
    | cons q2 q =>
      cases q
      cases q2 with
      | tup r e q2 => exact ⟨_, _, _, t, us, b, rfl, e, clVs_ok q2 h2, tag_ok q1 h1 h3, h4, kk _ _ (Fin.here ok nd (.bl _) h)⟩
end
end Vl
end
section
set_option maxHeartbeats 4000000
namespace Vl
open PySem PySem.Spec PyProof.Rows L2
variable {cls : Nat → Addr}
/-- built-in names that the module leaves as they are -/
def bltNames : List Str := ["int", "bool", "str", "list", "tuple", "len", "isinstance", "range", "all", "any", "sum", "abs", "sorted", "zip", "enumerate", "ValueError", "min", "max", "dict", "set", "repr"]
abbrev NB (mg : Str → Option Value) : Prop := ∀ x : Str, x ∈ bltNames → mg x = none
section
variable {c : Cy cls} {ρ : Rho}
theorem we_isi {a k : Expr} {pp pos : Pos} {P : D → Prop} {ex : Xd → Prop} (nb : NB c.X.mg) (h : WE c a ρ (fun d => WE c k ρ (fun kd => ∃ t u b, tagV cls d = some t ∧ clV cls kd = some u ∧ (∀ k fs, d = .obj k fs → InsF c.X.K (cls k)) ∧ PySem.W.kitOne c.X.K t u = some b ∧ P (.bl b)) ex) ex)
    (hp : PE c.X (.Call (.Name "isinstance" pp) [a, k] [] pos) (tCB (rIsi c.X.K) (tAs c [a, k])) := by exact pe_callB call_isi (by rfl) ((by assumption : NB _) _ (by decide)) (by decide +kernel) (pa_cons (peU _ _) (pa_cons (peU _ _) pa_nil))) :
    WE c (.Call (.Name "isinstance" pp) [a, k] [] pos) ρ P ex := we_blt hp lsd_isi (WE.mono h fun d z => WE.mono z fun kd ⟨t, u, b, h1, h2, h3, h4, h5⟩ => ⟨d, kd, t, u, b, rfl, h1, h2, h3, h4, h5⟩)
theorem we_isiT {a : Expr} {ks : List Expr} {kk : Nat} {tp pp pos : Pos} {P : D → Prop} {ex : Xd → Prop} (nb : NB c.X.mg) (h : WE c a ρ (fun d => WE c (.Tuple ks kk tp) ρ (fun kd => ∃ cs t us b, kd = .tup cs ∧ tagV cls d = some t ∧ cs.mapM (clV cls) = some us ∧ (∀ k fs, d = .obj k fs → InsF c.X.K (cls k)) ∧ PySem.W.kitAny c.X.K t us = some b ∧ P (.bl b)) ex) ex)
    (hp : PE c.X (.Call (.Name "isinstance" pp) [a, .Tuple ks kk tp] [] pos) (tCB (rIsiT c.X.K) (tAs c [a, .Tuple ks kk tp])) := by exact pe_callB call_isiT (by rfl) ((by assumption : NB _) _ (by decide)) (by decide +kernel) (pa_cons (peU _ _) (pa_cons (peU _ _) pa_nil))) :
    WE c (.Call (.Name "isinstance" pp) [a, .Tuple ks kk tp] [] pos) ρ P ex := we_blt hp lsd_isiT (WE.mono h fun d z => WE.mono z fun kd ⟨cs, t, us, b, e, h1, h2, h3, h4, h5⟩ => ⟨d, cs, t, us, b, by rw [e], h1, h2, h3, h4, h5⟩)
theorem we_len {a : Expr} {pp pos : Pos} {P : D → Prop} {ex : Xd → Prop} (nb : NB c.X.mg) (h : WE c a ρ (fun d => ∃ n, lenD d = some n ∧ P (.int n)) ex)
    (hp : PE c.X (.Call (.Name "len" pp) [a] [] pos) (tCB (fun xs H Q => ∃ x n, xs = [x] ∧ LenV c.X.K x H n ∧ Q (.int n) H) (tAs c [a])) := by exact pe_callB call_len (by rfl) ((by assumption : NB _) _ (by decide)) (by decide +kernel) (pa_cons (peU _ _) pa_nil)) :
    WE c (.Call (.Name "len" pp) [a] [] pos) ρ P ex := we_blt hp lsd_len (WE.mono h fun d ⟨n, h1, h2⟩ => ⟨d, n, rfl, h1, h2⟩)
theorem we_all {a : Expr} {pp pos : Pos} {P : D → Prop} {ex : Xd → Prop} (nb : NB c.X.mg) (h : WE c a ρ (fun d => ∃ bs : List Bool, d = .lst (bs.map D.bl) ∧ P (.bl (bs.all id))) ex)
    (hp : PE c.X (.Call (.Name "all" pp) [a] [] pos) (tCB (rAll c.X.K) (tAs c [a])) := by exact pe_callB (cr_all rfl) (by rfl) ((by assumption : NB _) _ (by decide)) (by decide +kernel) (pa_cons (peU _ _) pa_nil)) :
    WE c (.Call (.Name "all" pp) [a] [] pos) ρ P ex := we_blt hp lsd_all (WE.mono h fun d ⟨n, h1, h2⟩ => ⟨n, by rw [h1], h2⟩)
theorem we_sum {a : Expr} {pp pos : Pos} {P : D → Prop} {ex : Xd → Prop} (nb : NB c.X.mg) (h : WE c a ρ (fun d => ∃ ns : List Int, d = .lst (ns.map D.int) ∧ P (.int ns.sum)) ex)
    (hp : PE c.X (.Call (.Name "sum" pp) [a] [] pos) (tCB (rSum c.X.K) (tAs c [a])) := by exact pe_callB (cr_sum rfl) (by rfl) ((by assumption : NB _) _ (by decide)) (by decide +kernel) (pa_cons (peU _ _) pa_nil)) :
    WE c (.Call (.Name "sum" pp) [a] [] pos) ρ P ex := we_blt hp lsd_sum (WE.mono h fun d ⟨n, h1, h2⟩ => ⟨n, by rw [h1], h2⟩)
theorem we_int1 {a : Expr} {pp pos : Pos} {P : D → Prop} {ex : Xd → Prop} (nb : NB c.X.mg) (h : WE c a ρ (fun d => ∃ n, d = .int n ∧ P (.int n)) ex)
    (hp : PE c.X (.Call (.Name "int" pp) [a] [] pos) (tCB (fun xs H Q => (∃ i, xs = [.int i] ∧ Q (.int i) H) ∨ ∃ k, xs = [.bl k] ∧ Q (.int (if k then 1 else 0)) H) (tAs c [a])) := by exact pe_callTy call_int1 (by rfl) ((by assumption : NB _) _ (by decide)) (by decide +kernel) (pa_cons (peU _ _) pa_nil)) :
    WE c (.Call (.Name "int" pp) [a] [] pos) ρ P ex := we_blt hp lsd_int (WE.mono h fun d ⟨n, h1, h2⟩ => ⟨n, by rw [h1], h2⟩)
theorem we_abs {a : Expr} {pp pos : Pos} {P : D → Prop} {ex : Xd → Prop} (nb : NB c.X.mg) (h : WE c a ρ (fun d => ∃ n, d = .int n ∧ P (.int (if n < 0 then -n else n))) ex)
    (hp : PE c.X (.Call (.Name "abs" pp) [a] [] pos) (tCB (fun xs H Q => ∃ i, xs = [.int i] ∧ Q (.int (if i < 0 then -i else i)) H) (tAs c [a])) := by exact pe_callB call_abs (by rfl) ((by assumption : NB _) _ (by decide)) (by decide +kernel) (pa_cons (peU _ _) pa_nil)) :
    WE c (.Call (.Name "abs" pp) [a] [] pos) ρ P ex := we_blt hp lsd_abs (WE.mono h fun d ⟨n, h1, h2⟩ => ⟨n, by rw [h1], h2⟩)
theorem we_tupleOf {a : Expr} {pp pos : Pos} {P : D → Prop} {ex : Xd → Prop} (nb : NB c.X.mg) (h : WE c a ρ (fun d => ∃ xs, (d = .lst xs ∨ d = .tup xs) ∧ P (.tup xs)) ex)
    (hp : PE c.X (.Call (.Name "tuple" pp) [a] [] pos) (tCB (fun xs H Q => ∃ p ys, xs = [.ref p] ∧ ((SqL c.X.K H p ys ∧ ∀ l, H l = none → Q (.ref l) (upd H l (.tup ys))) ∨ (SqT c.X.K H p ys ∧ Q (.ref p) H))) (tAs c [a])) := by exact pe_callTy call_tuple_of (by rfl) ((by assumption : NB _) _ (by decide)) (by decide +kernel) (pa_cons (peU _ _) pa_nil)) :
    WE c (.Call (.Name "tuple" pp) [a] [] pos) ρ P ex := we_blt hp lsd_tuple (WE.mono h fun d ⟨n, h1, h2⟩ => ⟨n, h1.elim (fun z => .inl (by rw [z])) (fun z => .inr (by rw [z])), h2⟩)
/-! isinstance of plain data -/
/-- a plain datum, as far as one sees -/
def _root_.Vl.dat : D → Bool
  | .non => true | .bl _ => true | .int _ => true | .str _ => true | .lst _ => true | .tup _ => true
  | _ => false
def _root_.Vl.tagT : D → String
  | .non => "NoneType" | .bl _ => "bool" | .int _ => "int" | .str _ => "str" | .lst _ => "list" | .tup _ => "tuple"
  | _ => ""
def _root_.Vl.isA (n : String) : D → Bool
  | .bl _ => n == "bool" || n == "int"
  | .int _ => n == "int"
  | .str _ => n == "str"
  | .lst _ => n == "list"
  | .tup _ => n == "tuple"
  | _ => false
theorem tag_dat {d : D} (h : dat d = true) : tagV cls d = some (.type (tagT d)) := by cases d <;> first | rfl | cases h
theorem kit_dat {K : PySem.W.Frag} {d : D} {n : String} (h : dat d = true) (hn : n = "int" ∨ n = "bool" ∨ n = "str" ∨ n = "list" ∨ n = "tuple") : PySem.W.kitOne K (.type (tagT d)) (.type n) = some (isA n d) := by
  rcases hn with rfl | rfl | rfl | rfl | rfl <;> cases d <;> first | (cases h; done) | (simp only [tagT, isA]; exact kit_ty (by decide +kernel))
theorem obj_dat {d : D} (h : dat d = true) {Q : Nat → List (Str × D) → Prop} : ∀ k fs, d = .obj k fs → Q k fs := fun k fs e => by subst e; cases h
/-- isinstance(a, T), T one of five -/
theorem we_isA {n : String} {a : Expr} {np pp pos : Pos} {P : D → Prop} {ex : Xd → Prop} (nb : NB c.X.mg) (hn : n = "int" ∨ n = "bool" ∨ n = "str" ∨ n = "list" ∨ n = "tuple") (h : WE c a ρ (fun d => dat d = true ∧ P (.bl (isA n d))) ex) (hm : Str.ofString n ∈ bltNames := by decide)
    (hv : bootBuiltins (Str.ofString n) = some (.type n) := by decide +kernel) (hg : Gl c.X (Str.ofString n) := by rfl) (hn1 : Str.ofString n ≠ "__name__" := by decide) (hd : (Str.ofString n == ("__debug__" : Str)) = false := by decide)
    (hp : PE c.X (.Call (.Name "isinstance" pp) [a, .Name (Str.ofString n) np] [] pos) (tCB (rIsi c.X.K) (tAs c [a, .Name (Str.ofString n) np])) := by exact pe_callB call_isi (by rfl) ((by assumption : NB _) _ (by decide)) (by decide +kernel) (pa_cons (peU _ _) (pa_cons (peU _ _) pa_nil))) :
    WE c (.Call (.Name "isinstance" pp) [a, .Name (Str.ofString n) np] [] pos) ρ P ex :=
  we_isi nb (WE.mono h fun d ⟨h1, h2⟩ => we_ty (nb _ hm) ⟨_, _, _, tag_dat h1, rfl, obj_dat h1, kit_dat h1 hn, h2⟩ hv hg hn1 hd) hp
/-- isinstance(a, (list, tuple)) -/
theorem we_isA2 {n m : String} {a : Expr} {np mp tp pp pos : Pos} {kk : Nat} {P : D → Prop} {ex : Xd → Prop} (nb : NB c.X.mg) (hn : n = "int" ∨ n = "bool" ∨ n = "str" ∨ n = "list" ∨ n = "tuple") (hm' : m = "int" ∨ m = "bool" ∨ m = "str" ∨ m = "list" ∨ m = "tuple")
    (h : WE c a ρ (fun d => dat d = true ∧ P (.bl (isA n d || isA m d))) ex) (hm : Str.ofString n ∈ bltNames := by decide) (hm2 : Str.ofString m ∈ bltNames := by decide)
    (hv : bootBuiltins (Str.ofString n) = some (.type n) := by decide +kernel) (hg : Gl c.X (Str.ofString n) := by rfl) (hn1 : Str.ofString n ≠ "__name__" := by decide) (hd : (Str.ofString n == ("__debug__" : Str)) = false := by decide)
    (hv2 : bootBuiltins (Str.ofString m) = some (.type m) := by decide +kernel) (hg2 : Gl c.X (Str.ofString m) := by rfl) (hn2 : Str.ofString m ≠ "__name__" := by decide) (hd2 : (Str.ofString m == ("__debug__" : Str)) = false := by decide)
    (hp : PE c.X (.Call (.Name "isinstance" pp) [a, .Tuple [.Name (Str.ofString n) np, .Name (Str.ofString m) mp] kk tp] [] pos) (tCB (rIsiT c.X.K) (tAs c [a, .Tuple [.Name (Str.ofString n) np, .Name (Str.ofString m) mp] kk tp])) := by exact pe_callB call_isiT (by rfl) ((by assumption : NB _) _ (by decide)) (by decide +kernel) (pa_cons (peU _ _) (pa_cons (peU _ _) pa_nil)))
    (hpt : PA c.X [.Name (Str.ofString n) np, .Name (Str.ofString m) mp] (tAs c [.Name (Str.ofString n) np, .Name (Str.ofString m) mp]) := by (repeat (first | exact pa_nil | refine pa_cons (peU _ _) ?_))) :
    WE c (.Call (.Name "isinstance" pp) [a, .Tuple [.Name (Str.ofString n) np, .Name (Str.ofString m) mp] kk tp] [] pos) ρ P ex :=
  we_isiT nb (WE.mono h fun d ⟨h1, h2⟩ => we_tup (we_ty (nb _ hm) (we_ty (nb _ hm2) ⟨_, _, [.type n, .type m], _, rfl, tag_dat h1, rfl, obj_dat h1, by
    show PySem.W.kitAny c.X.K _ [.type n, .type m] = some (isA n d || isA m d)
    unfold PySem.W.kitAny
    rw [kit_dat h1 hn]
    cases isA n d with
    | true => rfl
    | false =>
      unfold PySem.W.kitAny
      rw [kit_dat h1 hm']
      cases isA m d <;> rfl, h2⟩ hv2 hg2 hn2 hd2) hv hg hn1 hd) hpt (by show 2 ≤ sizeLine; decide)) hp
/-! numbers -/
theorem we_add {a b : Expr} {pos : Pos} {P : D → Prop} {ex : Xd → Prop} (h : WE c a ρ (fun x => WE c b ρ (fun y => ∃ i j, x = .int i ∧ y = .int j ∧ P (.int (i + j))) ex) ex) : WE c (.BinOp a .Add b pos) ρ P ex := we_bin (pe_op op_add (peU c a) (peU c b)) (opd_I0 _ (fun i j => .int (i + j)) fun _ _ _ _ => .int _) h
theorem we_sub {a b : Expr} {pos : Pos} {P : D → Prop} {ex : Xd → Prop} (h : WE c a ρ (fun x => WE c b ρ (fun y => ∃ i j, x = .int i ∧ y = .int j ∧ P (.int (i - j))) ex) ex) : WE c (.BinOp a .Sub b pos) ρ P ex := we_bin (pe_op op_sub (peU c a) (peU c b)) (opd_I0 _ (fun i j => .int (i - j)) fun _ _ _ _ => .int _) h
theorem we_mul {a b : Expr} {pos : Pos} {P : D → Prop} {ex : Xd → Prop} (h : WE c a ρ (fun x => WE c b ρ (fun y => ∃ i j, x = .int i ∧ y = .int j ∧ CMul i j ∧ P (.int (i * j))) ex) ex) : WE c (.BinOp a .Mult b pos) ρ P ex := we_bin (pe_op op_mul (peU c a) (peU c b)) (opd_I _ _ (fun i j => .int (i * j)) fun _ _ _ _ => .int _) h
theorem we_mod {a b : Expr} {pos : Pos} {P : D → Prop} {ex : Xd → Prop} (h : WE c a ρ (fun x => WE c b ρ (fun y => ∃ i j, x = .int i ∧ y = .int j ∧ j ≠ 0 ∧ P (.int (i.fmod j))) ex) ex) : WE c (.BinOp a .Mod b pos) ρ P ex := we_bin (pe_op op_modN (peU c a) (peU c b)) (opd_I _ _ (fun i j => .int (i.fmod j)) fun _ _ _ _ => .int _) h
theorem we_fdiv {a b : Expr} {pos : Pos} {P : D → Prop} {ex : Xd → Prop} (h : WE c a ρ (fun x => WE c b ρ (fun y => ∃ i j, x = .int i ∧ y = .int j ∧ CDivN i j ∧ P (.int (i.fdiv j))) ex) ex) : WE c (.BinOp a .FloorDiv b pos) ρ P ex := we_bin (pe_op op_fdivN (peU c a) (peU c b)) (opd_I _ _ (fun i j => .int (i.fdiv j)) fun _ _ _ _ => .int _) h
theorem we_pow {a b : Expr} {pos : Pos} {P : D → Prop} {ex : Xd → Prop} (h : WE c a ρ (fun x => WE c b ρ (fun y => ∃ i j, x = .int i ∧ y = .int j ∧ CPow i j ∧ P (.int (i ^ j.toNat))) ex) ex) : WE c (.BinOp a .Pow b pos) ρ P ex := we_bin (pe_op op_pow (peU c a) (peU c b)) (opd_I _ _ (fun i j => .int (i ^ j.toNat)) fun _ _ _ _ => .int _) h
theorem we_neg {a : Expr} {pos : Pos} {P : D → Prop} {ex : Xd → Prop} (h : WE c a ρ (fun x => ∃ i, x = .int i ∧ P (.int (-i))) ex) : WE c (.UnaryOp .USub a pos) ρ P ex := we_un (F := fun x P => ∃ i, x = .int i ∧ P (.int (-i))) (pe_un un_neg (peU c a)) (fun R H vx x P nd ok q f Q k => by
  obtain ⟨i, rfl, h⟩ := f
  cases q
  exact ⟨i, rfl, k _ _ (Fin.here ok nd (.int _) h)⟩) h
theorem we_lt {a b : Expr} {pos : Pos} {P : D → Prop} {ex : Xd → Prop} (h : WE c a ρ (fun x => WE c b ρ (fun y => FB (fun i j => decide (i < j)) x y P) ex) ex) : WE c (.Compare a [.Lt] [b] pos) ρ P ex := we_bin (pe_cmpR op_lt (peU c a) (peU c b) (nomark _)) (opd_B _) h
theorem we_le {a b : Expr} {pos : Pos} {P : D → Prop} {ex : Xd → Prop} (h : WE c a ρ (fun x => WE c b ρ (fun y => FB (fun i j => decide (i ≤ j)) x y P) ex) ex) : WE c (.Compare a [.LtE] [b] pos) ρ P ex := we_bin (pe_cmpR op_le (peU c a) (peU c b) (nomark _)) (opd_B _) h
theorem we_gt {a b : Expr} {pos : Pos} {P : D → Prop} {ex : Xd → Prop} (h : WE c a ρ (fun x => WE c b ρ (fun y => FB (fun i j => decide (j < i)) x y P) ex) ex) : WE c (.Compare a [.Gt] [b] pos) ρ P ex := we_bin (pe_cmpR op_gt (peU c a) (peU c b) (nomark _)) (opd_B _) h
theorem we_ge {a b : Expr} {pos : Pos} {P : D → Prop} {ex : Xd → Prop} (h : WE c a ρ (fun x => WE c b ρ (fun y => FB (fun i j => decide (j ≤ i)) x y P) ex) ex) : WE c (.Compare a [.GtE] [b] pos) ρ P ex := we_bin (pe_cmpR op_ge (peU c a) (peU c b) (nomark _)) (opd_B _) h
theorem we_eq {a b : Expr} {pos : Pos} {P : D → Prop} {ex : Xd → Prop} (h : WE c a ρ (fun x => WE c b ρ (fun y => FEq x y P) ex) ex) : WE c (.Compare a [.Eq] [b] pos) ρ P ex := we_bin (pe_cmpR op_eq (peU c a) (peU c b) (nomark _)) opd_eq h
theorem we_ne {a b : Expr} {pos : Pos} {P : D → Prop} {ex : Xd → Prop} (h : WE c a ρ (fun x => WE c b ρ (fun y => FNe x y P) ex) ex) : WE c (.Compare a [.NotEq] [b] pos) ρ P ex := we_bin (pe_cmpR op_ne (peU c a) (peU c b) (nomark _)) opd_ne h
theorem we_isN {a b : Expr} {pos : Pos} {P : D → Prop} {ex : Xd → Prop} (h : WE c a ρ (fun x => WE c b ρ (fun y => y = .non ∧ P (.bl (isNon x))) ex) ex) : WE c (.Compare a [.Is] [b] pos) ρ P ex := we_bin (pe_cmpR op_isN (peU c a) (peU c b) (nomark _)) opd_isN h
theorem we_notN {a b : Expr} {pos : Pos} {P : D → Prop} {ex : Xd → Prop} (h : WE c a ρ (fun x => WE c b ρ (fun y => y = .non ∧ P (.bl (!isNon x))) ex) ex) : WE c (.Compare a [.IsNot] [b] pos) ρ P ex := we_bin (pe_cmpR op_notN (peU c a) (peU c b) (nomark _)) opd_notN h
abbrev BP (P : Bool → Prop) : D → Prop := fun z => ∃ k, z = .bl k ∧ P k
theorem wt_lt {a b : Expr} {pos : Pos} {P : Bool → Prop} {ex : Xd → Prop} (h : WE c a ρ (fun x => WE c b ρ (fun y => FB (fun i j => decide (i < j)) x y (BP P)) ex) ex) : WT c (.Compare a [.Lt] [b] pos) ρ P ex := wt_bin (pt_cmpR op_lt (peU c a) (peU c b) (nomark _)) (opd_B _) h
theorem wt_le {a b : Expr} {pos : Pos} {P : Bool → Prop} {ex : Xd → Prop} (h : WE c a ρ (fun x => WE c b ρ (fun y => FB (fun i j => decide (i ≤ j)) x y (BP P)) ex) ex) : WT c (.Compare a [.LtE] [b] pos) ρ P ex := wt_bin (pt_cmpR op_le (peU c a) (peU c b) (nomark _)) (opd_B _) h
theorem wt_gt {a b : Expr} {pos : Pos} {P : Bool → Prop} {ex : Xd → Prop} (h : WE c a ρ (fun x => WE c b ρ (fun y => FB (fun i j => decide (j < i)) x y (BP P)) ex) ex) : WT c (.Compare a [.Gt] [b] pos) ρ P ex := wt_bin (pt_cmpR op_gt (peU c a) (peU c b) (nomark _)) (opd_B _) h
theorem wt_ge {a b : Expr} {pos : Pos} {P : Bool → Prop} {ex : Xd → Prop} (h : WE c a ρ (fun x => WE c b ρ (fun y => FB (fun i j => decide (j ≤ i)) x y (BP P)) ex) ex) : WT c (.Compare a [.GtE] [b] pos) ρ P ex := wt_bin (pt_cmpR op_ge (peU c a) (peU c b) (nomark _)) (opd_B _) h
theorem wt_eq {a b : Expr} {pos : Pos} {P : Bool → Prop} {ex : Xd → Prop} (h : WE c a ρ (fun x => WE c b ρ (fun y => FEq x y (BP P)) ex) ex) : WT c (.Compare a [.Eq] [b] pos) ρ P ex := wt_bin (pt_cmpR op_eq (peU c a) (peU c b) (nomark _)) opd_eq h
theorem wt_ne {a b : Expr} {pos : Pos} {P : Bool → Prop} {ex : Xd → Prop} (h : WE c a ρ (fun x => WE c b ρ (fun y => FNe x y (BP P)) ex) ex) : WT c (.Compare a [.NotEq] [b] pos) ρ P ex := wt_bin (pt_cmpR op_ne (peU c a) (peU c b) (nomark _)) opd_ne h
theorem wt_isN {a b : Expr} {pos : Pos} {P : Bool → Prop} {ex : Xd → Prop} (h : WE c a ρ (fun x => WE c b ρ (fun y => y = .non ∧ BP P (.bl (isNon x))) ex) ex) : WT c (.Compare a [.Is] [b] pos) ρ P ex := wt_bin (pt_cmpR op_isN (peU c a) (peU c b) (nomark _)) opd_isN h
theorem wt_notN {a b : Expr} {pos : Pos} {P : Bool → Prop} {ex : Xd → Prop} (h : WE c a ρ (fun x => WE c b ρ (fun y => y = .non ∧ BP P (.bl (!isNon x))) ex) ex) : WT c (.Compare a [.IsNot] [b] pos) ρ P ex := wt_bin (pt_cmpR op_notN (peU c a) (peU c b) (nomark _)) opd_notN h
/-- a <= b <= c, numbers -/
theorem we_leLe {a b e : Expr} {pos : Pos} {P : D → Prop} {ex : Xd → Prop} (h : WE c a ρ (fun x => WE c b ρ (fun y => FB (fun i j => decide (i ≤ j)) x y (fun z => ∃ k, z = .bl k ∧ (k = true → WE c e ρ (fun w => FB (fun i j => decide (i ≤ j)) y w P) ex) ∧ (k = false → P (.bl false)))) ex) ex)
    (hm : lastMarks [.LtE, .LtE] [b, e] = false := by with_unfolding_all rfl) : WE c (.Compare a [.LtE, .LtE] [b, e] pos) ρ P ex := we_chain op_le op_le (opd_B _) (opd_B _) h hm
theorem wt_leLe {a b e : Expr} {pos : Pos} {P : Bool → Prop} {ex : Xd → Prop} (h : WE c a ρ (fun x => WE c b ρ (fun y => FB (fun i j => decide (i ≤ j)) x y (fun z => ∃ k, z = .bl k ∧ (k = true → WE c e ρ (fun w => FB (fun i j => decide (i ≤ j)) y w (BP P)) ex) ∧ (k = false → P false))) ex) ex)
    (hm : lastMarks [.LtE, .LtE] [b, e] = false := by with_unfolding_all rfl) : WT c (.Compare a [.LtE, .LtE] [b, e] pos) ρ P ex := wt_chain op_le op_le (opd_B _) (opd_B _) h hm
theorem we_ix {a b : Expr} {pos : Pos} {P : D → Prop} {ex : Xd → Prop} (h : WE c a ρ (fun x => WE c b ρ (fun y => ∃ i d, y = .int i ∧ itemD x i = some d ∧ P d) ex) ex) (hp : PlainIx b := by exact fun _ _ => rfl) : WE c (.Subscript a b pos) ρ P ex := we_bin (pe_ix ix_seq (peU c a) (peU c b) hp) opd_ix h
end
end Vl
end
section
set_option maxHeartbeats 4000000
namespace Vl
open PySem PySem.Spec PyProof.Rows L2
variable {cls : Nat → Addr}
/-! ### enumerate(v) of anything that begins -/
theorem meets_enum1 {v : Value} {o : Obj} {G : Heap → Prop} (B : Begins v o G) :
    Meets (Builtin.«enumerate.__new__» ⟨[.type "enumerate", v], []⟩) (fun _ R s => G s.heap ∧ R (.ok (.ret (.ref (s.heap.push o).objs.size)))
      { s with heap := (s.heap.push o).push { cls := .type "enumerate", data := .fields #[.none, .bool false, .ref s.heap.objs.size, rawInt 0, .none, .none] } }) :=
  .of_wp fun prog w A R s z => by
    obtain ⟨hp, gs, dr, tk, ops⟩ := s
    obtain ⟨z1, z2⟩ := z
    have sub := sub_enumerate
    have go : ∀ {A' : Around} {E : Value → Shared → Prop} {Q : Value → Shared → Prop}, Q (.ref hp.objs.size) ⟨hp.push o, gs, dr, tk, ops⟩ → wpAny (model prog w) A' (pyIter v) Q E ⟨hp, gs, dr, tk, ops⟩ := fun q => B.iter prog w _ _ _ _ z1 q
    wp_walk using go
    refine wpAny_stack_any fun stk => wpAny_pure ?_
    split
    · rename_i k _ _ _ _ _
      cases (k == Value.type "enumerate") <;> (wp_walk using go; exact ⟨_, rfl, z2⟩)
    · wp_walk using go
      exact ⟨_, rfl, z2⟩
theorem call_enum1 {prog : Program} {w : World} {A : Around} {E : Value → Shared → Prop} {s : Shared} {v : Value} {o : Obj} {G : Heap → Prop} {Q : Value → Shared → Prop} (B : Begins v o G) (g : G s.heap)
    (h : ∀ h', IsEnum h' (s.heap.objs.size + 1) s.heap.objs.size 0 .none → h'.get? s.heap.objs.size = some o → (∀ b u, s.heap.get? b = some u → h'.get? b = some u) → Q (.ref (s.heap.objs.size + 1)) { s with heap := h' }) :
    wpAny (model prog w) A (call (.type "enumerate") [v]) Q E s := by
  refine callType_new F.called_enumerate (by decide) (F.typeCall_enumerate_1 _) (F.newCall_enumerate_1 _) (fun obj => F.args_object_init_2 obj _) F.entry_enumerate_new (meets_enum1 B) ⟨g, ?_⟩
  have sz : (s.heap.push o).objs.size = s.heap.objs.size + 1 := Heap.size_push ..
  show _ ∧ _
  rw [sz]
  have ie : IsEnum ((s.heap.push o).push { cls := .type "enumerate", data := .fields #[.none, .bool false, .ref s.heap.objs.size, rawInt 0, .none, .none] }) (s.heap.objs.size + 1) s.heap.objs.size 0 .none := by
    have z := Heap.get?_push_size (s.heap.push o) (o := { cls := .type "enumerate", data := .fields #[.none, .bool false, .ref s.heap.objs.size, rawInt 0, .none, .none] }) rfl
    rw [sz] at z
    exact z
  exact ⟨⟨_, ie, rfl⟩, h _ ie (Heap.get?_push_of_some _ (Heap.get?_push_size _ B.free)) fun b u q => Heap.get?_push_of_some _ (Heap.get?_push_of_some _ q)⟩
/-- one turn of an enumerate over an iterator at `it` whose own state is told by `own` -/
theorem turn_enumG {P : Program} {w : World} {K : PySem.W.Frag} {elts : List Expr} {kk : Nat} {tpos : Pos} (J : It) (e it : Addr) (own : Nat → Heap → Prop) (hne : e ≠ it)
    (hobj : ∀ i h, own i h → ∃ o, h.get? it = some o ∧ ∀ v, o.data ≠ .cell v) (hkeep : ∀ i h h', own i h → (∀ o, h.get? it = some o → h'.get? it = some o) → own i h')
    (hgo : ∀ (X : Cx), X.prog = P → X.w = w → X.K = K → X.calm = true → ∀ (i : Nat) (pins : List (Addr × Obj)) (s : Shared) (σ : L2.St) (H : Hp), Inv X pins σ H s → own i s.heap → J.go i H → ∃ (n : Nat) (Pv : Nat → Value → Prop) (Sd : Nat → Heap → Prop) (fp : List Addr),
      Draws P w X.A.in1 it fp n Pv Sd ∧ Sd i s.heap ∧ i < n ∧ (∀ b ∈ fp, b ≠ it → ∃ u, H b = some u) ∧ (∀ x, Pv i x → ∃ v, RelV v x ∧ ∀ T, H T = none → J.yld i H (.ref T) (upd H T (.tup [.int (i : Nat), v]))) ∧ ∀ h', Sd (i + 1) h' → own (i + 1) h')
    (hstop : ∀ (X : Cx), X.prog = P → X.w = w → X.K = K → X.calm = true → ∀ (i : Nat) (pins : List (Addr × Obj)) (s : Shared) (σ : L2.St) (H : Hp), Inv X pins σ H s → own i s.heap → J.stop i H → ∃ (n : Nat) (Pv : Nat → Value → Prop) (Sd : Nat → Heap → Prop) (fp : List Addr), Draws P w X.A.in1 it fp n Pv Sd ∧ Sd n s.heap) :
    Turn P w K (.Tuple elts kk tpos) J [e, it] e (fun i h => (∃ old, IsEnum h e it ((i : Nat) : Int) old) ∧ own i h) where
  mem := by simp
  obj := fun i h st b hb => by
    obtain ⟨⟨old, he⟩, ho⟩ := st
    have z : b = e ∨ b = it := by simpa using hb
    rcases z with z | z
    · rw [z]; exact ⟨_, he, fun v q => nomatch q⟩
    · rw [z]; exact hobj i h ho
  keep := fun i h h' st k => let ⟨⟨old, he⟩, ho⟩ := st; ⟨⟨old, k e (by simp) _ he⟩, hkeep i h h' ho fun o q => k it (by simp) o q⟩
  item := by
    intro X hP hw hK hc i pins s σ H E I hf st hg
    obtain ⟨⟨old, he⟩, ho⟩ := st
    obtain ⟨n, Pv, Sd, fp, D, sd, lt, hfp, hy, hown⟩ := hgo X hP hw hK hc i pins s σ H I ho hg
    subst hP hw hK
    have hel : e < s.heap.objs.size := Heap.lt_size he
    have hil : it < s.heap.objs.size := let ⟨o, q, _⟩ := hobj i _ ho; Heap.lt_size q
    have hen : H e = none := (hf e (by simp)).1
    have hef : e ∉ fp := fun z => by
      obtain ⟨u, q⟩ := hfp e z hne
      rw [hen] at q
      cases q
    refine wpAny_pyNext_enum_itemD D he sd lt hne hef fun x h' tk px ho' sd' hT hsz hk => ?_
    obtain ⟨v, rv, yl⟩ := hy x px
    refine ⟨_, rfl, wpAny_letOwnedTupleGo_enum (s := { s with heap := h', toks := tk + 1 }) ho' fun h'' he' sb => ?_⟩
    have hT2 : h''.get? s.heap.objs.size = some { cls := .type "tuple", data := .seq #[.int i tk, x] } := (sb.2 _ (Nat.ne_of_gt hel)).trans hT
    have new : ObjOk X.prog X.w (upd H s.heap.objs.size (.tup [.int (i : Nat), v])) h'' s.heap.objs.size (.tup [.int (i : Nat), v]) :=
      ⟨by show 2 ≤ sizeLine; decide, [.int i tk, x], .cons ⟨_, rfl⟩ (.cons rv .nil), ⟨_, hT2, rfl, _, rfl⟩⟩
    have I1 : Inv X pins σ (upd H s.heap.objs.size (.tup [.int (i : Nat), v])) { s with heap := h'', toks := tk + 1 } :=
      I.turnedNew (ch := [e, it]) (fun b ob hb q => (sb.2 b (fun z => hb (by simp [z]))).trans (hk b ob (fun z => hb (by simp [z])) (fun z => hb (by simp [z])) q)) hf (Nat.le_refl _) new
    refine ⟨.ref s.heap.objs.size, _, I1, rfl, yl _ (I.hok.fresh (Nat.le_refl _)), ⟨⟨x, ?_⟩, hkeep _ _ _ (hown h' sd') fun o q => (sb.2 it (Ne.symm hne)).trans q⟩, fun b hb => ?_⟩
    · have e1 : ((i + 1 : Nat) : Int) = (i : Int) + 1 := by omega
      rw [e1]
      exact he'
    · have z : b = e ∨ b = it := by simpa using hb
      have hb' : b < s.heap.objs.size := by
        rcases z with z | z
        · rw [z]; exact hel
        · rw [z]; exact hil
      rw [upd_ne (Nat.ne_of_lt hb')]
      exact (hf b hb).1
  done := by
    intro X hP hw hK hc i pins s σ H E I hf st hg
    obtain ⟨⟨old, he⟩, ho⟩ := st
    obtain ⟨n, Pv, Sd, fp, D, sd⟩ := hstop X hP hw hK hc i pins s σ H I ho hg
    subst hP hw hK
    obtain ⟨f0, f1, f2, f3, f4, f5⟩ := hf it (by simp)
    exact wpAny_pyNext_enum_endD D he sd fun h' eb => ⟨rfl, I.turned (t' := s.toks) (fun b o hb q => eb b o hb q) f0 f1 f3 f4 f5⟩
  self := fun A i s Q E st h => let ⟨⟨_, he⟩, _⟩ := st; wpAny_pyIter_enum he h
/-- the tuple at a, numbered; a text, numbered -/
def IteT (a : Addr) : It :=
  ⟨fun i H => ∃ (xs : List V) (x : V), H a = some (.tup xs) ∧ xs[i]? = some x, fun i H v H' => ∃ T x, v = .ref T ∧ H T = none ∧ H' = upd H T (.tup [.int (i : Nat), x]) ∧ ∀ xs, H a = some (.tup xs) → xs[i]? = some x, fun i H => ∃ xs : List V, H a = some (.tup xs) ∧ xs.length = i⟩
def IteS (z : Str) : It :=
  ⟨fun i _ => i < z.cps.size, fun i H v H' => ∃ T n, v = .ref T ∧ H T = none ∧ H' = upd H T (.tup [.int (i : Nat), .str ⟨#[n]⟩]) ∧ z.cps[i]? = some n, fun i _ => z.cps.size = i⟩
theorem turn_enumT {P : Program} {w : World} {K : PySem.W.Frag} {elts : List Expr} {kk : Nat} {tpos : Pos} (a e it : Addr) (hne : e ≠ it) (hat : a ≠ it) :
    Turn P w K (.Tuple elts kk tpos) (IteT a) [e, it] e (fun i h => (∃ old, IsEnum h e it ((i : Nat) : Int) old) ∧ h.IsTupleIter it a i) :=
  turn_enumG (IteT a) e it (fun i h => h.IsTupleIter it a i) hne (fun i h ⟨o, e1, e2, e3⟩ => ⟨o, e1, fun v q => by rw [e3] at q; cases q⟩) (fun i h h' st k => st.at k)
    (fun X hP hw hK hc i pins s σ H I ho hg => by
      subst hP hw hK
      obtain ⟨xs, x, hq, hx⟩ := hg
      obtain ⟨its, rv, p, hz⟩ := I.tuple (sq_t hq)
      obtain ⟨u, hu, ru⟩ := rv.get hx
      refine ⟨_, _, _, _, Draws.tuple (A := X.A.in1) (I.ok.hd hc) it a hat its.toArray, ⟨ho, p⟩, by simpa using (List.getElem?_eq_some_iff.mp hu).1, fun b hb hn => ?_, fun y hy => ?_, fun h' q => q.1⟩
      · have z : b = it ∨ b = a := by simpa using hb
        rcases z with z | z
        · exact absurd z hn
        · subst z
          exact ⟨_, hq⟩
      · have ey : y = u := by
          have hy' : its[i]? = some y := by simpa using hy
          rw [hu] at hy'
          exact (Option.some.inj hy').symm
        subst ey
        exact ⟨x, ru, fun T hT => ⟨T, x, rfl, hT, rfl, fun ys hy2 => by rw [hq] at hy2; cases hy2; exact hx⟩⟩)
    (fun X hP hw hK hc i pins s σ H I ho hg => by
      subst hP hw hK
      obtain ⟨xs, hq, hx⟩ := hg
      obtain ⟨its, rv, p, hz⟩ := I.tuple (sq_t hq)
      have hl : its.toArray.size = i := by rw [List.size_toArray, ← rv.length, hx]
      exact ⟨_, _, _, _, Draws.tuple (A := X.A.in1) (I.ok.hd hc) it a hat its.toArray, by rw [hl]; exact ⟨ho, p⟩⟩)
theorem turn_enumS {P : Program} {w : World} {K : PySem.W.Frag} {elts : List Expr} {kk : Nat} {tpos : Pos} (z : Str) (t : Tok) (e it : Addr) (hne : e ≠ it) :
    Turn P w K (.Tuple elts kk tpos) (IteS z) [e, it] e (fun i h => (∃ old, IsEnum h e it ((i : Nat) : Int) old) ∧ h.IsStrIter it (strIterType z) z t i) :=
  turn_enumG (IteS z) e it (fun i h => h.IsStrIter it (strIterType z) z t i) hne (fun i h ⟨o, e1, e2, e3⟩ => ⟨o, e1, fun v q => by rw [e3] at q; cases q⟩) (fun i h h' ⟨o, e1, e2, e3⟩ k => ⟨o, k o e1, e2, e3⟩)
    (fun X hP hw hK hc i pins s σ H I ho hg => by
      subst hP hw hK
      refine ⟨_, _, _, _, Draws.text (A := X.A.in1) (I.ok.hd hc) it z t, ho, hg, fun b hb hn => absurd (by simpa using hb) hn, fun y hy => ?_, fun h' q => q⟩
      obtain ⟨n, u, h1, h2⟩ := hy
      subst h2
      exact ⟨.str ⟨#[n]⟩, ⟨u, rfl⟩, fun T hT => ⟨T, n, rfl, hT, rfl, h1⟩⟩)
    (fun X hP hw hK hc i pins s σ H I ho hg => by
      subst hP hw hK
      have hl : z.cps.size = i := hg
      exact ⟨_, _, _, _, Draws.text (A := X.A.in1) (I.ok.hd hc) it z t, by rw [hl]; exact ho⟩)
def iEnumA (ta : TA) : TI := fun σ H R => ta σ H fun vs H1 => (∃ a xs, vs = [.ref a] ∧ H1 a = some (.tup xs) ∧ R (IteT a) H1) ∨ ∃ z, vs = [.str z] ∧ R (IteS z) H1
theorem pi_enumA {X : Cx} {e : Expr} {ta : TA} {p pos tpos : Pos} {elts : List Expr} {kk : Nat} (hg : Gl X "enumerate") (hm : X.mg "enumerate" = none) (ha : PA X [e] ta) (hs : starEach [e] X.env = [(false, eval e X.env)] := by rfl) :
    PI X (.Tuple elts kk tpos) (.Call (.Name "enumerate" p) [e] [] pos) (iEnumA ta) := by
  refine ⟨fun pins s σ H R I h => Call_ (ld_blt I hg hm boot_enumerate (PyProof.Rows.callWith_type1 (thn (ha.run pos pins s σ H _ I h) fun us s1 ⟨vs, H1, I1, r1, q1⟩ => ?_) hs rfl))⟩
  have fr : ∀ b, b ∈ [s1.heap.objs.size + 1, s1.heap.objs.size] → FpOk X pins H1 b := fun b hb => by
    have z : b = s1.heap.objs.size + 1 ∨ b = s1.heap.objs.size := by simpa using hb
    have le : s1.heap.objs.size ≤ b := by omega
    exact I1.fpOk le (I1.hok.fresh le)
  rcases q1 with ⟨a, xs, ex, hq, q⟩ | ⟨z, ex, q⟩
  · subst ex
    cases r1 with
    | cons r rr =>
      cases rr
      cases r
      obtain ⟨its, rv, p', hz⟩ := I1.tuple (sq_t hq)
      refine call_enum1 (begins_tuple a its.toArray) p' fun h' he ho hk => wpAny_pyIter_enum he ?_
      have hat : a ≠ s1.heap.objs.size := by
        obtain ⟨o, q1, _⟩ := id p'
        exact Nat.ne_of_lt (Heap.lt_size q1)
      exact ⟨s1.heap.objs.size + 1, [s1.heap.objs.size + 1, s1.heap.objs.size], _, _, H1, rfl, I1.kept (t' := s1.toks) hk, turn_enumT a _ _ (Nat.succ_ne_self _) hat, ⟨⟨.none, he⟩, ⟨_, ho, rfl, rfl⟩⟩, fr, q⟩
  · subst ex
    cases r1 with
    | cons r rr =>
      cases rr
      obtain ⟨t, rfl⟩ := r
      refine call_enumerate_str fun h' he hi hsz hk => wpAny_pyIter_enum he ?_
      exact ⟨s1.heap.objs.size + 1, [s1.heap.objs.size + 1, s1.heap.objs.size], _, _, H1, rfl, I1.kept (t' := s1.toks) hk, turn_enumS z t _ _ (Nat.succ_ne_self _), ⟨⟨.none, he⟩, hi⟩, fr, q⟩
section
variable {c : Cy cls} {R : Addr → Prop} {H H' : Hp} {σ : L2.St} {ρ : Rho}
theorem wi_enumT {e : Expr} {elts : List Expr} {kk : Nat} {pp pos tpos : Pos} {P : List D → Prop} {ex : Xd → Prop} (hm : c.X.mg "enumerate" = none) (h : WE c e ρ (fun x => ∃ ds, x = .tup ds ∧ P (enumD ds)) ex)
    (hg : Gl c.X "enumerate" := by rfl) (ha : PA c.X [e] (tAs c [e]) := by (repeat (first | exact pa_nil | refine pa_cons (peU _ _) ?_))) (hs : starEach [e] c.X.env = [(false, eval e c.X.env)] := by rfl) : WI c (.Tuple elts kk tpos) (.Call (.Name "enumerate" pp) [e] [] pos) ρ P ex :=
  wi_of (pi_enumA hg hm ha hs) fun σ H R E S p x => tU.mk h S p x fun v H1 ⟨d, g, ok, q, ds, e, hp⟩ => by
    subst e
    cases q with
    | @tup a xs _ r e q =>
      refine .inl ⟨_, _, rfl, e, enumD ds, g, ok, IterD.pair (gx := fun i => some (.int (i : Nat))) (gy := fun i => ds[i]?) (G := fun H => H a = some (.tup xs)) (fx := fun i => some (.int (i : Nat))) (fy := fun i => xs[i]?) ⟨fun i H hi e => ⟨xs, xs[i]'(by rw [enumD_length, ← q.length] at hi; exact hi), e, by simp⟩, fun H e => ⟨xs, e, by rw [enumD_length, q.length]⟩, fun i H x H' hi e y => ?_⟩ rfl (fun R' H' k => (k _ _ r e).2) (fun i v h => ?_) (fun i v h => q.get' h) (fun i d e h1 h2 => ?_), hp⟩
      · obtain ⟨T, y, h1, h2, h3, h4⟩ := y
        exact ⟨T, .int (i : Nat), y, h1, h2, h3, rfl, h4 xs e⟩
      · cases h
        exact ⟨_, rfl, .int _⟩
      · cases h1
        rw [enumD_get, h2]
        rfl
theorem wi_enumS {e : Expr} {elts : List Expr} {kk : Nat} {pp pos tpos : Pos} {P : List D → Prop} {ex : Xd → Prop} (hm : c.X.mg "enumerate" = none) (h : WE c e ρ (fun x => ∃ z, x = .str z ∧ P (enumD (signs z))) ex)
    (hg : Gl c.X "enumerate" := by rfl) (ha : PA c.X [e] (tAs c [e]) := by (repeat (first | exact pa_nil | refine pa_cons (peU _ _) ?_))) (hs : starEach [e] c.X.env = [(false, eval e c.X.env)] := by rfl) : WI c (.Tuple elts kk tpos) (.Call (.Name "enumerate" pp) [e] [] pos) ρ P ex :=
  wi_of (pi_enumA hg hm ha hs) fun σ H R E S p x => tU.mk h S p x fun v H1 ⟨d, g, ok, q, z, e, hp⟩ => by
    subst e
    cases q
    refine .inr ⟨z, rfl, enumD (signs z), g, ok, IterD.pair (gx := fun i => some (.int (i : Nat))) (gy := fun i => (signs z)[i]?) (G := fun _ => True) (fx := fun i => some (.int (i : Nat))) (fy := fun i => (z.cps[i]?).map fun n => .str ⟨#[n]⟩) ⟨fun i H hi _ => by rw [enumD_length, signs_length] at hi; exact hi, fun H _ => by rw [enumD_length, signs_length]; rfl, fun i H x H' hi _ y => ?_⟩ rfl (fun _ _ _ => True.intro) (fun i v h => ?_) (fun i v h => ?_) (fun i d e h1 h2 => ?_), hp⟩
    · obtain ⟨T, n, h1, h2, h3, h4⟩ := y
      exact ⟨T, .int (i : Nat), .str ⟨#[n]⟩, h1, h2, h3, rfl, by show (z.cps[i]?).map _ = _; rw [h4]; rfl⟩
    · cases h
      exact ⟨_, rfl, .int _⟩
    · cases e : z.cps[i]? with
      | none => rw [e] at h; cases h
      | some n =>
        rw [e] at h
        cases h
        refine ⟨.str ⟨#[n]⟩, ?_, .str _⟩
        unfold signs
        rw [List.getElem?_map, Array.getElem?_toList, e]
        rfl
    · cases h1
      rw [enumD_get, h2]
      rfl
end
end Vl
end
section
set_option maxHeartbeats 4000000
namespace Vl
open PySem PySem.Spec PyProof.Rows L2
variable {cls : Nat → Addr}
section
variable {c : Cy cls} {R : Addr → Prop} {H H' : Hp} {σ : L2.St} {ρ : Rho}
/-! ### texts -/
theorem we_addS {a b : Expr} {pos : Pos} {P : D → Prop} {ex : Xd → Prop} (h : WE c a ρ (fun x => WE c b ρ (fun y => ∃ i j, x = .str i ∧ y = .str j ∧ i.length + j.length ≤ sizeLine ∧ P (.str (i ++ j))) ex) ex) : WE c (.BinOp a .Add b pos) ρ P ex :=
  we_bin (F := fun x y P => ∃ i j, x = .str i ∧ y = .str j ∧ i.length + j.length ≤ sizeLine ∧ P (.str (i ++ j))) (pe_op op_add_str (peU c a) (peU c b)) (fun R H vx vy x y P nd ok qx qy f Q k => by
    obtain ⟨i, j, rfl, rfl, hz, h⟩ := f
    cases qx
    cases qy
    exact ⟨i, j, rfl, rfl, hz, k _ _ (Fin.here ok nd (.str _) h)⟩) h
abbrev FIn (neg : Bool) : D → D → (D → Prop) → Prop := fun x y P => ∃ (n : Nat) (z : Str), x = .str ⟨#[n]⟩ ∧ y = .str z ∧ P (.bl (if neg then !decide (n ∈ z.cps.toList) else decide (n ∈ z.cps.toList)))
theorem opd_in : OpD c (fun x y H Q => ∃ (c : Nat) (z : Str), x = .str ⟨#[c]⟩ ∧ y = .str z ∧ Q (.bl (decide (c ∈ z.cps.toList))) H) (FIn false) := fun R H vx vy x y P nd ok qx qy f Q k => by
  obtain ⟨n, z, rfl, rfl, h⟩ := f
  cases qx
  cases qy
  exact ⟨n, z, rfl, rfl, k _ _ (Fin.here ok nd (.bl _) h)⟩
theorem opd_notIn : OpD c (fun x y H Q => ∃ (c : Nat) (z : Str), x = .str ⟨#[c]⟩ ∧ y = .str z ∧ Q (.bl (!decide (c ∈ z.cps.toList))) H) (FIn true) := fun R H vx vy x y P nd ok qx qy f Q k => by
  obtain ⟨n, z, rfl, rfl, h⟩ := f
  cases qx
  cases qy
  exact ⟨n, z, rfl, rfl, k _ _ (Fin.here ok nd (.bl _) h)⟩
theorem wt_in {a b : Expr} {pos : Pos} {P : Bool → Prop} {ex : Xd → Prop} (h : WE c a ρ (fun x => WE c b ρ (fun y => FIn false x y (BP P)) ex) ex) (hm : behindInMarks .In b = false := by rfl) : WT c (.Compare a [.In] [b] pos) ρ P ex := wt_bin (pt_cmpR op_in_sign (peU c a) (peU c b) hm) opd_in h
theorem wt_notIn {a b : Expr} {pos : Pos} {P : Bool → Prop} {ex : Xd → Prop} (h : WE c a ρ (fun x => WE c b ρ (fun y => FIn true x y (BP P)) ex) ex) (hm : behindInMarks .NotIn b = false := by rfl) : WT c (.Compare a [.NotIn] [b] pos) ρ P ex := wt_bin (pt_cmpR op_notIn_sign (peU c a) (peU c b) hm) opd_notIn h
theorem we_ltS {a b : Expr} {pos : Pos} {P : D → Prop} {ex : Xd → Prop} (h : WE c a ρ (fun x => WE c b ρ (fun y => ∃ i j, x = .str i ∧ y = .str j ∧ P (.bl (decide (i.cps.toList < j.cps.toList)))) ex) ex) : WE c (.Compare a [.Lt] [b] pos) ρ P ex :=
  we_bin (F := fun x y P => ∃ i j, x = .str i ∧ y = .str j ∧ P (.bl (decide (i.cps.toList < j.cps.toList)))) (pe_cmpR op_lt_str (peU c a) (peU c b) (nomark _)) (fun R H vx vy x y P nd ok qx qy f Q k => by
    obtain ⟨i, j, rfl, rfl, h⟩ := f
    cases qx
    cases qy
    exact ⟨i, j, rfl, rfl, k _ _ (Fin.here ok nd (.bl _) h)⟩) h
/-- a text's method -/
theorem we_bmS {a e : Expr} {es : List Expr} {r : V → List V → Hp → VK → Prop} {F : Str → List D → (D → Prop) → Prop} {P : D → Prop} {ex : Xd → Prop} (hp : PE c.X e (tBM c.X.K "str" r (tU c a) (tAs c es)))
    (hF : ∀ R H z vs ds P, c.W.nd R → c.W.ok H → DqL c.W R H vs ds → F z ds P → ∀ Q : VK, (∀ v H', Fin c R H P v H' → Q v H') → r (.str z) vs H Q) (h : WE c a ρ (fun x => ∃ z, x = .str z ∧ WAs c ρ ex es (fun ds => F z ds P)) ex) : WE c e ρ P ex :=
  we_of hp fun σ H R E S p x => tU.mk h S p x fun vx H1 ⟨dx, g1, ok1, q1, z, e1, w1⟩ => by
    subst e1
    cases q1
    exact ⟨rfl, tAs.mk w1 (S.grow g1 ok1) p (x.grow g1 ok1) fun vs H2 ⟨ds, g2, ok2, q2, f2⟩ => hF _ _ _ _ _ _ ((S.grow g1 ok1).grow g2 ok2).ndr ok2 q2 f2 _ fun v H' f => (f.back g2 ok2).back g1 ok1⟩
theorem we_bmS0 {a e : Expr} {r : V → List V → Hp → VK → Prop} {F : Str → (D → Prop) → Prop} {P : D → Prop} {ex : Xd → Prop} (hp : PE c.X e (tBM0 c.X.K "str" r (tU c a)))
    (hF : ∀ R H z P, c.W.nd R → c.W.ok H → F z P → ∀ Q : VK, (∀ v H', Fin c R H P v H' → Q v H') → r (.str z) [] H Q) (h : WE c a ρ (fun x => ∃ z, x = .str z ∧ F z P) ex) : WE c e ρ P ex :=
  we_of hp fun σ H R E S p x => tU.mk h S p x fun vx H1 ⟨dx, g1, ok1, q1, z, e1, w1⟩ => by
    subst e1
    cases q1
    exact ⟨rfl, hF _ _ _ _ (S.grow g1 ok1).ndr ok1 w1 _ fun v H' f => f.back g1 ok1⟩
/-- text.index(text), there -/
theorem we_sindex {a b : Expr} {apos pos : Pos} {P : D → Prop} {ex : Xd → Prop} (h : WE c a ρ (fun x => ∃ z, x = .str z ∧ WE c b ρ (fun y => ∃ j k rest, y = .str j ∧ Builtin.Str.occurrences z j 0 z.length 1 = k :: rest ∧ P (.int (k : Nat))) ex) ex)
    (hp : PE c.X (.Call (.Attribute a "index" apos) [b] [] pos) (tBM c.X.K "str" (fun x xs H Q => ∃ a b i rest, x = .str a ∧ xs = [.str b] ∧ Builtin.Str.occurrences a b 0 a.length 1 = i :: rest ∧ Q (.int (i : Nat)) H) (tU c a) (tAs c [b])) := by exact pe_bm PySem.F.plainAttrs_str PySem.F.slot_str_index PySem.F.type_str_index mt_sindex (peU _ _) (pa_cons (peU _ _) pa_nil)) :
    WE c (.Call (.Attribute a "index" apos) [b] [] pos) ρ P ex :=
  we_bmS (F := fun z ds P => ∃ j k rest, ds = [.str j] ∧ Builtin.Str.occurrences z j 0 z.length 1 = k :: rest ∧ P (.int (k : Nat))) hp (fun R H z vs ds P nd ok q f Q kk => by
    obtain ⟨j, k, rest, rfl, h1, h2⟩ := f
    cases q with
    | cons q1 q =>
      cases q1
      cases q
      exact ⟨z, j, k, rest, rfl, rfl, h1, kk _ _ (Fin.here ok nd (.int _) h2)⟩) (WE.mono h fun d ⟨z, e, w⟩ => ⟨z, e, WE.mono w fun y ⟨j, k, rest, e1, e2, e3⟩ => ⟨j, k, rest, by rw [e1], e2, e3⟩⟩)
/-- sep.join(a list of texts) -/
theorem we_join {a b : Expr} {apos pos : Pos} {P : D → Prop} {ex : Xd → Prop} (h : WE c a ρ (fun x => ∃ z, x = .str z ∧ WE c b ρ (fun y => ∃ ys : List Str, y = .lst (ys.map D.str) ∧ (ys.map (·.length)).sum + ys.length * z.length ≤ 16777216 ∧ P (.str (Txt.join z ys))) ex) ex)
    (hp : PE c.X (.Call (.Attribute a "join" apos) [b] [] pos) (tBM c.X.K "str" (fun x xs H Q => ∃ a p, ∃ ys : List Str, x = .str a ∧ xs = [.ref p] ∧ (SqL c.X.K H p (ys.map V.str) ∨ SqT c.X.K H p (ys.map V.str)) ∧
    (ys.map (·.length)).sum + ys.length * a.length ≤ 16777216 ∧ Q (.str (Txt.join a ys)) H) (tU c a) (tAs c [b])) := by exact pe_bm PySem.F.plainAttrs_str PySem.F.slot_str_join PySem.F.type_str_join mt_join (peU _ _) (pa_cons (peU _ _) pa_nil)) :
    WE c (.Call (.Attribute a "join" apos) [b] [] pos) ρ P ex :=
  we_bmS (F := fun z ds P => ∃ ys : List Str, ds = [.lst (ys.map D.str)] ∧ (ys.map (·.length)).sum + ys.length * z.length ≤ 16777216 ∧ P (.str (Txt.join z ys))) hp (fun R H z vs ds P nd ok q f Q kk => by
    obtain ⟨ys, rfl, h1, h2⟩ := f
    cases q with
    | cons q1 q =>
      cases q1 with
      | lst r e q1 =>
        cases q
        rw [q1.strs] at e
        exact ⟨z, _, ys, rfl, rfl, .inl (sq_l e), h1, kk _ _ (Fin.here ok nd (.str _) h2)⟩) (WE.mono h fun d ⟨z, e, w⟩ => ⟨z, e, WE.mono w fun y ⟨ys, e1, e2, e3⟩ => ⟨ys, by rw [e1], e2, e3⟩⟩)
theorem we_upper {a : Expr} {apos pos : Pos} {P : D → Prop} {ex : Xd → Prop} (h : WE c a ρ (fun x => ∃ z, x = .str z ∧ z.length ≤ 5592405 ∧ P (.str (Txt.upper z))) ex)
    (hp : PE c.X (.Call (.Attribute a "upper" apos) [] [] pos) (tBM0 c.X.K "str" (fun x xs H Q => ∃ a, x = .str a ∧ xs = [] ∧ a.length ≤ 5592405 ∧ Q (.str (Txt.upper a)) H) (tU c a)) := by exact pe_bm0 PySem.F.plainAttrs_str PySem.F.slot_str_upper PySem.F.type_str_upper mt_upper (peU _ _)) :
    WE c (.Call (.Attribute a "upper" apos) [] [] pos) ρ P ex :=
  we_bmS0 (F := fun z P => z.length ≤ 5592405 ∧ P (.str (Txt.upper z))) hp (fun R H z P nd ok f Q kk => ⟨z, rfl, rfl, f.1, kk _ _ (Fin.here ok nd (.str _) f.2)⟩) h
/-- text * number -/
def FMulS : D → D → (D → Prop) → Prop := fun x y P => ∃ z n, x = .str z ∧ y = .int n ∧ PySem.MulOk z n ∧ P (.str (Txt.mul z n))
def rMulS : R2 := fun x y H Q => ∃ z n, x = .str z ∧ y = .int n ∧ PySem.MulOk z n ∧ Q (.str (Txt.mul z n)) H
theorem op_mulS {X : Cx} : OpR X (binaryOp .Mult) rMulS := by
  intro pins s σ H x y v u Q I rx ry h
  obtain ⟨z, n, rfl, rfl, hz, q⟩ := h
  obtain ⟨t, rfl⟩ := rx
  obtain ⟨t', rfl⟩ := ry
  exact PySem.SB.mul hz fun t2 k => ⟨.str _, H, I.tok _, ⟨_, rfl⟩, q⟩
theorem we_mulS {a b : Expr} {pos : Pos} {P : D → Prop} {ex : Xd → Prop} (h : WE c a ρ (fun x => WE c b ρ (fun y => FMulS x y P) ex) ex) : WE c (.BinOp a .Mult b pos) ρ P ex :=
  we_bin (pe_op op_mulS (peU c a) (peU c b)) (fun R H vx vy x y P nd ok qx qy f Q k => by
    obtain ⟨z, n, rfl, rfl, hz, h⟩ := f
    cases qx
    cases qy
    exact ⟨z, n, rfl, rfl, hz, k _ _ (Fin.here ok nd (.str _) h)⟩) h

/-! ### slices -/
def WO (c : Cy cls) (ρ : Rho) (ex : Xd → Prop) : Option Expr → (Option Int → Prop) → Prop
  | none, P => P none
  | some e, P => WE c e ρ (fun d => ∃ i, d = .int i ∧ P (some i)) ex
def tUO (c : Cy cls) : Option Expr → TO
  | none => tNoPart
  | some e => tPart (tU c e)
theorem poU (c : Cy cls) : ∀ o, PO c.X o (tUO c o)
  | none => po_none
  | some e => po_some (peU c e)
theorem tUO.mk {ex : Xd → Prop} {E : XK} {o : Option Expr} {P : Option Int → Prop} {Q : Option Int → Hp → Prop} (w : WO c ρ ex o P) (S : Sl c R H σ ρ) (p : Pas c.X σ E) (x : ExOk c R H E ex) (k : ∀ i H', Gr c.W H H' → c.W.ok H' → P i → Q i H') : tUO c o σ H Q := by
  cases o with
  | none => exact k none H Gr.refl S.ok w
  | some e =>
    refine tU.mk w S p x fun v H1 ⟨d, g, ok, q, i, e1, h⟩ => ?_
    subst e1
    cases q
    exact ⟨i, rfl, k _ _ g ok h⟩
/-- a part of a list, of a text -/
theorem we_slice {r : V → Option Int → Option Int → Hp → VK → Prop} {F : D → Option Int → Option Int → (D → Prop) → Prop} {e : Expr} {lo hi : Option Expr} {p2 pos : Pos} {P : D → Prop} {ex : Xd → Prop} (hr : SlR c.X r)
    (hF : ∀ R H v d l u P, c.W.nd R → c.W.ok H → Dq c.W R H v d → F d l u P → ∀ Q : VK, (∀ v H', Fin c R H P v H' → Q v H') → r v l u H Q) (h : WE c e ρ (fun x => WO c ρ ex lo (fun l => WO c ρ ex hi (fun u => F x l u P))) ex) : WE c (.Subscript e (.Slice lo hi none p2) pos) ρ P ex :=
  we_of (pe_slice hr (peU c e) (poU c lo) (poU c hi)) fun σ H R E S p x => tU.mk h S p x fun v H1 ⟨d, g1, ok1, q1, w1⟩ =>
    have S1 := S.grow g1 ok1
    tUO.mk w1 S1 p (x.grow g1 ok1) fun l H2 g2 ok2 w2 =>
      have S2 := S1.grow g2 ok2
      tUO.mk w2 S2 p ((x.grow g1 ok1).grow g2 ok2) fun u H3 g3 ok3 f =>
        hF _ _ _ _ _ _ _ (S2.grow g3 ok3).ndr ok3 ((q1.grow S1.ndr g2).grow S2.ndr g3) f _ fun v H' f => ((f.back g3 ok3).back g2 ok2).back g1 ok1
theorem DqL.cutV {W : Wd cls} {vs : List V} {ds : List D} (q : DqL W R H vs ds) (lo hi : Option Int) : DqL W R H (L2.cutV vs lo hi) ((ds.drop (HT.sIx ds.length 0 lo)).take (HT.sIx ds.length ds.length hi - HT.sIx ds.length 0 lo)) := by
  unfold L2.cutV
  rw [q.length]
  exact DqL.take _ (DqL.drop _ q)
def cutD (ds : List D) (lo hi : Option Int) : List D := (ds.drop (HT.sIx ds.length 0 lo)).take (HT.sIx ds.length ds.length hi - HT.sIx ds.length 0 lo)
theorem we_sliceL {e : Expr} {lo hi : Option Expr} {p2 pos : Pos} {P : D → Prop} {ex : Xd → Prop} (h : WE c e ρ (fun x => ∃ ds, x = .lst ds ∧ WO c ρ ex lo (fun l => WO c ρ ex hi (fun u => P (.lst (cutD ds l u))))) ex) : WE c (.Subscript e (.Slice lo hi none p2) pos) ρ P ex :=
  we_slice (F := fun d l u P => ∃ ds, d = .lst ds ∧ P (.lst (cutD ds l u))) sl_list (fun R H v d l u P nd ok q f Q k => by
    obtain ⟨ds, rfl, h⟩ := f
    cases q with
    | lst r e q => exact ⟨_, _, rfl, sq_l e, fun p hp => k _ _ (Fin.new ok hp (.lst (.inr hp) upd_same (DqL.up (c := c) hp (q.cutV l u))) h)⟩) (WE.mono h fun d ⟨ds, e, w⟩ => by
    subst e
    cases lo <;> cases hi <;> first
      | exact ⟨_, rfl, w⟩
      | exact WE.mono w fun d ⟨i, e, w⟩ => ⟨i, e, _, rfl, w⟩
      | exact WE.mono w fun d ⟨i, e, w⟩ => ⟨i, e, WE.mono w fun d ⟨i, e, w⟩ => ⟨i, e, _, rfl, w⟩⟩)
theorem we_sliceS {e : Expr} {lo hi : Option Expr} {p2 pos : Pos} {P : D → Prop} {ex : Xd → Prop} (h : WE c e ρ (fun x => ∃ z, x = .str z ∧ z.length ≤ sizeLine ∧ WO c ρ ex lo (fun l => WO c ρ ex hi (fun u => P (.str (cutS z l u))))) ex) : WE c (.Subscript e (.Slice lo hi none p2) pos) ρ P ex :=
  we_slice (F := fun d l u P => ∃ z, d = .str z ∧ z.length ≤ sizeLine ∧ P (.str (cutS z l u))) sl_str (fun R H v d l u P nd ok q f Q k => by
    obtain ⟨z, rfl, hz, h⟩ := f
    cases q
    exact ⟨z, rfl, hz, k _ _ (Fin.here ok nd (.str _) h)⟩) (WE.mono h fun d ⟨z, e, hz, w⟩ => by
    subst e
    cases lo <;> cases hi <;> first
      | exact ⟨_, rfl, hz, w⟩
      | exact WE.mono w fun d ⟨i, e, w⟩ => ⟨i, e, _, rfl, hz, w⟩
      | exact WE.mono w fun d ⟨i, e, w⟩ => ⟨i, e, WE.mono w fun d ⟨i, e, w⟩ => ⟨i, e, _, rfl, hz, w⟩⟩)
end
end Vl
end
section
set_option maxHeartbeats 4000000
namespace Vl
open PySem PySem.Spec PyProof.Rows L2
variable {cls : Nat → Addr}

section
variable {W : Wd cls} {R : Addr → Prop} {H : Hp}
theorem DqF.zip : ∀ (fl : List Str) {vs : List V} {ds : List D}, DqL W R H vs ds → DqF W R H (fl.zip vs) (fl.zip ds)
  | [], _, _, _ => .nil
  | _ :: _, _, _, .nil => .nil
  | f :: fl, _, _, .cons q r => .cons q (DqF.zip fl r)
theorem DqF.append : ∀ {fs gs : List (Str × V)} {ds es : List (Str × D)}, DqF W R H fs ds → DqF W R H gs es → DqF W R H (fs ++ gs) (ds ++ es)
  | _, _, _, _, .nil, s => s
  | _, _, _, _, .cons q r, s => .cons q (r.append s)
theorem DqF.reverse : ∀ {fs : List (Str × V)} {ds : List (Str × D)}, DqF W R H fs ds → DqF W R H fs.reverse ds.reverse
  | _, _, .nil => .nil
  | _, _, .cons q r => by
    rw [List.reverse_cons, List.reverse_cons]
    exact r.reverse.append (.cons q .nil)
end

/-! ### errors: the making of one -/
/-- what an error's __init__ does: a field for each parameter, in their order -/
def spX (C : Addr) (fl : List Str) : Sp := fun vs H Q _ => ∃ (a : Addr) (ys : List V), vs = .ref a :: ys ∧ ys.length = fl.length ∧ H a = some (exo a C none) ∧
  ∀ dx H2, H dx = none → dx ≠ a → (∀ b, b ≠ a → b ≠ dx → H2 b = H b) → H2 a = some (exo a C (some dx)) → H2 dx = some (exd dx (fl.zip ys).reverse) → Q .non H2
/-- an error class of the program: its name, its number, its fields -/
structure Er (P : Program) (w : World) (K : PySem.W.Frag) (mg : Str → Option Value) (base : Heap) (cls : Nat → Addr) (x : Str) (k : Nat) (fl : List Str) : Prop where
  o : OexC K (cls k)
  nm : mg x = some (.ref (cls k))
  ini : ∃ fI fd ps, PySem.W.findIn K (.ref (cls k)) "__init__" = some (some (.ref fI)) ∧ PySem.W.typeIn K (.ref fI) = some (.type "function") ∧ FnOk P w K mg base (L2N.CX P w) 1 fI fd ps (spX (cls k) fl) ∧ Binds K fd ps []
abbrev ErX (X : Cx) (cls : Nat → Addr) (x : Str) (k : Nat) (fl : List Str) : Prop := Er X.prog X.w X.K X.mg X.base cls x k fl

section
variable {P : Program} {w : World} {K : PySem.W.Frag} {mg : Str → Option Value} {base : Heap}
theorem xinit1 {x qual : Str} {st : Stmt} {f C : Addr} {fd : FuncData} {y fn : Str} {p1 p2 p3 p4 : Pos} (F : Fun K x qual st f fd) (S : FnScope ["self", y] ["self", y] (defScope st)) (T : OexC K C) (hno : PySem.W.findIn K (.ref C) fn = some none)
    (hb : defBody st = [.Assign [.Attribute (.Name "self" p1) fn p2] (.Name y p3) p4]) (hd : (y == ("__debug__" : Str)) = false := by decide) (hcd : (y == ("__classdict__" : Str)) = false := by decide) :
    FnOk P w K mg base (L2N.CX P w) 1 f fd ["self", y] (spX C [fn]) := by
  refine okN F S (fun vs H Q E h => ?_) (fun cdv A outer s H vs Q E hr h => ?_)
  · obtain ⟨a, ys, rfl, hl, _⟩ := h
    simp only [List.length_cons, hl, List.length_nil]
  · obtain ⟨a, ys, rfl, hl, ha, k⟩ := h
    rw [hb]
    match ys, hl with
    | [v], _ =>
      have v0 : Vis (envOfC qual (defScope st) s.heap.objs.size f cdv).scope "self" := (S.par "self" (List.Mem.head _)).elim .inl fun z => .inr (.inl z)
      have v1 : Vis (envOfC qual (defScope st) s.heap.objs.size f cdv).scope y := (S.par y (List.Mem.tail _ (List.Mem.head _))).elim .inl fun z => .inr (.inl z)
      refine ⟨_, pss_one (ps_ost (pe_var (i := 0) rfl v0) (pe_var (i := 1) rfl v1 hd hcd)), v, rfl, .ref a, rfl, a, C, rfl, T, hno, .inl ⟨ha, fun dx hn hne => ?_⟩⟩
      refine k dx _ hn hne (fun b h1 h2 => ?_) upd_same ?_
      · rw [upd_ne h1, upd_ne h2]
      · rw [upd_ne hne, upd_same]
        rfl
end

section
variable {c : Cy cls} {R : Addr → Prop} {H H' : Hp} {σ : L2.St} {ρ : Rho}
/-- e makes an exception with Q -/
structure WMk (c : Cy cls) (e : Expr) (ρ : Rho) (Q : Xd → Prop) (ex : Xd → Prop) : Prop where
  run : ∀ (pins : List (Addr × Obj)) (s : Shared) (σ : L2.St) (H : Hp) (R : Addr → Prop) (E : XK), Inv c.X pins σ H s → Sl c R H σ ρ → Pas c.X σ E → ExOk c R H E ex →
    wpAny (model c.X.prog c.X.w) c.X.A (eval e c.X.env) (L2N.MkP c.X pins σ fun k d H' => ∃ x, Gr c.W H H' ∧ c.W.ok H' ∧ ExcAt c.W (Nw R H) H' k d x ∧ Q x) c.X.xe s
theorem mkp_imp {X : Cx} {pins : List (Addr × Obj)} {Q Q' : XK} {u : Value} {s' : Shared} (h : L2N.MkP X pins σ Q u s') (k : ∀ c d H, Q c d H → Q' c d H) : L2N.MkP X pins σ Q' u s' := by
  obtain ⟨a, oe, vs, sI, H', c', d, h1, h2, h3, h4, h5, h6, h7, h8, h9, h10, h11, h12, h13⟩ := h
  exact ⟨a, oe, vs, sI, H', c', d, h1, h2, h3, h4, h5, h6, h7, h8, h9, h10, h11, h12, k _ _ _ h13⟩
theorem ws_raise {e : Expr} {pos : Pos} {p : Po} (h : WMk c e ρ (p.ex ρ) (p.ex ρ)) (hc : c.X.calm = true := by rfl) : WS c (.Raise (some e) none pos) ρ p := ⟨fun pins s σ H R Ds E I S ps en x => by
  have pm : L2N.PMk c.X e (fun σ' H' Q => ∃ R' E', Sl c R' H' σ' ρ ∧ Pas c.X σ' E' ∧ ExOk c R' H' E' (p.ex ρ) ∧ ∀ k d H2 y, Gr c.W H' H2 → c.W.ok H2 → ExcAt c.W (Nw R' H') H2 k d y → p.ex ρ y → Q k d H2) := by
    intro pins' s' σ' H' Q I' ⟨R', E', S', pa, xo, kk⟩
    exact thn (h.run pins' s' σ' H' R' E' I' S' pa xo) fun u s2 hu => mkp_imp hu fun k d H2 ⟨y, g, ok, a, hy⟩ => kk k d H2 y g ok a hy
  exact (L2N.ps_raise hc ps pm).run pins s σ H Ds I ⟨R, E σ, S, ps.at σ, x.at S, fun k d H2 y g ok a hy => x (Nw R H) H2 σ ρ y k d (S.grow g ok) a hy⟩⟩
theorem we_mkx {x : Str} {p pos : Pos} {e : Expr} {es : List Expr} {k : Nat} {fl : List Str} {Q : Xd → Prop} {ex : Xd → Prop} (T : ErX c.X cls x k fl) (hr : Room 2 c.X.A)
    (h : WAs c ρ ex (e :: es) (fun ds => Q ⟨k, (fl.zip ds).reverse⟩)) (hfl : (e :: es).length = fl.length := by rfl) (hsz : fl.length ≤ 1000 := by decide) (hg : Gl c.X x := by rfl) (ha : PA c.X (e :: es) (tAs c (e :: es)) := by (repeat (first | exact pa_nil | refine pa_cons (peU _ _) ?_))) (hdb : (x == ("__debug__" : Str)) = false := by decide)
    (he : starEach (e :: es) c.X.env = (false, eval e c.X.env) :: starEach es c.X.env := by rfl) (hpl : (backTo pos (starEach es c.X.env)).any (·.1) = false := by rfl) : WMk c (.Call (.Name x p) (e :: es) [] pos) ρ Q ex := by
  refine ⟨fun pins s σ H R E I S pa y => ?_⟩
  obtain ⟨fI, fd, prs, iC, tI, F1, hb⟩ := T.ini
  obtain ⟨_, _, _, _, bm, _, _, _, _, _, _, _, _, _, _, hC, hbm⟩ := T.o.cls
  refine wpAny_Call_Name_kw (ld_glob I hg T.nm ?_ hdb)
  have arg := ha.run pos pins s σ H _ I (tAs.mk h.len S pa y fun vs H1 f => f)
  refine PySem.W.callWith_K (h₀ := c.X.base) I.ok.mod.kin T.o.kC (thn arg fun us s1 ⟨vs, H1, I1, rv, ds, g1, ok1, q1, hQ, hl⟩ => ⟨I1.kIn, ?_⟩) he hpl
  obtain ⟨hp, gn, dr, tk, os⟩ := s1
  have hvl : vs.length = fl.length := by rw [q1.length, hl, hfl]
  have big : hp.objs.size ≤ hp.objs.size + 1 := Nat.le_succ _
  have new : H1 (hp.objs.size + 1) = none := I1.hok.fresh big
  have keep : ∀ b o, hp.get? b = some o → ((hp.push (PySem.W.kdv_tup us)).push (PySem.HandSPX.excO (cls k) hp.objs.size)).get? b = some o := fun b o z => Heap.get?_push_of_some _ (Heap.get?_push_of_some _ z)
  have at_ : ((hp.push (PySem.W.kdv_tup us)).push (PySem.HandSPX.excO (cls k) hp.objs.size)).get? (hp.objs.size + 1) = some (PySem.HandSPX.excO (cls k) hp.objs.size) := by heap_get
  have I2 : Inv c.X pins σ (upd H1 (hp.objs.size + 1) (exo (hp.objs.size + 1) (cls k) none)) ⟨(hp.push (PySem.W.kdv_tup us)).push (PySem.HandSPX.excO (cls k) hp.objs.size), gn, dr, tk, os⟩ :=
    I1.laid (t' := tk) (a := hp.objs.size + 1) keep big (exo_ok at_)
  have rv2 : Vals (V.ref (hp.objs.size + 1) :: vs) (Value.ref (hp.objs.size + 1) :: us) := .cons rfl rv
  have sp : spX (cls k) fl (V.ref (hp.objs.size + 1) :: vs) (upd H1 (hp.objs.size + 1) (exo (hp.objs.size + 1) (cls k) none))
      (fun v H2 => v = .non ∧ ∃ (d : Addr) (fs : List (Str × V)), H2 (hp.objs.size + 1) = some (exo (hp.objs.size + 1) (cls k) (some d)) ∧ H2 d = some (exd d fs) ∧ H1 d = none ∧
        ∃ x, Gr c.W H (upd (del H2 (hp.objs.size + 1)) d (.xd fs)) ∧ c.W.ok (upd (del H2 (hp.objs.size + 1)) d (.xd fs)) ∧ ExcAt c.W (Nw R H) (upd (del H2 (hp.objs.size + 1)) d (.xd fs)) (.ref (cls k)) (some d) x ∧ Q x) (fun _ _ _ => False) := by
    refine ⟨_, vs, rfl, hvl, upd_same, fun dx H2 hn hne same e1 e2 => ⟨rfl, dx, _, e1, e2, ?_, ⟨k, (fl.zip ds).reverse⟩, ?_⟩⟩
    · rw [upd_ne hne] at hn
      exact hn
    · rw [upd_ne hne] at hn
      have sm : Same H1 (upd (del H2 (hp.objs.size + 1)) dx (.xd (fl.zip vs).reverse)) := fun b o z => by
        have n1 := ne_of_none z new
        have n2 := ne_of_none z hn
        rw [upd_ne n2, del_ne n1, same b n1 n2, upd_ne n1]
        exact z
      refine ⟨g1.trans (Gr.of_same sm), ok_same ok1 sm, ⟨rfl, dx, _, rfl, upd_same, .inr (none_back ok1 g1 hn), ?_⟩, hQ⟩
      exact (DqF.zip fl (q1.mono (fun _ z => z) fun a o _ z => sm a o z)).reverse
  have hln : (Value.ref (hp.objs.size + 1) :: us ++ []).length = prs.length := by
    have z := F1.len _ _ _ _ sp
    rw [List.append_nil, ← z]
    exact rv2.length.symm
  have hus : us.length ≤ sizeLine := by
    have z : vs.length = us.length := Paired.length rv
    rw [← z, hvl]
    exact Nat.le_trans hsz (by rw [sizeLine_eq]; omega)
  have b2 := hb ⟨(hp.push (PySem.W.kdv_tup us)).push (PySem.HandSPX.excO (cls k) hp.objs.size), gn, dr, tk, os⟩ (Value.ref (hp.objs.size + 1) :: us) I2.kIn hln
  rw [List.append_nil] at b2
  refine wpAny_call (PySem.HandSPX.call_own F.excBase_ValueError (fun Y => PySem.HandSPX.refsVE_contains Y bm hbm) (I1.kIn _ _ hC) (PySem.W.looks_findIn I1.kIn iC) (fun me => PySem.W.bind_fn I1.kIn me tI) hus
    (codeAny_mono (F1.run _ c.X.stack _ _ ⟨Value.ref (hp.objs.size + 1) :: us, []⟩ (Value.ref (hp.objs.size + 1) :: us) _ _ (fun _ _ _ => False) (hr.make (cls k) us []) (I2.env0.make (cls k) us []) b2 rv2 sp) fun r s' done => ?_))
  rcases r with er | fl'
  · obtain ⟨_, _, _, _, _, _, _, _, _, _, _, _, no⟩ := done
    exact False.elim no
  · cases fl' with
    | ret u =>
      obtain ⟨v, H2, eos, bare2, un2, hok2, rv', ev, d, fs, ea, ed, hd1, fin⟩ := done
      subst ev
      obtain ⟨h2, g2, d2, t2, os'⟩ := s'
      obtain ⟨t0, G, J, kG, ge, hoe, na⟩ := mk_end0 (d2 := d2) (t2 := t2) I1 big keep un2 hok2 eos bare2 ea ed hd1
      exact ⟨rv', _, _, _, ⟨G, g2, d2, t2, os'⟩, _, .ref (cls k), some d, rfl, J, kG, ge, hoe, ⟨rfl, rfl, fun ws e => by cases e; rfl⟩, rfl, rfl, na, rfl, bare2, raises_own T.o.exC T.o.tyC, fin⟩
    | next => exact False.elim done
    | brk => exact False.elim done
    | cont => exact False.elim done
end
end Vl
end
section
set_option maxHeartbeats 4000000
namespace Vl
open PySem PySem.Spec PyProof.Rows L2
variable {cls : Nat → Addr}

/-! ### objects of the program's classes -/
/-- a method of the class number k: its promise takes the object first -/
structure Dm (P : Program) (w : World) (K : PySem.W.Frag) (mg : Str → Option Value) (base : Heap) (cls : Nat → Addr) (k : Nat) (m : Str) (j : Nat) (ps : List Str) (fs : FS) : Prop where
  ex : ∃ f fd, FnOk P w K mg base (L2N.CX P w) j f fd ps (spOf cls fs) ∧ Meth K (cls k) m f ∧ PySem.W.fnIn K f = true ∧ Binds K fd ps []
abbrev DmX (X : Cx) (cls : Nat → Addr) (k : Nat) (m : Str) (j : Nat) (ps : List Str) (fs : FS) : Prop := Dm X.prog X.w X.K X.mg X.base cls k m j ps fs

section
variable {c : Cy cls} {R : Addr → Prop} {H H' : Hp} {σ : L2.St} {ρ : Rho}
theorem Dq.objAt {W : Wd cls} {v : V} {k : Nat} {gs : List (Str × D)} (q : Dq W R H v (.obj k gs)) : ∃ a dx fs, v = .ref a ∧ H a = some (.ins (cls k) dx fs) ∧ DqF W R H fs gs := by
  cases q with
  | obj r e q => exact ⟨_, _, _, rfl, e, q⟩
/-- o.f, a field -/
theorem we_fld {e : Expr} {f : Str} {pos : Pos} {k : Nat} {P : D → Prop} {ex : Xd → Prop} (T : Cls c.X.K (cls k)) (n : NoAttr c.X.K (cls k) f) (h : WE c e ρ (fun d => ∃ gs v, d = .obj k gs ∧ gs.lookup f = some v ∧ P v) ex)
    (hb : attributeBase e f c.X.env (eval e c.X.env) = eval e c.X.env := by rfl) : WE c (.Attribute e f pos) ρ P ex :=
  we_of (pe_fld (peU c e) hb) fun σ H R E S p x => tU.mk h S p x fun v H1 ⟨d, g1, ok1, q1, gs, y, e1, hl, hp⟩ => by
    subst e1
    obtain ⟨a, dx, fs, rfl, ea, qf⟩ := q1.objAt
    obtain ⟨z, h1, h2⟩ := qf.lookup hl
    exact ⟨a, cls k, dx, fs, z, rfl, ea, T, n, h1, y, g1, ok1, h2, hp⟩
/-- o.f, a constant of the class -/
theorem we_con {e : Expr} {f : Str} {pos : Pos} {k : Nat} {v : V} {y : D} {u : Value} {P : D → Prop} {ex : Xd → Prop} (T : Cls c.X.K (cls k)) (n : Con c.X.K (cls k) f v u) (hq : ∀ R H, Dq c.W R H v y)
    (h : WE c e ρ (fun d => ∃ gs, d = .obj k gs ∧ gs.lookup f = none ∧ P y) ex) (hb : attributeBase e f c.X.env (eval e c.X.env) = eval e c.X.env := by rfl) : WE c (.Attribute e f pos) ρ P ex :=
  we_of (pe_con (peU c e) hb) fun σ H R E S p x => tU.mk h S p x fun w H1 ⟨d, g1, ok1, q1, gs, e1, hl, hp⟩ => by
    subst e1
    obtain ⟨a, dx, fs, rfl, ea, qf⟩ := q1.objAt
    exact ⟨a, cls k, dx, fs, v, u, rfl, ea, T, n, qf.lookup_none hl, y, g1, ok1, hq _ _, hp⟩

/-- a def is run somewhere below the body -/
theorem run_below {pins : List (Addr × Obj)} {s : Shared} {A1 : Around} {k : Nat} {f : Addr} {fd : FuncData} {ps : List Str} {sp : Sp} {E : XK} {Q : VK} {us : List Value} {vs : List V} (F : FnOk c.X.prog c.X.w c.X.K c.X.mg c.X.base (L2N.CX c.X.prog c.X.w) k f fd ps sp)
    (room : Room k A1) (fr : A1.frames = c.X.A.frames) (hb : Binds c.X.K fd ps []) (pa : Pas c.X σ E) (I : Inv c.X pins σ H s) (r : Vals vs us) (h : sp vs H Q E) :
    wpAny (model c.X.prog c.X.w) A1 (call (.ref f) us) (EP c.X pins σ Q) c.X.xe s := by
  have el : (us ++ []).length = ps.length := by
    rw [List.append_nil, ← r.length]
    exact F.len _ _ _ _ h
  have bd := hb s us I.kIn el
  rw [List.append_nil] at bd
  have env : Env0 c.X.prog c.X.w c.X.K c.X.mg c.X.base A1 c.X.stack s H := by
    have z := I.env0
    exact { frames := by rw [fr]; exact z.frames, mod := z.mod, bs := z.bs, bsz := z.bsz, funs := z.funs, frf := z.frf, hok := z.hok, bare := z.bare }
  refine wpAny_call (codeAny_mono (F.run A1 c.X.stack s H ⟨us, []⟩ us vs Q E room env bd r h) fun res s' done => ?_)
  rcases res with er | fl
  · exact pa pins H s er s' I done
  · cases fl with
    | ret u => exact I.after done
    | next => exact False.elim done
    | brk => exact False.elim done
    | cont => exact False.elim done
/-- o.m(e, ..) -/
theorem we_meth {o e : Expr} {es : List Expr} {m : Str} {apos pos : Pos} {k j : Nat} {ps : List Str} {fs : FS} {P : D → Prop} {ex : Xd → Prop} {pl : Sem Bool} (T : Cls c.X.K (cls k)) (d : DmX c.X cls k m j ps fs) (hr : Room j c.X.A)
    (h : WE c o ρ (fun x => ∃ gs, x = .obj k gs ∧ gs.lookup m = none ∧ WAs c ρ ex (e :: es) (fun ds => fs (x :: ds) P ex)) ex)
    (ha : PA c.X (e :: es) (tAs c (e :: es)) := by (repeat (first | exact pa_nil | refine pa_cons (peU _ _) ?_)))
    (hst : starEach (e :: es) c.X.env = (false, eval e c.X.env) :: starEach es c.X.env := by rfl) (hpl : (backTo pos (starEach es c.X.env)).any (·.1) = false := by rfl)
    (ht : eval (.Call (.Attribute o m apos) (e :: es) [] pos) c.X.env = (do
      let ov ← eval o c.X.env
      standAt apos.atName
      let (f, first) ← holding [ov] (getMethod ov m pl)
      callWith pos f first (backTo pos (starEach (e :: es) c.X.env)) (backToKw pos (keywordEach [] c.X.env))) := by rfl) : WE c (.Call (.Attribute o m apos) (e :: es) [] pos) ρ P ex := by
  refine ⟨fun pins s σ H R E I S pa y => ?_⟩
  obtain ⟨f, fd, F, hm, _, hb⟩ := d.ex
  refine PySem.W.methodCall_KW (pl := pl) (thn (h.run pins s σ H R E I S pa y) fun u s1 ⟨v, H1, I1, rv, dd, g1, ok1, q1, gs, e1, hl, w1⟩ => ?_) ht
  subst e1
  obtain ⟨a, dx, vf, rfl, ea, qf⟩ := q1.objAt
  cases (show u = Value.ref a from rv)
  refine getmeth_ok I1 ea T hm (qf.lookup_none hl) ?_
  have S1 := S.grow g1 ok1
  have targ : tAs c (e :: es) σ H1 (fun vs H2 => spOf cls fs (.ref a :: vs) H2 (Fin c R H P) E) := tAs.mk w1 S1 pa (y.grow g1 ok1) fun vs H2 ⟨ds, g2, ok2, q2, hf⟩ =>
    ⟨c.W, Nw (Nw R H) H1, _, P, ex, (S1.grow g2 ok2).ndr, ok2, .cons (q1.grow S1.ndr g2) q2, hf, fun v d H3 g3 ok3 q3 h3 => Fin.back g1 ok1 (Fin.back g2 ok2 ⟨d, g3, ok3, q3, h3⟩), (y.grow g1 ok1).grow g2 ok2⟩
  refine PySem.W.callWith_K (first := [.ref a]) (h₀ := c.X.base) I.ok.mod.kin hm.kp (thn (ha.run pos pins s1 σ H1 _ I1 targ) fun us s2 ⟨vs, H2, I2, r2, sp⟩ => ⟨I2.kIn, ?_⟩) hst hpl
  exact run_below (us := .ref a :: us) (vs := .ref a :: vs) F hr rfl hb pa I2 (.cons rfl r2) sp
theorem we_meth0 {o : Expr} {m : Str} {apos pos : Pos} {k j : Nat} {ps : List Str} {fs : FS} {P : D → Prop} {ex : Xd → Prop} {pl : Sem Bool} (T : Cls c.X.K (cls k)) (d : DmX c.X cls k m j ps fs) (hr : Room j c.X.A)
    (h : WE c o ρ (fun x => ∃ gs, x = .obj k gs ∧ gs.lookup m = none ∧ fs [x] P ex) ex)
    (ht : eval (.Call (.Attribute o m apos) [] [] pos) c.X.env = (do
      let ov ← eval o c.X.env
      standAt apos.atName
      let (f, first) ← holding [ov] (getMethod ov m pl)
      callWith pos f first (backTo pos (starEach [] c.X.env)) (backToKw pos (keywordEach [] c.X.env))) := by rfl) : WE c (.Call (.Attribute o m apos) [] [] pos) ρ P ex := by
  refine ⟨fun pins s σ H R E I S pa y => ?_⟩
  obtain ⟨f, fd, F, hm, _, hb⟩ := d.ex
  refine PySem.W.methodCall_KW (pl := pl) (thn (h.run pins s σ H R E I S pa y) fun u s1 ⟨v, H1, I1, rv, dd, g1, ok1, q1, gs, e1, hl, w1⟩ => ?_) ht
  subst e1
  obtain ⟨a, dx, vf, rfl, ea, qf⟩ := q1.objAt
  cases (show u = Value.ref a from rv)
  refine getmeth_ok I1 ea T hm (qf.lookup_none hl) ?_
  have S1 := S.grow g1 ok1
  exact PySem.W.callWith_K0 (first := [.ref a]) I1.kIn hm.kp (run_below (us := [.ref a]) (vs := [.ref a]) F hr rfl hb pa I1 (.cons rfl .nil)
    ⟨c.W, Nw R H, _, P, ex, S1.ndr, ok1, .cons q1 .nil, w1, fun v d H3 g3 ok3 q3 h3 => Fin.back g1 ok1 ⟨d, g3, ok3, q3, h3⟩, y.grow g1 ok1⟩)
/-- a property; its getter raises nothing -/
structure Dp (P : Program) (w : World) (K : PySem.W.Frag) (mg : Str → Option Value) (base : Heap) (cls : Nat → Addr) (k : Nat) (m : Str) (j : Nat) (fs : FS) : Prop where
  ex : ∃ p f fd ps, FnOk P w K mg base (L2N.CX P w) j f fd ps (spOf cls fs) ∧ PropOf K (cls k) m p f ∧ Binds K fd ps []
theorem we_prop {e : Expr} {m : Str} {pos : Pos} {k j : Nat} {fs : FS} {P : D → Prop} {ex : Xd → Prop} (T : Cls c.X.K (cls k)) (d : Dp c.X.prog c.X.w c.X.K c.X.mg c.X.base cls k m j fs) (hr : Room (j + 1) c.X.A)
    (h : WE c e ρ (fun x => ∃ gs, x = .obj k gs ∧ fs [x] P (fun _ => False)) ex) (hab : attributeBase e m c.X.env (eval e c.X.env) = eval e c.X.env := by rfl) : WE c (.Attribute e m pos) ρ P ex := by
  refine ⟨fun pins s σ H R E I S pa y => ?_⟩
  obtain ⟨pr, f, fd, ps, F, hp, hb⟩ := d.ex
  refine attr_of hab (thn (h.run pins s σ H R E I S pa y) fun u s1 ⟨v, H1, I1, rv, dd, g1, ok1, q1, gs, e1, w1⟩ => ?_)
  subst e1
  obtain ⟨a, dx, vf, rfl, ea, qf⟩ := q1.objAt
  cases (show u = Value.ref a from rv)
  exact getprop_ok (E := E0) I1 ea T hp F hr hb .nil passN ⟨c.W, Nw R H, _, P, fun _ => False, (S.grow g1 ok1).ndr, ok1, .cons q1 .nil, w1, fun v d H3 g3 ok3 q3 h3 => Fin.back g1 ok1 ⟨d, g3, ok3, q3, h3⟩, fun _ _ _ _ _ _ _ z => z.elim⟩
end
end Vl
end
section
set_option maxHeartbeats 4000000
namespace Vl
open PySem PySem.Spec PyProof.Rows L2
variable {cls : Nat → Addr}

/-! ### __init__: the object that is made -/
abbrev FI := List D → (List (Str × D) → Prop) → (Xd → Prop) → Prop
/-- what an __init__ is worth: Hb is the heap ahead of the object -/
def spInit (cls : Nat → Addr) (k : Nat) (fi : FI) : Sp := fun vs H Q E => ∃ (W : Wd cls) (R : Addr → Prop) (Hb : Hp) (a dx : Addr) (ws : List V) (ds : List D) (rt : List (Str × D) → Prop) (ex : Xd → Prop),
  W.nd R ∧ W.ok Hb ∧ Hb a = none ∧ Hb dx = none ∧ dx ≠ a ∧ vs = .ref a :: ws ∧ H = upd (upd Hb dx (.own a)) a (.ins (cls k) dx []) ∧ DqL W R Hb ws ds ∧ fi ds rt ex ∧
  (∀ dx' fs gs H', Gr W Hb H' → W.ok H' → H' a = some (.ins (cls k) dx' fs) → DqF W (Nw R Hb) H' fs gs → rt gs → Q .non H') ∧ (∀ x kv d H', Gr W Hb H' → W.ok H' → ExcAt W (Nw R Hb) H' kv d x → ex x → E kv d H')
/-- the slots at the entry of an __init__ -/
def rhoI (N : List Str) (a : Addr) (k : Nat) (ds : List D) : Rho := some (.ob a k []) :: (rho0 N (.non :: ds)).tail
theorem Sl.startI {c : Cy cls} {N : List Str} {a dx : Addr} {k : Nat} {H : Hp} {vs : List V} {ds : List D} (nd : c.W.nd c.R0) (ok : c.W.ok c.H0) (ha : c.H0 a = none) (hd : c.H0 dx = none) (ne : dx ≠ a) (hH : H = upd (upd c.H0 dx (.own a)) a (.ins (cls k) dx []))
    (q : DqL c.W c.R0 c.H0 vs ds) : Sl c (Al c.R0 c.H0) H (L2.start N (.ref a :: vs)) (rhoI N a k ds) := by
  have sm : Same c.H0 H := fun b o e => by
    rw [hH, upd_ne (ne_of_none e ha), upd_ne (ne_of_none e hd)]
    exact e
  have hL : DqL c.W (Al c.R0 c.H0) H vs ds := q.mono2 fun b o r e => ⟨⟨r, fun z => by rw [e] at z; cases z⟩, sm b o e⟩
  have S0 := Sl.start (c := ⟨c.X, c.W, Al c.R0 c.H0, H⟩) (N := N) (vs := .non :: vs) (ds := .non :: ds) (fun b m z => nd b m z.1) (ok_same ok sm) (.cons .non hL)
  have tl : ∀ (i : Nat), (rhoI N a k ds)[i + 1]? = (rho0 N (.non :: ds))[i + 1]? := fun i => by
    unfold rhoI
    rw [List.getElem?_cons_succ, List.getElem?_tail]
  have ts : ∀ (i : Nat), (L2.start N (.ref a :: vs))[i + 1]? = (L2.start N (.non :: vs))[i + 1]? := fun i => by
    unfold L2.start
    simp only [List.map_cons, List.cons_append, List.getElem?_cons_succ, List.length_cons]
  exact {
    ndr := fun b m z => nd b m z.1
    ok := ok_same ok sm
    ok0 := c.W.some c.H0 ok
    gr := Gr.of_same sm
    sub := fun b z => .inl z.1
    len := by
      have z := S0.len
      unfold L2.start at z ⊢
      unfold rhoI
      simp only [List.map_cons, List.cons_append, List.length_cons, List.length_append, List.length_map, List.length_replicate, List.length_tail] at z ⊢
      omega
    val := fun i d e => by
      cases i with
      | zero => cases e
      | succ i =>
        rw [tl] at e
        rw [ts]
        exact S0.val (i + 1) d e
    exc := fun i d e => by
      cases i with
      | zero => cases e
      | succ i =>
        rw [tl] at e
        rw [ts]
        exact S0.exc (i + 1) d e
    lst := fun i d e => by
      cases i with
      | zero => cases e
      | succ i =>
        rw [tl] at e
        obtain ⟨b, vs', h1, h2, h3, h4, h5⟩ := S0.lst (i + 1) d e
        exact absurd (h3.symm.trans h4) (fun z => nomatch z)
    sep := fun i j d1 d2 b hij e => by
      cases i with
      | zero => cases e
      | succ i =>
        rw [tl] at e
        obtain ⟨b, vs', h1, h2, h3, h4, h5⟩ := S0.lst (i + 1) d1 e
        exact absurd (h3.symm.trans h4) (fun z => nomatch z)
    ob := fun i b kk fs e => by
      cases i with
      | zero =>
        cases e
        exact ⟨dx, [], rfl, fun z => z.2 ha, ha, by rw [hH, upd_same], .nil⟩
      | succ i =>
        rw [tl] at e
        obtain ⟨dz, vs', h1, h2, h3, h4, h5⟩ := S0.ob (i + 1) b kk fs e
        exact absurd (h3.symm.trans h4) (fun z => nomatch z) }
section
variable {P : Program} {w : World} {K : PySem.W.Frag} {mg : Str → Option Value} {base : Heap}
theorem init_ok {x qual : Str} {st : Stmt} {f : Addr} {fd : FuncData} {N ps : List Str} {k j : Nat} {fi : FI} (F : Fun K x qual st f fd) (S : FnScope N ("self" :: ps) (defScope st)) (len : ∀ ds rt ex, fi ds rt ex → ds.length = ps.length)
    (body : ∀ (cdv : Value) (A : Around) (outer : List Env) (s : Shared) (H : Hp) (E : XK) (W : Wd cls) (R : Addr → Prop) (Hb : Hp) (a : Addr) (ds : List D) (rt : List (Str × D) → Prop) (ex : Xd → Prop), Room j (A.deeper (envOfC qual (defScope st) s.heap.objs.size f cdv)) → fi ds rt ex →
      WSs (⟨cxOf (L2N.CX P w) P w K mg base N qual (defScope st) f cdv A outer s H E, W, R, Hb⟩ : Cy cls) (defBody st) (rhoI N a k ds) { nx := fun ρ => ∃ gs, ρ[0]? = some (some (.ob a k gs)) ∧ rt gs, rt := fun _ _ => False, ex := fun _ => ex }) :
    FnOk P w K mg base (L2N.CX P w) (j + 1) f fd ("self" :: ps) (spInit cls k fi) := by
  refine okN F S (fun vs H Q E h => ?_) (fun cdv A outer s H vs Q E hr h => ?_)
  · obtain ⟨W, R, Hb, a, dx, ws, ds, rt, ex, _, _, _, _, _, rfl, _, q, h, _⟩ := h
    rw [List.length_cons, List.length_cons, q.length, len _ _ _ h]
  · obtain ⟨W, R, Hb, a, dx, ws, ds, rt, ex, nd, ok, ha, hd, ne, rfl, hH, q, h, k1, k2⟩ := h
    refine ⟨_, pssU (⟨cxOf (L2N.CX P w) P w K mg base N qual (defScope st) f cdv A outer s H E, W, R, Hb⟩ : Cy cls) _, rhoI N a k ds, Al R Hb, fun _ => E, { nx := fun ρ => ∃ gs, ρ[0]? = some (some (.ob a k gs)) ∧ rt gs, rt := fun _ _ => False, ex := fun _ => ex },
      Sl.startI nd ok ha hd ne hH q, L2N.takes_of rfl rfl rfl rfl, ⟨fun R' H' σ ρ S _ h => ?_, fun R' H' σ ρ v d S q h => h.elim, fun _ _ _ _ _ _ z => z.elim, fun _ _ _ _ _ _ z => z.elim⟩, fun R' H' σ ρ x kk d S a h => ?_, body cdv A outer s H E W R Hb a ds rt ex hr h⟩
    · obtain ⟨gs, e, hrt⟩ := h
      obtain ⟨dx', fs, h1, h2, h3, h4, h5⟩ := S.ob 0 a k gs e
      exact k1 dx' fs gs H' S.gr S.ok h4 (h5.wide S.sub) hrt
    · exact k2 x kk d H' S.gr S.ok (a.wide S.sub) h
end
/-- a class of the program that is made by its __init__ -/
structure Dk (P : Program) (w : World) (K : PySem.W.Frag) (mg : Str → Option Value) (base : Heap) (cls : Nat → Addr) (x : Str) (k j : Nat) (ps : List Str) (fi : FI) : Prop where
  nm : mg x = some (.ref (cls k))
  ex : ∃ f fd, FnOk P w K mg base (L2N.CX P w) j f fd ("self" :: ps) (spInit cls k fi) ∧ Mk K (cls k) f ∧ Binds K fd ("self" :: ps) []
abbrev DkX (X : Cx) (cls : Nat → Addr) (x : Str) (k j : Nat) (ps : List Str) (fi : FI) : Prop := Dk X.prog X.w X.K X.mg X.base cls x k j ps fi
section
variable {c : Cy cls} {R : Addr → Prop} {H H' : Hp} {σ : L2.St} {ρ : Rho}
/-- C(e, ..) -/
theorem we_make {x : Str} {p pos : Pos} {e : Expr} {es : List Expr} {k j : Nat} {ps : List Str} {fi : FI} {P : D → Prop} {ex : Xd → Prop} (d : DkX c.X cls x k j ps fi) (hr : Room (j + 1) c.X.A)
    (h : WAs c ρ ex (e :: es) (fun ds => fi ds (fun gs => P (.obj k gs)) ex)) (hg : Gl c.X x := by rfl) (ha : PA c.X (e :: es) (tAs c (e :: es)) := by (repeat (first | exact pa_nil | refine pa_cons (peU _ _) ?_)))
    (hdb : (x == ("__debug__" : Str)) = false := by decide) (he : starEach (e :: es) c.X.env = (false, eval e c.X.env) :: starEach es c.X.env := by rfl) (hpl : (backTo pos (starEach es c.X.env)).any (·.1) = false := by rfl) : WE c (.Call (.Name x p) (e :: es) [] pos) ρ P ex := by
  refine ⟨fun pins s σ H R E I S pa y => ?_⟩
  obtain ⟨f, fd, F, M, hb⟩ := d.ex
  refine wpAny_Call_Name_kw (ld_glob I hg d.nm ?_ hdb)
  have targ : tAs c (e :: es) σ H (fun vs H1 => FinL c R H (fun ds => fi ds (fun gs => P (.obj k gs)) ex) vs H1) := tAs.mk h S pa y fun vs H1 f => f
  refine PySem.W.callWith_K (h₀ := c.X.base) I.ok.mod.kin M.kp (thn (ha.run pos pins s σ H _ I targ) fun us s1 ⟨vs, H1, I1, rv, ds, g1, ok1, q1, hf⟩ => ⟨I1.kIn, ?_⟩) he hpl
  have n1 : H1 (s1.heap.objs.size + 1) = none := I1.hok.fresh (Nat.le_succ _)
  have n2 : H1 s1.heap.objs.size = none := I1.hok.fresh (Nat.le_refl _)
  have n3 : s1.heap.objs.size ≠ s1.heap.objs.size + 1 := Nat.ne_of_lt (Nat.lt_succ_self _)
  have sp : spInit cls k fi (.ref (s1.heap.objs.size + 1) :: vs) (upd (upd H1 s1.heap.objs.size (.own (s1.heap.objs.size + 1))) (s1.heap.objs.size + 1) (.ins (cls k) s1.heap.objs.size []))
      (fun v H2 => v = .non ∧ Fin c R H P (.ref (s1.heap.objs.size + 1)) H2) E :=
    ⟨c.W, Nw R H, H1, _, _, vs, ds, _, ex, (S.grow g1 ok1).ndr, ok1, n1, n2, n3, rfl, rfl, q1, hf, fun dx' fs gs H2 g2 ok2 ea qf hp => ⟨rfl, .obj k gs, g1.trans g2, ok2, .obj (nw_nw ok1 g1 _ (.inr n1)) ea (qf.wide (nw_nw ok1 g1)), hp⟩, y.grow g1 ok1⟩
  have I2 := Inv.made (C := cls k) I1
  have rv2 : Vals (V.ref (s1.heap.objs.size + 1) :: vs) (Value.ref (s1.heap.objs.size + 1) :: us) := .cons rfl rv
  have el : (Value.ref (s1.heap.objs.size + 1) :: us ++ []).length = (("self" : Str) :: ps).length := by
    have z := F.len _ _ _ _ sp
    rw [List.append_nil, ← rv2.length, z]
  have b2 := hb { s1 with heap := (s1.heap.push PySem.W.emptyDict).push (PySem.W.instObj (cls k) s1.heap.objs.size) } (Value.ref (s1.heap.objs.size + 1) :: us) I2.kIn el
  rw [List.append_nil] at b2
  refine wpAny_call (make_map (f := f) I1.kIn M.makes M.init (beq_iff_eq.mp M.fn) (codeAny_mono (F.run _ c.X.stack _ _ ⟨Value.ref (s1.heap.objs.size + 1) :: us, []⟩ (Value.ref (s1.heap.objs.size + 1) :: us) _ _ E (hr.make (cls k) us [])
    (I2.env0.make (cls k) us []) b2 rv2 sp) fun res s' done => ?_))
  rcases res with er | fl
  · exact pa pins _ _ er s' I2 done
  · cases fl with
    | ret u =>
      obtain ⟨v, H3, I3, rv3, ev, fin⟩ := I2.after done
      subst ev
      exact ⟨rv3, V.ref (s1.heap.objs.size + 1), H3, I3, rfl, fin⟩
    | next => exact False.elim done
    | brk => exact False.elim done
    | cont => exact False.elim done
/-- self.f = e, in the __init__ -/
def isOb : Option Sv → Bool
  | some (.ob _ _ _) => true
  | _ => false
def putFD (f : Str) (d : D) : List (Str × D) → List (Str × D)
  | [] => [(f, d)]
  | (g, x) :: r => if g = f then (g, d) :: r else (g, x) :: putFD f d r
theorem DqF.put {W : Wd cls} {f : Str} {v : V} {d : D} (q : Dq W R H v d) : ∀ {fs : List (Str × V)} {gs : List (Str × D)}, DqF W R H fs gs → DqF W R H (putF f v fs) (putFD f d gs)
  | _, _, .nil => .cons q .nil
  | _, _, .cons (f := g) q2 r => by
    unfold putF putFD
    by_cases h : g = f
    · rw [if_pos h, if_pos h]
      exact .cons q r
    · rw [if_neg h, if_neg h]
      exact .cons q2 (DqF.put q r)
theorem DqF.length {W : Wd cls} : ∀ {fs : List (Str × V)} {gs : List (Str × D)}, DqF W R H fs gs → fs.length = gs.length
  | _, _, .nil => rfl
  | _, _, .cons _ r => by rw [List.length_cons, List.length_cons, r.length]
theorem ws_fld (i : Nat) {x f : Str} {e : Expr} {p pos' pos : Pos} {a : Addr} {k : Nat} {gs : List (Str × D)} {po : Po} (T : Cls c.X.K (cls k)) (n : NoAttr c.X.K (cls k) f) (hN : c.X.N[i]? = some x) (hρ : ρ[i]? = some (some (.ob a k gs)))
    (h : WE c e ρ (fun d => po.nx (ρ.set i (some (.ob a k (putFD f d gs))))) (po.ex ρ)) (one : (ρ.eraseIdx i).all (fun o => !isOb o) = true := by rfl) (hl : gs.length < 1000 := by decide) (hv : Vis c.X.env.scope x := by first | exact Or.inl rfl | exact Or.inr (Or.inl rfl) | exact Or.inr (Or.inr rfl))
    (hs : swapsWith e (some (.Attribute (.Name x p) f pos')) pos.line c.X.env = pure false := by rfl) (hd : (x == ("__debug__" : Str)) = false := by decide) (hcd : (x == ("__classdict__" : Str)) = false := by decide) : WS c (.Assign [.Attribute (.Name x p) f pos'] e pos) ρ po :=
  ws_of (ps_fld (pe_var hN hv hd hcd) (peU c e) hs) fun σ H R Ds E S ps en xx => tU.mk h S (ps.at σ) (xx.at S) fun y H1 ⟨d, g1, ok1, q1, hp⟩ => by
    have S1 := S.grow g1 ok1
    obtain ⟨dx, vs, h1, h2, h3, h4, h5⟩ := S1.ob i a k gs hρ
    refine ⟨.ref a, h1, a, cls k, dx, vs, rfl, h4, T, n, by rw [h5.length]; exact hl, ?_⟩
    refine en.nx (Nw R H) _ σ _ (S1.mutOb hρ h4 (h5.put q1) fun j k' fs' e => ?_) ((Kp.grow S.ndr g1).trans (Kp.mut h2)) hp
    by_cases hj : j = i
    · exact hj
    · have m : some (Sv.ob a k' fs') ∈ ρ.eraseIdx i := List.mem_eraseIdx_iff_getElem?.mpr ⟨j, hj, e⟩
      have z := List.all_eq_true.mp one _ m
      cases z
end
end Vl
end
section
set_option maxHeartbeats 4000000
namespace Vl
open PySem PySem.Spec PyProof.Rows L2
variable {cls : Nat → Addr}
section
variable {c : Cy cls} {R : Addr → Prop} {H H' : Hp} {σ : L2.St} {ρ : Rho}
theorem passAll {X : Cx} {σ : L2.St} : Pas X σ E0 := fun pins H s e s' I z => passN pins σ H s e s' I z

/-- what a call of a def needs of an object first -/
structure ObM (c : Cy cls) (k : Nat) (m : Str) (j : Nat) (fs : FS) : Prop where
  ex : ∃ f fd ps, FnOk c.X.prog c.X.w c.X.K c.X.mg c.X.base (L2N.CX c.X.prog c.X.w) j f fd ps (spOf cls fs) ∧ Meth c.X.K (cls k) m f ∧ PySem.W.fnIn c.X.K f = true ∧ Binds c.X.K fd ps []
theorem Dm.obm {k : Nat} {m : Str} {j : Nat} {ps : List Str} {fs : FS} (d : DmX c.X cls k m j ps fs) : ObM c k m j fs := by
  obtain ⟨f, fd, a, b, e, g⟩ := d.ex
  exact ⟨f, fd, ps, a, b, e, g⟩
theorem spOf0 {fs : FS} {vs : List V} {ds : List D} {P : D → Prop} (nd : c.W.nd R) (ok : c.W.ok H) (q : DqL c.W R H vs ds) (h : fs ds P (fun _ => False)) {Q : VK} (k : ∀ v H', Fin c R H P v H' → Q v H') : spOf cls fs vs H Q E0 :=
  ⟨c.W, R, ds, P, fun _ => False, nd, ok, q, h, fun v d H' g ok' q' h' => k v H' ⟨d, g, ok', q', h'⟩, fun _ _ _ _ _ _ _ z => z.elim⟩

/-! ### len(o) -/
def rLenO (c : Cy cls) (k : Nat) (fs : FS) : List V → Hp → VK → Prop := fun xs H Q => ∃ a dx vf, xs = [.ref a] ∧ H a = some (.ins (cls k) dx vf) ∧ spOf cls fs [.ref a] H (fun v H' => ∃ n : Int, v = .int n ∧ 0 ≤ n ∧ n < 2 ^ 63 ∧ Q (.int n) H') E0
theorem call_lenO {k j : Nat} {fs : FS} (d : ObM c k "__len__" j fs) (hr : Room (j + 1) c.X.A) : CallR c.X (.builtin "len") (rLenO c k fs) := by
  intro pins s σ H xs us Q I r h
  obtain ⟨a, dx, vf, rfl, ea, sp⟩ := h
  obtain ⟨f, fd, ps, F, M, fi, hb⟩ := d.ex
  cases r with
  | cons ra rr =>
    cases rr
    cases ra
    obtain ⟨mA, O, _⟩ := ins_get I.hok ea
    obtain ⟨od, J, _⟩ := O.look
    obtain ⟨m, hF⟩ := I.fr
    refine PySem.W.len_K hF I.ok.mod.kin J M.at_ M.fn (wpAny_mono (run_below (us := [.ref a]) (vs := [.ref a]) F hr.in1 rfl hb passAll I (.cons rfl .nil) sp) (fun u s' done => ?_) fun _ _ z => z)
    obtain ⟨v, H', I', rv, n, ev, h0, h1, q⟩ := done
    subst ev
    obtain ⟨t, rfl⟩ := (show ∃ t, u = Value.int n t from rv)
    exact ⟨⟨h0, h1⟩, .int n, H', I'.tok _, ⟨_, rfl⟩, q⟩
theorem lsd_lenO {k : Nat} {fs : FS} : LsD c (rLenO c k fs) (fun ds P => ∃ gs, ds = [.obj k gs] ∧ fs ds (fun d => ∃ n : Int, d = .int n ∧ 0 ≤ n ∧ n < 2 ^ 63 ∧ P (.int n)) (fun _ => False)) := fun R H vs ds P nd ok q f Q kk => by
  obtain ⟨gs, rfl, h⟩ := f
  have q' := q
  cases q with
  | cons q1 q =>
    cases q
    obtain ⟨a, dx, vf, rfl, ea, qf⟩ := q1.objAt
    refine ⟨a, dx, vf, rfl, ea, spOf0 nd ok q' h fun v H' ⟨d, g, ok', q2, n, e, h0, h1, hp⟩ => ?_⟩
    subst e
    cases q2
    exact ⟨n, rfl, h0, h1, kk _ _ ⟨_, g, ok', .int n, hp⟩⟩
theorem we_lenO {a : Expr} {pp pos : Pos} {k j : Nat} {fs : FS} {P : D → Prop} {ex : Xd → Prop} (nb : NB c.X.mg) (d : ObM c k "__len__" j fs) (hr : Room (j + 1) c.X.A)
    (h : WE c a ρ (fun x => ∃ gs, x = .obj k gs ∧ fs [x] (fun d => ∃ n : Int, d = .int n ∧ 0 ≤ n ∧ n < 2 ^ 63 ∧ P (.int n)) (fun _ => False)) ex)
    (hp : PE c.X (.Call (.Name "len" pp) [a] [] pos) (tCB (rLenO c k fs) (tAs c [a])) := by exact pe_callB (call_lenO (by assumption) (by assumption)) (by rfl) ((by assumption : NB _) _ (by decide)) (by decide +kernel) (pa_cons (peU _ _) pa_nil)) :
    WE c (.Call (.Name "len" pp) [a] [] pos) ρ P ex := we_blt hp lsd_lenO (WE.mono h fun d ⟨gs, e, h2⟩ => ⟨gs, by rw [e], h2⟩)

/-! ### o[i] -/
theorem we_ixO {o b : Expr} {pos : Pos} {k j : Nat} {fs : FS} {P : D → Prop} {ex : Xd → Prop} (d : ObM c k "__getitem__" j fs) (hr : Room (j + 1) c.X.A)
    (h : WE c o ρ (fun x => ∃ gs, x = .obj k gs ∧ WE c b ρ (fun y => fs [x, y] P ex) ex) ex)
    (hsl : ∀ o i, subscripted b true o i = runValue (.builtin "lifetime.subscript" ⟨[o, i], []⟩) := by intro o i; with_unfolding_all rfl) : WE c (.Subscript o b pos) ρ P ex := by
  refine ⟨fun pins s σ H R E I S pa y => ?_⟩
  obtain ⟨f, fd, ps, F, M, fi, hb⟩ := d.ex
  refine Subscript_ (thn (h.run pins s σ H R E I S pa y) fun u s1 ⟨v, H1, I1, rv, dd, g1, ok1, q1, gs, e1, w1⟩ => ?_)
  subst e1
  have S1 := S.grow g1 ok1
  refine thn (w1.run pins s1 σ H1 _ E I1 S1 pa (y.grow g1 ok1)) fun u2 s2 ⟨v2, H2, I2, rv2, d2, g2, ok2, q2, hf⟩ => ?_
  have q1' := q1.grow S1.ndr g2
  obtain ⟨a, dx, vf, rfl, ea, qf⟩ := q1'.objAt
  cases (show u = Value.ref a from rv)
  obtain ⟨mA, O, _⟩ := ins_get I2.hok ea
  obtain ⟨od, J, _⟩ := O.look
  obtain ⟨m, hF⟩ := I2.fr
  exact PySem.W.sub_K hF I2.ok.mod.kin J M.at_ fi M.fn (run_below (us := [.ref a, u2]) (vs := [.ref a, v2]) F hr.in1 rfl hb pa I2 (.cons rfl (.cons rv2 .nil))
    ⟨c.W, _, _, P, ex, (S1.grow g2 ok2).ndr, ok2, .cons q1' (.cons q2 .nil), hf, fun v d H3 g3 ok3 q3 h3 => Fin.back g1 ok1 (Fin.back g2 ok2 ⟨d, g3, ok3, q3, h3⟩), (y.grow g1 ok1).grow g2 ok2⟩) (hsl _ _)

/-! ### o(e, ..) -/
theorem we_callO {fe e : Expr} {es : List Expr} {pos : Pos} {k j : Nat} {fs : FS} {P : D → Prop} {ex : Xd → Prop} (d : ObM c k "__call__" j fs) (hr : Room j c.X.A)
    (h : WE c fe ρ (fun x => ∃ gs, x = .obj k gs ∧ WAs c ρ ex (e :: es) (fun ds => fs (x :: ds) P ex)) ex) (ha : PA c.X (e :: es) (tAs c (e :: es)) := by (repeat (first | exact pa_nil | refine pa_cons (peU _ _) ?_)))
    (ht : eval (.Call fe (e :: es) [] pos) c.X.env = (do callWith pos (← eval fe c.X.env) [] (backTo pos (starEach (e :: es) c.X.env)) (backToKw pos (keywordEach [] c.X.env))) := by rfl)
    (he : starEach (e :: es) c.X.env = (false, eval e c.X.env) :: starEach es c.X.env := by rfl) (hpl : (backTo pos (starEach es c.X.env)).any (·.1) = false := by rfl) : WE c (.Call fe (e :: es) [] pos) ρ P ex := by
  refine ⟨fun pins s σ H R E I S pa y => ?_⟩
  obtain ⟨f, fd, ps, F, M, fi, hb⟩ := d.ex
  refine Call_ (thn (h.run pins s σ H R E I S pa y) fun u s1 ⟨v, H1, I1, rv, dd, g1, ok1, q1, gs, e1, w1⟩ => ?_) ht
  subst e1
  have S1 := S.grow g1 ok1
  obtain ⟨a, dx, vf, rfl, ea, qf⟩ := q1.objAt
  cases (show u = Value.ref a from rv)
  have targ : tAs c (e :: es) σ H1 (fun vs H2 => (∃ vf, H2 a = some (.ins (cls k) dx vf)) ∧ spOf cls fs (.ref a :: vs) H2 (Fin c R H P) E) := tAs.mk w1 S1 pa (y.grow g1 ok1) fun vs H2 ⟨ds, g2, ok2, q2, hf⟩ => by
    have q1' := q1.grow S1.ndr g2
    refine ⟨?_, c.W, Nw (Nw R H) H1, _, P, ex, (S1.grow g2 ok2).ndr, ok2, .cons q1' q2, hf, fun v d H3 g3 ok3 q3 h3 => Fin.back g1 ok1 (Fin.back g2 ok2 ⟨d, g3, ok3, q3, h3⟩), (y.grow g1 ok1).grow g2 ok2⟩
    have nd : ¬ c.W.mv a := fun z => by
      cases q1 with
      | obj r e q => exact S1.ndr a z r
    exact ⟨vf, g2 _ _ nd ea⟩
  refine StX.callO_with (thn (ha.run pos pins s1 σ H1 _ I1 targ) fun us s2 ⟨vs, H2, I2, r2, ⟨vf2, ea2⟩, sp⟩ => ?_) he hpl
  obtain ⟨mA, O, _⟩ := ins_get I2.hok ea2
  obtain ⟨od, J, _⟩ := O.look
  refine ⟨⟨cls k, _, _, J, rfl⟩, ?_⟩
  have el : (Value.ref a :: us ++ []).length = ps.length := by
    rw [List.append_nil, ← F.len _ _ _ _ sp, List.length_cons, List.length_cons]
    have : vs.length = us.length := Paired.length r2
    rw [this]
  have bd := hb s2 (Value.ref a :: us) I2.kIn el
  rw [List.append_nil] at bd
  have rvs : Vals (V.ref a :: vs) (Value.ref a :: us) := .cons rfl r2
  refine wpAny_call (PySem.W.kco_code (a := ⟨us, []⟩) I2.kIn J rfl M.at_ M.fn fi (codeAny_mono (F.run c.X.A c.X.stack s2 H2 ⟨.ref a :: us, []⟩ (.ref a :: us) (.ref a :: vs) _ E hr I2.env0 bd rvs sp) fun res s' done => ?_))
  rcases res with er | fl
  · exact pa pins H2 s2 er s' I2 done
  · cases fl with
    | ret u => exact I2.after done
    | next => exact False.elim done
    | brk => exact False.elim done
    | cont => exact False.elim done

/-! ### o == x -/
def rEqO (c : Cy cls) (k : Nat) (fs : FS) : R2 := fun x y H Q => ∃ a dx vf t, x = .ref a ∧ H a = some (.ins (cls k) dx vf) ∧ TyX c.X.K H y t ∧ PySem.W.notFirst c.X.K (cls k) t = true ∧ spOf cls fs [.ref a, y] H (fun v H' => ∃ b, v = .bl b ∧ Q (.bl b) H') E0
theorem op_eqO {k j : Nat} {fs : FS} (d : ObM c k "__eq__" j fs) (hr : Room j c.X.A) : OpR c.X (compareOp .Eq) (rEqO c k fs) := by
  intro pins s σ H x y v u Q I rx ry h
  obtain ⟨a, dx, vf, t, rfl, ea, ty, hn, sp⟩ := h
  obtain ⟨f, fd, ps, F, M, fi, hb⟩ := d.ex
  cases (show v = Value.ref a from rx)
  obtain ⟨mA, O, _⟩ := ins_get I.hok ea
  obtain ⟨od, J, _⟩ := O.look
  obtain ⟨m, hF⟩ := I.fr
  obtain ⟨Pk, Z, pk, _⟩ := kit_of I ry ty
  show wpAny (model c.X.prog c.X.w) c.X.A (richCompare .Eq (.ref a) u) (EP c.X pins σ Q) c.X.xe s
  refine PySem.W.cmp_K (op := .Eq) hr.units0 hF I.ok.mod.kin J (Z.ty _ _ I.kIn pk) hn M.at_ M.fn (wpAny_mono (run_below (us := [.ref a, u]) (vs := [.ref a, y]) F hr rfl hb passAll I (.cons rfl (.cons ry .nil)) sp) (fun w s' done => ?_) fun _ _ z => z)
  obtain ⟨v', H', I', rv, b, ev, q⟩ := done
  subst ev
  cases (show w = Value.bool b from rv)
  exact ⟨.bl b, H', I', rfl, q⟩
theorem opd_eqO {k : Nat} {fs : FS} : OpD c (rEqO c k fs) (fun x y P => ∃ gs t, x = .obj k gs ∧ tagV cls y = some t ∧ (∀ k fs, y = .obj k fs → InsF c.X.K (cls k)) ∧ PySem.W.notFirst c.X.K (cls k) t = true ∧ fs [x, y] (fun d => ∃ b, d = .bl b ∧ P (.bl b)) (fun _ => False)) :=
  fun R H vx vy x y P nd ok qx qy f Q kk => by
    obtain ⟨gs, t, rfl, ht, hi, hn, h⟩ := f
    have qx' := qx
    obtain ⟨a, dx, vf, rfl, ea, qf⟩ := qx.objAt
    refine ⟨a, dx, vf, t, rfl, ea, tag_ok qy ht hi, hn, spOf0 nd ok (.cons qx' (.cons qy .nil)) h fun v H' ⟨d, g, ok', q2, b, e, hp⟩ => ?_⟩
    subst e
    cases q2
    exact ⟨b, rfl, kk _ _ ⟨_, g, ok', .bl b, hp⟩⟩
theorem we_eqO {a b : Expr} {pos : Pos} {k j : Nat} {fs : FS} {P : D → Prop} {ex : Xd → Prop} (d : ObM c k "__eq__" j fs) (hr : Room j c.X.A)
    (h : WE c a ρ (fun x => WE c b ρ (fun y => ∃ gs t, x = .obj k gs ∧ tagV cls y = some t ∧ (∀ k fs, y = .obj k fs → InsF c.X.K (cls k)) ∧ PySem.W.notFirst c.X.K (cls k) t = true ∧ fs [x, y] (fun d => ∃ b, d = .bl b ∧ P (.bl b)) (fun _ => False)) ex) ex) :
    WE c (.Compare a [.Eq] [b] pos) ρ P ex := we_bin (pe_cmpR (op_eqO d hr) (peU c a) (peU c b) (nomark _)) opd_eqO h
end
end Vl
end
section
set_option maxHeartbeats 4000000
namespace Vl
open PySem PySem.Spec PyProof.Rows L2
variable {cls : Nat → Addr}

/-! ### a def whose promise may name the first free address of the caller -/
structure FnN (P : Program) (w : World) (K : PySem.W.Frag) (mg : Str → Option Value) (base : Heap) (CX : CXT) (k : Nat) (f : Addr) (fd : FuncData) (ps : List Str) (sp : Nat → Sp) : Prop where
  len : ∀ n vs H Q E, sp n vs H Q E → vs.length = ps.length
  run : ∀ (A : Around) (outer : List Env) (s : Shared) (H : Hp) (args : Args) (us : List Value) (vs : List V) (Q : VK) (E : XK), Room k A → Env0 P w K mg base A outer s H → BindsTo s fd args (ps.zip us) → Vals vs us → sp s.heap.objs.size vs H Q E →
    codeAny (model P w) A (.call (.ref f) args) (CR CX outer P w H s Q E) s
section
variable {P : Program} {w : World} {K : PySem.W.Frag} {mg : Str → Option Value} {base : Heap}
theorem okNN {CX : CXT} {x qual : Str} {st : Stmt} {f : Addr} {fd : FuncData} {N ps : List Str} {k : Nat} {sp : Nat → Sp} (F : Fun K x qual st f fd) (S : FnScope N ps (defScope st)) (len : ∀ n vs H Q E, sp n vs H Q E → vs.length = ps.length)
    (bd : ∀ (cdv : Value) (A : Around) (outer : List Env) (s : Shared) (H : Hp) (vs : List V) (Q : VK) (E : XK), Room k (A.deeper (envOfC qual (defScope st) s.heap.objs.size f cdv)) → sp s.heap.objs.size vs H Q E →
      ∃ t, PSs (cxOf CX P w K mg base N qual (defScope st) f cdv A outer s H E) (defBody st) t ∧ t { nx := fun _ H' => Q .non H', rt := Q } (L2.start N vs) H) : FnN P w K mg base CX (k + 1) f fd ps sp := by
  have ⟨_, _, _, _, _, _, cdv, _, _, e, lk, hc⟩ := F.ex
  cases e
  refine ⟨len, fun A outer s H args us vs Q E room env bnd rv pr => ?_⟩
  have kin : K.In s.heap := env.mod.kin.keeps fun b o z => (env.bs b o z).1
  have lims : s.heap.NoLimit := env.mod.nolimit.keeps fun b o z => (env.bs b o z).1
  have kinds : ∀ y ∈ ps.zip us, (defScope st).names.lookup y.1 = some .local ∨ ((defScope st).names.lookup y.1 = some .cell ∧ ((cellsFrom (s.heap.objs.size + 1) (defScope st).names []).lookup y.1).isSome = true) := by
    rintro ⟨n, v⟩ hy
    exact (S.par n (List.of_mem_zip hy).1).imp id fun z => ⟨z, PySem.W.cellsFrom_some _ _ _ (.inl z)⟩
  refine codeAny_call_function room.depth (kin _ _ lk) rfl S.co S.gen rfl (PySem.W.codeRec_of kin hc) (bnd _ _ _ _ (wpAny_newFunctionEnv_cells S.kind kinds fun en he s1 ic => ?_))
  subst he
  refine ⟨lims.keeps ic.toInCall.keep, codeAny_func ?_⟩
  have ⟨t, ht, hq⟩ := bd cdv A outer s H vs Q E (room.deeper _) pr
  have I := inv_start (CX := CX) (P := P) (w := w) (mg := mg) (base := base) (E := E) S room.hd env (len _ _ _ _ _ pr) rv ic
  refine wpAny_mono (ht.run [] s1 (L2.start N vs) H _ I hq) (fun fl s' hs => ?_) fun _ _ z => z
  cases fl with
  | ret u =>
    have ⟨v, σ', H', J, r, q⟩ := hs
    exact ⟨v, H', J.os, J.bare, J.base, J.hok, r, q⟩
  | next =>
    have ⟨σ', H', J, q⟩ := hs
    exact ⟨.non, H', J.os, J.bare, J.base, J.hok, rfl, q⟩
  | brk =>
    have ⟨_, _, _, no⟩ := hs
    exact no.elim
  | cont =>
    have ⟨_, _, _, no⟩ := hs
    exact no.elim
end

/-! ### iter(a tuple) as a value -/
/-- at it an iterator over the tuple at t -/
def TIt (t it : Addr) : HO := .ext fun h => h.IsTupleIter it t 0
theorem tIt_ok {P : Program} {w : World} {H : Hp} {h : Heap} {t it : Addr} (e : h.IsTupleIter it t 0) : ObjOk P w H h it (TIt t it) :=
  ⟨e, (let ⟨o, z, _⟩ := e; ⟨o, z⟩), fun h1 h2 q k => let ⟨o, z, r⟩ := q; ⟨o, k _ z, r⟩⟩
theorem call_iter_tup {prog : Program} {w : World} {A : Around} {E : Value → Shared → Prop} {s : Shared} {t : Addr} {items : Array Value} {Q : Value → Shared → Prop} (ht : s.heap.IsTuple t items)
    (h : Q (.ref s.heap.objs.size) { s with heap := s.heap.push { cls := .type "tuple_iterator", data := .fields #[.ref t, .int 0 0] } }) : wpAny (model prog w) A (call (.builtin "iter") [.ref t]) Q E s := by
  refine Calls.call_function_entry (by decide +kernel) (by decide +kernel) PySem.W.kdk_entry_iter (PySem.W.kdk_args_iter _) ?_
  unfold Builtin.«iter»
  refine wpAny_bind (m := someArgs "iter" 1 2 _) (wpAny_of_eq (a := [Value.ref t]) (by first | rfl | kernel_rfl!) ?_)
  show wpAny _ _ (pyIter (.ref t) >>= _) _ _ _
  exact wpAny_bind (wpAny_pyIter_tuple ht (wpAny_pure ⟨_, rfl, h⟩))
def rIterT (K : PySem.W.Frag) (n : Nat) : List V → Hp → VK → Prop := fun xs H Q => ∃ (t : Addr) (zs : List V), xs = [.ref t] ∧ SqT K H t zs ∧ ∀ it, H it = none → n ≤ it → Q (.ref it) (upd H it (TIt t it))
theorem call_iterT {X : Cx} : CallR X (.builtin "iter") (rIterT X.K X.s_0.heap.objs.size) := by
  intro pins s σ H xs us Q I r h
  obtain ⟨t, zs, rfl, hq, q⟩ := h
  cases r with
  | cons ru rr =>
    cases rr
    cases ru
    obtain ⟨its, rv, p, hz⟩ := I.tuple hq
    refine call_iter_tup (show s.heap.IsTuple t its.toArray from p) ?_
    exact ⟨.ref s.heap.objs.size, _, I.laid (t' := s.toks) (fun b u e => Heap.get?_push_of_some _ e) (Nat.le_refl _) (tIt_ok ⟨_, Heap.get?_push_size _ rfl, rfl, rfl⟩), rfl, q _ (I.hok.fresh (Nat.le_refl _)) I.sz⟩

/-! ### walking an object whose __iter__ is «return iter(self.f)», f a tuple -/
def spIt (K : PySem.W.Frag) (C : Addr) (fl : Str) : Nat → Sp := fun n vs H Q _ => ∃ (a dx t : Addr) (vf : List (Str × V)) (zs : List V), vs = [.ref a] ∧ H a = some (.ins C dx vf) ∧ vf.lookup fl = some (.ref t) ∧ SqT K H t zs ∧ ∀ it, H it = none → n ≤ it → Q (.ref it) (upd H it (TIt t it))
theorem iter_ok {P : Program} {w : World} {K : PySem.W.Frag} {mg : Str → Option Value} {base : Heap} {x qual : Str} {st : Stmt} {f C : Addr} {fd : FuncData} {fl : Str} {p1 p2 p3 p4 p5 : Pos} (F : Fun K x qual st f fd) (S : FnScope ["self"] ["self"] (defScope st)) (hm : mg "iter" = none)
    (T : Cls K C) (no : NoAttr K C fl) (hb : defBody st = [.Return (some (.Call (.Name "iter" p1) [.Attribute (.Name "self" p2) fl p3] [] p4)) p5]) (hg : ∀ L cdv, (envOfC qual (defScope st) L f cdv).kindOf "iter" = some .globalImplicit) : FnN P w K mg base (L2N.CX P w) 1 f fd ["self"] (spIt K C fl) := by
  refine okNN F S (fun n vs H Q E h => ?_) (fun cdv A outer s H vs Q E room h => ?_)
  · obtain ⟨a, dx, t, vf, zs, rfl, _⟩ := h
    rfl
  · obtain ⟨a, dx, t, vf, zs, rfl, ea, el, et, q⟩ := h
    have vis : Vis (envOfC qual (defScope st) s.heap.objs.size f cdv).scope "self" := (S.par "self" (List.Mem.head _)).elim .inl fun z => .inr (.inl z)
    rw [hb]
    exact ⟨_, pss_one (ps_ret (pe_callB call_iterT (hg _ _) hm (by decide +kernel) (pa_cons (pe_fld (pe_var (i := 0) rfl vis) rfl) pa_nil))), .ref a, rfl, a, C, dx, vf, .ref t, rfl, ea, T, no, el, t, zs, rfl, et, q⟩
section
variable {c : Cy cls} {R : Addr → Prop} {H H' : Hp} {σ : L2.St} {ρ : Rho}
/-- what a class must have to be walked so -/
structure ItM (c : Cy cls) (k : Nat) (fl : Str) : Prop where
  ex : ∃ f fd, FnN c.X.prog c.X.w c.X.K c.X.mg c.X.base (L2N.CX c.X.prog c.X.w) 1 f fd ["self"] (spIt c.X.K (cls k) fl) ∧ Meth c.X.K (cls k) "__iter__" f ∧ Binds c.X.K fd ["self"] []
theorem wi_own {tg l : Expr} {k : Nat} {fl : Str} {P : List D → Prop} {ex : Xd → Prop} (d : ItM c k fl) (hr : Room 1 c.X.A) (h : WE c l ρ (fun x => ∃ gs ds, x = .obj k gs ∧ gs.lookup fl = some (.tup ds) ∧ P ds) ex) : WI c tg l ρ P ex := by
  refine ⟨fun pins s σ H R E I S pa y => ?_⟩
  obtain ⟨f, fd, F, M, hb⟩ := d.ex
  refine thn (h.run pins s σ H R E I S pa y) fun u s1 ⟨v, H1, I1, rv, dd, g1, ok1, q1, gs, ds, e1, hl, hp⟩ => ?_
  subst e1
  obtain ⟨a, dx, vf, rfl, ea, qf⟩ := q1.objAt
  cases (show u = Value.ref a from rv)
  obtain ⟨z, hz, qz⟩ := qf.lookup hl
  cases qz with
  | @tup t zs _ rt et qt =>
    obtain ⟨mA, O, _⟩ := ins_get I1.hok ea
    obtain ⟨od, J, _⟩ := O.look
    obtain ⟨m, hF⟩ := I1.fr
    have sp : spIt c.X.K (cls k) fl s1.heap.objs.size [.ref a] H1 (fun v H' => ∃ it, v = .ref it ∧ H1 it = none ∧ s1.heap.objs.size ≤ it ∧ H' = upd H1 it (TIt t it)) E0 :=
      ⟨a, dx, t, vf, zs, rfl, ea, hz, sq_t et, fun it hn hle => ⟨it, rfl, hn, hle, rfl⟩⟩
    have bd := hb s1 [Value.ref a] I1.kIn rfl
    have rvs : Vals [V.ref a] [Value.ref a] := .cons rfl .nil
    refine PySem.W.owit_iter hF I1.ok.mod.kin J M.at_ M.fn (wpAny_call (codeAny_mono (F.run c.X.A c.X.stack s1 H1 ⟨[.ref a], []⟩ [.ref a] [.ref a] _ E0 hr I1.env0 bd rvs sp) fun res s' done => ?_))
    rcases res with er | fl'
    · exact passAll pins H1 s1 er s' I1 done
    · cases fl' with
      | ret u =>
        obtain ⟨v, H2, I2, r2, it, ev, hn, hle, eH⟩ := I1.after done
        subst ev
        cases (show u = Value.ref it from r2)
        subst eH
        have own : ObjOk c.X.prog c.X.w (upd H1 it (TIt t it)) s'.heap it (TIt t it) := I2.hok it _ upd_same
        have st : s'.heap.IsTupleIter it t 0 := own.1
        obtain ⟨o, ho, hc, hd⟩ := id st
        refine wpAny_specialOf (show s'.TypeIs (.ref it) "tuple_iterator" from ⟨o, ho, hc⟩) PySem.F.slot_tuple_iterator_next.lookup ?_
        have at_ : upd H1 it (TIt t it) it = some (.ext fun h => h.IsTupleIter it t 0) := upd_same
        have I3 := ItX.inv_drop I2 at_
        have fpo := ItX.inv_fp I2 at_ (Nat.le_trans I1.sz hle)
        have e3 : ItX.dropH (upd H1 it (TIt t it)) it = H1 := ItX.dropH_upd hn
        rw [e3] at I3 fpo
        refine ⟨it, [it], _, _, H1, rfl, I3, turn_tuple t it, st, fun b hb => ?_, ds, g1, ok1, IterD.tup rt et qt, hp⟩
        have eb : b = it := by simpa using hb
        rw [eb]
        exact fpo
      | next => exact False.elim done
      | brk => exact False.elim done
      | cont => exact False.elim done
end
end Vl
end
section
set_option maxHeartbeats 4000000
namespace Vl
open PySem PySem.Spec PyProof.Rows L2 L2H HotX
variable {cls : Nat → Addr}

section
variable {c : Cy cls} {R : Addr → Prop} {H H' : Hp} {σ : L2.St} {ρ : Rho}
theorem Sl.setExc (S : Sl c R H σ ρ) {i : Nat} {v : V} {e : Addr × Addr × Xd} (q : Xq c.W R H v e) : Sl c R H (σ.set i (some v)) (ρ.set i (some (.exc e))) := by
  have T := S.setNone (i := i) (o := some v)
  have back : ∀ (j : Nat) (w : Sv), i ≠ j → (ρ.set i (some (.exc e)))[j]? = some (some w) → (ρ.set i none)[j]? = some (some w) := fun j w h z => by
    rw [List.getElem?_set_ne h] at z ⊢
    exact z
  have self : ∀ (j : Nat) (w : Sv), (∀ e', w ≠ .exc e') → (ρ.set i (some (.exc e)))[j]? = some (some w) → (ρ.set i none)[j]? = some (some w) := fun j w h z => by
    by_cases hj : i = j
    · subst hj
      have y := get_set_self z
      cases y
      exact absurd rfl (h e)
    · exact back j w hj z
  exact {
    ndr := T.ndr
    ok := T.ok
    ok0 := T.ok0
    gr := T.gr
    sub := T.sub
    len := by simp [S.len]
    val := fun j d h => T.val j d (self j _ (fun _ z => nomatch z) h)
    lst := fun j d h => T.lst j d (self j _ (fun _ z => nomatch z) h)
    sep := fun j k d1 d2 a hjk h1 h2 => T.sep j k d1 d2 a hjk (self j _ (fun _ z => nomatch z) h1) (self k _ (fun _ z => nomatch z) h2)
    ob := fun j a k fs h => T.ob j a k fs (self j _ (fun _ z => nomatch z) h)
    exc := fun j d h => by
      by_cases hj : i = j
      · subst hj
        have lt := set_lt h
        have y := get_set_self h
        cases y
        exact ⟨v, by rw [List.getElem?_set_self (by rw [S.len]; exact lt)], q⟩
      · exact T.exc j d (back j _ hj h) }

/-! ### what is known of the exception that is handled -/
/-- a, its dict, its class and fields: it is handled here, its context is None -/
def HX (c : Cy cls) (e : Addr × Addr × Xd) : Prop := ∃ oe vs, (e.1, oe) ∈ c.X.pn ∧ Hot1 c.X.A (e.1, oe) ∧ L2N.Zn (.ref (cls e.2.2.c)) (some e.2.1) oe ∧ oe.data = .fields vs
/-- isinstance(n, b) -/
def rXisi (c : Cy cls) (e : Addr × Addr × Xd) : List V → Hp → VK → Prop := fun xs H Q => ∃ (y : V) (u : Value) (b : Bool), xs = [.ref e.1, y] ∧ ClsV y u ∧ (∃ fs, H e.2.1 = some (.xd fs)) ∧ PySem.W.kitOne c.X.K (.ref (cls e.2.2.c)) u = some b ∧ Q (.bl b) H
theorem call_xisi {e : Addr × Addr × Xd} (hx : HX c e) (C : ExcC c.X.K (cls e.2.2.c)) : CallR c.X (.builtin "isinstance") (rXisi c e) := by
  intro pins s σ H xs us Q I r h
  obtain ⟨y, u, b, rfl, hy, ⟨fs, ed⟩, hk, q⟩ := h
  obtain ⟨oe, vs, hm, _, hz, hd⟩ := hx
  cases r with
  | cons rx rr =>
    cases rr with
    | cons rt rr =>
      cases rr
      cases rx
      have eu := hy.eq rt
      subst eu
      have get := (I.pin (e.1, oe) (List.mem_append_left _ hm)).1
      have own : ObjOk c.X.prog c.X.w H s.heap e.2.1 (.xd fs) := I.hok _ _ ed
      obtain ⟨mA, ⟨od, es, ep, ho, _⟩, _⟩ := own
      have J : PySem.W.InstAt s.heap e.1 oe (cls e.2.2.c) (some od) := { at_ := get, cls := hz.1, no := (by unfold PySem.W.notCls; rw [hd] <;> rfl), dict := (by rw [hz.2.1]; exact ho) }
      obtain ⟨cd, hcd, _⟩ := PySem.W.any_some C.hd
      exact PySem.W.kia_one (PySem.W.kitx_exc (by rw [hcd]; rfl) C.hg C.hk C.hs C.ha C.hn C.ht C.hm) I.kIn J hk (fun z => nomatch z) fun tk => ⟨.bl b, H, I.tok tk, rfl, q⟩
theorem we_xisi {i : Nat} {x : Str} {b : Expr} {pp px pos : Pos} {e : Addr × Addr × Xd} {P : D → Prop} {ex : Xd → Prop} (nb : NB c.X.mg) (hx : HX c e) (C : ExcC c.X.K (cls e.2.2.c)) (hN : c.X.N[i]? = some x) (hρ : ρ[i]? = some (some (.exc e)))
    (h : WE c b ρ (fun d => ∃ u bb, clV cls d = some u ∧ PySem.W.kitOne c.X.K (.ref (cls e.2.2.c)) u = some bb ∧ P (.bl bb)) ex) (hv : Vis c.X.env.scope x := by first | exact Or.inl rfl | exact Or.inr (Or.inl rfl) | exact Or.inr (Or.inr rfl))
    (hd : (x == ("__debug__" : Str)) = false := by decide) (hcd : (x == ("__classdict__" : Str)) = false := by decide)
    (hp : PE c.X (.Call (.Name "isinstance" pp) [.Name x px, b] [] pos) (tCB (rXisi c e) (tCons (tVar i) (tCons (tU c b) tNil))) := by exact pe_callB (call_xisi (by assumption) (by assumption)) (by rfl) ((by assumption : NB _) _ (by decide)) (by decide +kernel) (pa_cons (pe_var (by assumption) (by assumption) (by assumption) (by assumption)) (pa_cons (peU _ _) pa_nil))) :
    WE c (.Call (.Name "isinstance" pp) [.Name x px, b] [] pos) ρ P ex :=
  we_of hp fun σ H R E S pa y => by
    obtain ⟨v, h1, h2⟩ := S.exc i e hρ
    refine ⟨v, h1, tU.mk h S pa y fun v2 H1 ⟨d, g1, ok1, q1, u, bb, hu, hk, hp⟩ => ?_⟩
    obtain ⟨e1, fs, hr, hH, _⟩ := h2.grow S.ndr g1
    subst e1
    exact ⟨v2, u, bb, rfl, clV_ok q1 hu, ⟨fs, hH⟩, hk, .bl bb, g1, ok1, .bl bb, hp⟩
/-- n.f -/
theorem we_xfld {i : Nat} {x f : Str} {px pos : Pos} {e : Addr × Addr × Xd} {d : D} {P : D → Prop} {ex : Xd → Prop} (hx : HX c e) (T : XfC c.X.K (cls e.2.2.c)) (no : PySem.W.findIn c.X.K (.ref (cls e.2.2.c)) f = some none) (hN : c.X.N[i]? = some x) (hρ : ρ[i]? = some (some (.exc e)))
    (hl : e.2.2.fs.lookup f = some d) (h : P d) (hv : Vis c.X.env.scope x := by first | exact Or.inl rfl | exact Or.inr (Or.inl rfl) | exact Or.inr (Or.inr rfl))
    (hd : (x == ("__debug__" : Str)) = false := by decide) (hcd : (x == ("__classdict__" : Str)) = false := by decide) (hab : attributeBase (.Name x px) f c.X.env (eval (.Name x px) c.X.env) = eval (.Name x px) c.X.env := by rfl) : WE c (.Attribute (.Name x px) f pos) ρ P ex := by
  refine ⟨fun pins s σ H R E I S pa y => ?_⟩
  obtain ⟨v, h1, h2⟩ := S.exc i e hρ
  obtain ⟨oe, vs, hm, _, hz, hda⟩ := hx
  refine attr_of hab (thn ((pe_var (pos := px) hN hv hd hcd).run pins s σ H (fun v' H' => v' = v ∧ H' = H) I ⟨v, h1, rfl, rfl⟩) fun u s1 ⟨v', H1, I1, rv, ev, eH⟩ => ?_)
  subst ev
  rw [eH] at I1
  obtain ⟨e1, fs, hr, hH, qf⟩ := h2
  subst e1
  cases (show u = Value.ref e.1 from rv)
  obtain ⟨w, hw, qw⟩ := qf.lookup hl
  have get := (I1.pin (e.1, oe) (List.mem_append_left _ hm)).1
  have own : ObjOk c.X.prog c.X.w H s1.heap e.2.1 (.xd fs) := I1.hok _ _ hH
  obtain ⟨mA, hns, rel⟩ := own
  obtain ⟨od, ho, hlook⟩ := lookIn_ns hns
  obtain ⟨uu, hu, ru⟩ := RelO.some_of (v := w) (o := mA f) (by rw [← hw]; exact rel f)
  have J : PySem.W.InstAt s1.heap e.1 oe (cls e.2.2.c) (some od) := { at_ := get, cls := hz.1, no := (by unfold PySem.W.notCls; rw [hda] <;> rfl), dict := (by rw [hz.2.1]; exact ho) }
  exact PySem.HandSPX.exc_get I1.kIn J T.ga T.gg T.exC (PySem.W.findObj_own T.hdC no rfl (by rw [hlook, hu])) (handed_of ru) ⟨w, H, I1.tok _, ru, d, Gr.refl, S.ok, qw.grow S.ndr Gr.refl, h⟩
end

/-! ### a def that is handed the exception -/
structure FnP (P : Program) (w : World) (K : PySem.W.Frag) (mg : Str → Option Value) (base : Heap) (CX : CXT) (k : Nat) (f : Addr) (fd : FuncData) (ps : List Str) (sp : Addr × Obj → Sp) : Prop where
  len : ∀ p vs H Q E, sp p vs H Q E → vs.length = ps.length
  run : ∀ (A : Around) (outer : List Env) (s : Shared) (H : Hp) (args : Args) (us : List Value) (vs : List V) (Q : VK) (E : XK) (p : Addr × Obj), RoomH k A → Hot1 A p → PinOk outer H s p → Env0 P w K mg base A outer s H → BindsTo s fd args (ps.zip us) → Vals vs us → sp p vs H Q E →
    codeAny (model P w) A (.call (.ref f) args) (CR CX outer P w H s Q E) s
abbrev FXd := Xd → (D → Prop) → Prop
def spTold (cls : Nat → Addr) (fx : FXd) : Addr × Obj → Sp := fun p vs H Q _ => ∃ (W : Wd cls) (R : Addr → Prop) (dd : Addr) (x : Xd) (rt : D → Prop), vs = [.ref p.1] ∧ W.nd R ∧ W.ok H ∧ L2N.Zn (.ref (cls x.c)) (some dd) p.2 ∧ (∃ ws, p.2.data = .fields ws) ∧
  Xq W R H (.ref p.1) (p.1, dd, x) ∧ fx x rt ∧ ∀ v d H', Gr W H H' → W.ok H' → Dq W (Nw R H) H' v d → rt d → Q v H'
section
variable {P : Program} {w : World} {K : PySem.W.Frag} {mg : Str → Option Value} {base : Heap}
theorem okP {CX : CXT} {x qual : Str} {st : Stmt} {f : Addr} {fd : FuncData} {N ps : List Str} {k : Nat} {sp : Addr × Obj → Sp} (F : Fun K x qual st f fd) (S : FnScope N ps (defScope st)) (len : ∀ p vs H Q E, sp p vs H Q E → vs.length = ps.length)
    (bd : ∀ (cdv : Value) (A : Around) (outer : List Env) (s : Shared) (H : Hp) (vs : List V) (Q : VK) (E : XK) (p : Addr × Obj), Hot1 A p → RoomH k (A.deeper (envOfC qual (defScope st) s.heap.objs.size f cdv)) → sp p vs H Q E →
      ∃ t, PSs (cxH CX P w K mg base N qual (defScope st) f cdv A outer s H E p) (defBody st) t ∧ t { nx := fun _ H' => Q .non H', rt := Q } (L2.start N vs) H) : FnP P w K mg base CX (k + 1) f fd ps sp := by
  have ⟨_, _, _, _, _, _, cdv, _, _, e, lk, hc⟩ := F.ex
  cases e
  refine ⟨len, fun A outer s H args us vs Q E p room hot pin env bnd rv pr => ?_⟩
  have kin : K.In s.heap := env.mod.kin.keeps fun b o z => (env.bs b o z).1
  have lims : s.heap.NoLimit := env.mod.nolimit.keeps fun b o z => (env.bs b o z).1
  have kinds : ∀ y ∈ ps.zip us, (defScope st).names.lookup y.1 = some .local ∨ ((defScope st).names.lookup y.1 = some .cell ∧ ((cellsFrom (s.heap.objs.size + 1) (defScope st).names []).lookup y.1).isSome = true) := by
    rintro ⟨n, v⟩ hy
    exact (S.par n (List.of_mem_zip hy).1).imp id fun z => ⟨z, PySem.W.cellsFrom_some _ _ _ (.inl z)⟩
  refine codeAny_call_function room.depth (kin _ _ lk) rfl S.co S.gen rfl (PySem.W.codeRec_of kin hc) (bnd _ _ _ _ (wpAny_newFunctionEnv_cells S.kind kinds fun en he s1 ic => ?_))
  subst he
  refine ⟨lims.keeps ic.toInCall.keep, codeAny_func ?_⟩
  have ⟨t, ht, hq⟩ := bd cdv A outer s H vs Q E p hot (room.deeper _) pr
  have I := inv_startH (CX := CX) (P := P) (w := w) (mg := mg) (base := base) (E := E) S pin env (len _ _ _ _ _ pr) rv ic
  refine wpAny_mono (ht.run [] s1 (L2.start N vs) H _ I hq) (fun fl s' hs => ?_) fun _ _ z => z
  cases fl with
  | ret u =>
    have ⟨v, σ', H', J, r, q⟩ := hs
    exact ⟨v, H', J.os, J.bare, J.base, J.hok, r, q⟩
  | next =>
    have ⟨σ', H', J, q⟩ := hs
    exact ⟨.non, H', J.os, J.bare, J.base, J.hok, rfl, q⟩
  | brk =>
    have ⟨_, _, _, no⟩ := hs
    exact no.elim
  | cont =>
    have ⟨_, _, _, no⟩ := hs
    exact no.elim
theorem told_ok {x qual y : Str} {st : Stmt} {f : Addr} {fd : FuncData} {N : List Str} {fx : FXd} (F : Fun K x qual st f fd) (S : FnScope N [y] (defScope st))
    (body : ∀ (cdv : Value) (A : Around) (outer : List Env) (s : Shared) (H : Hp) (E : XK) (W : Wd cls) (R : Addr → Prop) (p : Addr × Obj) (dd : Addr) (xx : Xd) (rt : D → Prop), fx xx rt →
      HX (⟨cxH (L2N.CX P w) P w K mg base N qual (defScope st) f cdv A outer s H E p, W, R, H⟩ : Cy cls) (p.1, dd, xx) →
      WSs (⟨cxH (L2N.CX P w) P w K mg base N qual (defScope st) f cdv A outer s H E p, W, R, H⟩ : Cy cls) (defBody st) (some (.exc (p.1, dd, xx)) :: List.replicate (N.length - 1) none) { nx := fun _ => rt .non, rt := fun _ => rt }) :
    FnP P w K mg base (L2N.CX P w) 1 f fd [y] (spTold cls fx) := by
  refine okP F S (fun p vs H Q E h => ?_) (fun cdv A outer s H vs Q E p hot room h => ?_)
  · obtain ⟨_, _, _, _, _, rfl, _⟩ := h
    rfl
  · obtain ⟨W, R, dd, xx, rt, rfl, nd, ok, hz, ⟨ws, hd⟩, hq, hf, k⟩ := h
    have h1 : 1 ≤ N.length := by
      have z := congrArg List.length S.pre
      rw [List.length_take] at z
      have z2 : ([y] : List Str).length = 1 := rfl
      rw [z2] at z
      omega
    have S0 : Sl (⟨cxH (L2N.CX P w) P w K mg base N qual (defScope st) f cdv A outer s H E p, W, R, H⟩ : Cy cls) R H (L2.start N [.ref p.1]) (some (.exc (p.1, dd, xx)) :: List.replicate (N.length - 1) none) := by
      have base := (Sl.start (c := (⟨cxH (L2N.CX P w) P w K mg base N qual (defScope st) f cdv A outer s H E p, W, R, H⟩ : Cy cls)) (N := N) (vs := [.non]) (ds := [.non]) nd ok (.cons .non .nil)).setExc (i := 0) hq
      exact base
    refine ⟨_, pssU (⟨cxH (L2N.CX P w) P w K mg base N qual (defScope st) f cdv A outer s H E p, W, R, H⟩ : Cy cls) _, _, R, fun _ => E, { nx := fun _ => rt .non, rt := fun _ => rt }, S0, L2N.takes_of rfl rfl rfl rfl, ⟨fun R' H' σ ρ S _ h => ?_, fun R' H' σ ρ v d S q h => k v d H' S.gr S.ok (q.wide S.sub) h, fun _ _ _ _ _ _ z => z.elim, fun _ _ _ _ _ _ z => z.elim⟩, fun R' H' σ ρ x kk d S a h => h.elim, body cdv A outer s H E W R p dd xx rt hf ⟨p.2, ws, List.mem_singleton.mpr rfl, hot, hz, hd⟩⟩
    exact k .non .non H' S.gr S.ok .non h
/-- such a def under its name -/
structure Dh (P : Program) (w : World) (K : PySem.W.Frag) (mg : Str → Option Value) (base : Heap) (cls : Nat → Addr) (x : Str) (fx : FXd) : Prop where
  ex : ∃ f fd y, FnP P w K mg base (L2N.CX P w) 1 f fd [y] (spTold cls fx) ∧ mg x = some (.ref f) ∧ PySem.W.keepIn K (.ref f) = true ∧ Binds K fd [y] []
end

section
variable {c : Cy cls} {R : Addr → Prop} {H H' : Hp} {σ : L2.St} {ρ : Rho}
/-- g(n), n the exception that is handled here -/
theorem we_told {i : Nat} {x n : Str} {p px pos : Pos} {e : Addr × Addr × Xd} {fx : FXd} {P : D → Prop} {ex : Xd → Prop} (hx : HX c e) (d : Dh c.X.prog c.X.w c.X.K c.X.mg c.X.base cls x fx) (room : RoomH 1 c.X.A) (hN : c.X.N[i]? = some n) (hρ : ρ[i]? = some (some (.exc e))) (h : fx e.2.2 P)
    (hg : Gl c.X x := by rfl) (hv : Vis c.X.env.scope n := by first | exact Or.inl rfl | exact Or.inr (Or.inl rfl) | exact Or.inr (Or.inr rfl)) (hd : (n == ("__debug__" : Str)) = false := by decide) (hcd : (n == ("__classdict__" : Str)) = false := by decide) (hdb : (x == ("__debug__" : Str)) = false := by decide)
    (he : starEach [.Name n px] c.X.env = (false, eval (.Name n px) c.X.env) :: starEach [] c.X.env := by rfl) (hpl : (backTo pos (starEach [] c.X.env)).any (·.1) = false := by rfl) : WE c (.Call (.Name x p) [.Name n px] [] pos) ρ P ex := by
  refine ⟨fun pins s σ H R E I S pa y => ?_⟩
  obtain ⟨f, fd, yy, F, hm, hk, hb⟩ := d.ex
  obtain ⟨oe, ws, hmem, hot, hz, hda⟩ := hx
  obtain ⟨v, h1, h2⟩ := S.exc i e hρ
  refine wpAny_Call_Name_kw (ld_glob I hg hm ?_ hdb)
  have args : PA c.X [.Name n px] (tCons (tVar i) tNil) := pa_cons (pe_var hN hv hd hcd) pa_nil
  refine PySem.W.callWith_K (h₀ := c.X.base) I.ok.mod.kin hk (thn (args.run pos pins s σ H (fun vs H1 => vs = [v] ∧ H1 = H) I ⟨v, h1, rfl, rfl⟩) fun us s1 ⟨vs, H1, I1, rv, ev, eH⟩ => ⟨I1.kIn, ?_⟩) he hpl
  subst ev
  rw [eH] at I1
  have e1 : v = .ref e.1 := h2.1
  subst e1
  have P1 := I1.pin (e.1, oe) (List.mem_append_left _ hmem)
  have pin : PinOk c.X.stack H s1 (e.1, oe) := ⟨P1.1, P1.2.1, fun z => (List.mem_cons.mp (I1.stkSub e.1 z)).elim P1.2.2.1 P1.2.2.2.1, P1.2.2.2.2⟩
  have sp : spTold cls fx (e.1, oe) [.ref e.1] H (Fin c R H P) E0 := ⟨c.W, R, e.2.1, e.2.2, P, rfl, S.ndr, S.ok, hz, ⟨ws, hda⟩, h2, h, fun v d H2 g ok q hp => ⟨d, g, ok, q, hp⟩⟩
  have ul : us.length = [yy].length := (Paired.length rv).symm
  have bd := hb s1 us I1.kIn (by rw [List.append_nil]; exact ul)
  rw [List.append_nil] at bd
  refine wpAny_call (codeAny_mono (F.run c.X.A c.X.stack s1 H ⟨us, []⟩ us [.ref e.1] _ E0 (e.1, oe) room hot pin I1.env0 bd rv sp) fun res s' done => ?_)
  rcases res with er | fl
  · exact passAll pins H s1 er s' I1 done
  · cases fl with
    | ret u => exact I1.after done
    | next => exact False.elim done
    | brk => exact False.elim done
    | cont => exact False.elim done

/-! ### try: body, except C as n: suite that returns -/
abbrev Cy.tr (c : Cy cls) (pn : List (Addr × Obj)) (xe : Value → Shared → Prop) : Cy cls := { c with X := c.X.tr pn xe }
abbrev Cy.suite (c : Cy cls) (a : Addr) (pn : List (Addr × Obj)) : Cy cls := { c with X := c.X.suite a pn }
theorem Sl.re {X' : Cx} (S : Sl c R H σ ρ) : Sl { c with X := X' } R H σ ρ := ⟨S.ndr, S.ok, S.ok0, S.gr, S.sub, S.len, S.val, S.lst, S.sep, S.ob, S.exc⟩
theorem Sl.un {X' : Cx} (S : Sl { c with X := X' } R H σ ρ) : Sl c R H σ ρ := ⟨S.ndr, S.ok, S.ok0, S.gr, S.sub, S.len, S.val, S.lst, S.sep, S.ob, S.exc⟩
theorem ws_try (i : Nat) {x n : Str} {body suite : List Stmt} {b₀ : Stmt} {np pos pos' : Pos} {kx : Nat} {p : Po} (hN : c.X.N.Nodup) (hi : c.X.N[i]? = some n) (nm : c.X.mg x = some (.ref (cls kx)))
    (hb : ∀ pn xe, PassesOwn (model c.X.prog c.X.w) c.X.A c.X.env xe → WSs (c.tr pn xe) body ρ { p with ex := fun ρ' y => ∃ b, PySem.W.exmOne c.X.K (.ref (cls y.c)) (.ref (cls kx)) = some b ∧ (b = false → p.ex ρ' y) ∧
      (b = true → ∀ a dd oe pn, HX (c.suite a ((a, oe) :: pn)) (a, dd, y) → WSs (c.suite a ((a, oe) :: pn)) (b₀ :: suite) (ρ'.set i (some (.exc (a, dd, y)))) { nx := fun _ => False, rt := p.rt }) })
    (hs : c.X.stack = c.X.env :: c.X.outer := by rfl) (hf : c.X.env.frame = some c.X.env.locals := by rfl) (hln : c.X.env.kindOf n = some .local := by rfl) (hg : Gl c.X x := by rfl) (hdb : (x == ("__debug__" : Str)) = false := by decide) :
    WS c (.Try body [.ExceptHandler (some (.Name x np)) (some n) (b₀ :: suite) pos'] [] [] pos) ρ p := by
  refine ⟨fun pins s σ H R Ds E I S ps en xx => ?_⟩
  have nms : Names c.X x (.ref (cls kx)) := ⟨hg, hdb, .inl nm⟩
  refine (L2N.ps_try_as (i := i) (Wout := fun k d σ H => E σ k d H) (tb := fun W D σ H => ∃ (ρ : Rho) (R : Addr → Prop) (p' : Po), Sl c R H σ ρ ∧ EndsOk c R H D p' ∧ ExS c (fun σ k d H => W k d σ H) p'.ex ∧ ∀ pn xe, PassesOwn (model c.X.prog c.X.w) c.X.A c.X.env xe → WSs (c.tr pn xe) body ρ p')
    (ts := fun a k d D σ H => ∃ (ρ : Rho) (R : Addr → Prop) (p' : Po), Sl c R H σ ρ ∧ EndsOk c R H D p' ∧ (∀ ρ y, ¬ p'.ex ρ y) ∧ ∀ oe pn, L2N.Zn k d oe → (∃ vs, oe.data = .fields vs) → WSs (c.suite a ((a, oe) :: pn)) (b₀ :: suite) ρ p') hs hf hN hi hln nms ps ?_ ?_).run pins s σ H Ds I ?_
  · intro W pn xe tk po
    refine ⟨fun pins s σ H D I ⟨ρ, R, p', S, en, xs, w⟩ => (w pn xe po).run pins s σ H R D (fun σ k d H => W k d σ H) I S.re tk ⟨fun R H σ ρ S k h => en.nx R H σ ρ S.un k h, fun R H σ ρ v d S q h => en.rt R H σ ρ v d S.un q h, fun R H σ ρ S k h => en.bk R H σ ρ S.un k h, fun R H σ ρ S k h => en.ct R H σ ρ S.un k h⟩ fun R H σ ρ y k d S a h => xs R H σ ρ y k d S.un a h⟩
  · intro a oe k d pn hz hd
    have tk : L2N.Takes (c.X.suite a ((a, oe) :: pn)) (fun _ _ _ _ => False) := fun u s' z => by
      obtain ⟨_, _, _, _, _, _, _, _, _, _, _, _, _, _, _, _, no⟩ := z
      exact no.elim
    refine ⟨fun pins s σ H D I ⟨ρ, R, p', S, en, no, w⟩ => (w oe pn hz hd).run pins s σ H R D (fun _ _ _ _ => False) I S.re tk ⟨fun R H σ ρ S k h => en.nx R H σ ρ S.un k h, fun R H σ ρ v d S q h => en.rt R H σ ρ v d S.un q h, fun R H σ ρ S k h => en.bk R H σ ρ S.un k h, fun R H σ ρ S k h => en.ct R H σ ρ S.un k h⟩ fun R H σ ρ y k d S a h => no _ _ h⟩
  · refine ⟨ρ, R, { p with ex := fun ρ' y => ∃ b, PySem.W.exmOne c.X.K (.ref (cls y.c)) (.ref (cls kx)) = some b ∧ (b = false → p.ex ρ' y) ∧
      (b = true → ∀ a dd oe pn, HX (c.suite a ((a, oe) :: pn)) (a, dd, y) → WSs (c.suite a ((a, oe) :: pn)) (b₀ :: suite) (ρ'.set i (some (.exc (a, dd, y)))) { nx := fun _ => False, rt := p.rt }) }, S, ⟨en.nx, en.rt, en.bk, en.ct⟩, fun R1 H1 σ1 ρ1 y k d S1 a1 h1 => ?_, hb⟩
    obtain ⟨b, e1, h2, h3⟩ := h1
    have a1' := a1
    obtain ⟨ek, dd, fs, ed, hH, hr, qf⟩ := a1'
    subst ek
    refine ⟨b, e1, fun eb a na => ⟨_, R1, { nx := fun _ => False, rt := p.rt }, S1.setExc (i := i) (v := .ref a) (e := (a, dd, y)) ⟨rfl, fs, hr, hH, qf⟩, ⟨fun _ _ _ _ _ _ z => z.elim, en.rt, fun _ _ _ _ _ _ z => z.elim, fun _ _ _ _ _ _ z => z.elim⟩, fun _ _ z => z, fun oe pn hz hd => ?_⟩, fun eb => xx R1 H1 σ1 ρ1 y _ d S1 a1 (h2 eb)⟩
    obtain ⟨ws, hd⟩ := hd
    subst ed
    exact h3 eb a dd oe pn ⟨oe, ws, List.mem_cons_self, ⟨rfl, ws, hd, hz.2.2 ws hd⟩, hz, hd⟩
end
end Vl
end
section
set_option maxHeartbeats 4000000
namespace Vl
open PySem PySem.Spec PyProof.Rows L2
variable {cls : Nat → Addr}

/-! ### what a comprehension gives -/
theorem acc_ix {items acc : List D} {g : Nat → D → D} (h1 : acc.length = items.length) (h2 : ∀ (i : Nat) d y, items[i]? = some d → acc[i]? = some y → y = g i d) : acc = items.zipIdx.map fun p => g p.2 p.1 := by
  apply List.ext_getElem?
  intro i
  rw [List.getElem?_map, List.getElem?_zipIdx]
  cases e : items[i]? with
  | none =>
    rw [List.getElem?_eq_none_iff] at e
    rw [List.getElem?_eq_none (by omega)]
    rfl
  | some d =>
    have hi : i < acc.length := by
      have := (List.getElem?_eq_some_iff.mp e).1
      omega
    have z := h2 i d _ e (List.getElem?_eq_getElem hi)
    rw [List.getElem?_eq_getElem hi, z]
    simp
theorem acc_map {items acc : List D} {g : D → D} (h1 : acc.length = items.length) (h2 : ∀ (i : Nat) d y, items[i]? = some d → acc[i]? = some y → y = g d) : acc = items.map g := by
  apply List.ext_getElem?
  intro i
  rw [List.getElem?_map]
  cases e : items[i]? with
  | none =>
    rw [List.getElem?_eq_none_iff] at e
    rw [List.getElem?_eq_none (by omega)]
    rfl
  | some d =>
    have hi : i < acc.length := by
      have := (List.getElem?_eq_some_iff.mp e).1
      omega
    rw [List.getElem?_eq_getElem hi, h2 i d _ e (List.getElem?_eq_getElem hi)]
    rfl
theorem acc_range {n : Nat} {acc : List D} {g : Nat → D} (h1 : acc.length = (rangeD 0 n).length) (h2 : ∀ (i : Nat) d y, (rangeD 0 n)[i]? = some d → acc[i]? = some y → y = g i) : acc = (List.range n).map g := by
  rw [rangeD_length] at h1
  apply List.ext_getElem?
  intro i
  rw [List.getElem?_map]
  by_cases hi : i < n
  · have e : (rangeD 0 n)[i]? = some (.int (i : Nat)) := by
      unfold rangeD
      rw [List.getElem?_map, List.getElem?_range hi]
      simp
    have hj : i < acc.length := by omega
    rw [List.getElem?_eq_getElem hj, h2 i _ _ e (List.getElem?_eq_getElem hj), List.getElem?_range hi]
    rfl
  · rw [List.getElem?_eq_none (by omega), List.getElem?_eq_none (by simp; omega)]
    rfl
theorem enum_get {xs : List D} {i : Nat} {d : D} (h : (enumD xs)[i]? = some d) : ∃ x, xs[i]? = some x ∧ d = .tup [.int (i : Nat), x] := by
  rw [enumD_get] at h
  cases e : xs[i]? with
  | none => rw [e] at h; cases h
  | some x =>
    rw [e] at h
    cases h
    exact ⟨x, rfl, rfl⟩
theorem signs_get {z : Str} {i : Nat} {d : D} (h : (signs z)[i]? = some d) : ∃ n, z.cps.toList[i]? = some n ∧ d = .str ⟨#[n]⟩ := by
  unfold signs at h
  rw [List.getElem?_map] at h
  cases e : z.cps.toList[i]? with
  | none => rw [e] at h; cases h
  | some n =>
    rw [e] at h
    cases h
    exact ⟨n, rfl, rfl⟩
theorem signs_len {z : Str} : (signs z).length = z.length := by
  unfold signs
  rw [List.length_map]
  rfl

theorem ixN_nat {n i : Nat} (h : i < n) : L2.ixN n (i : Int) = some i := by
  unfold L2.ixN
  first
    | (rw [if_pos (by omega)]; simp [h])
    | (simp; omega)
    | (split <;> simp_all <;> omega)
theorem atI_nat {α : Type} {l : List α} {i : Nat} {a : α} (h : l[i]? = some a) : L2.atI l (i : Int) = some a := by
  have hi : i < l.length := (List.getElem?_eq_some_iff.mp h).1
  unfold L2.atI
  rw [ixN_nat hi]
  exact h
theorem item_str {z : Str} {i n : Nat} (hz : z.length ≤ 1000000) (h : z.cps.toList[i]? = some n) : itemD (.str z) (i : Int) = some (.str ⟨#[n]⟩) := by
  have hz' : z.length ≤ sizeLine := Nat.le_trans hz (by rw [sizeLine_eq]; omega)
  simp only [itemD, if_pos hz', atI_nat h, Option.map_some]
theorem item_lst {xs : List D} {i : Nat} {d : D} (h : xs[i]? = some d) : itemD (.lst xs) (i : Int) = some d := atI_nat h
theorem item_tup {xs : List D} {i : Nat} {d : D} (h : xs[i]? = some d) : itemD (.tup xs) (i : Int) = some d := atI_nat h
theorem len_str {z : Str} (hz : z.length ≤ 1000000) : lenD (.str z) = some z.length := by
  have hz' : z.length ≤ sizeLine := Nat.le_trans hz (by rw [sizeLine_eq]; omega)
  simp [lenD, hz']

/-- the place of a sign -/
theorem occ_one {x : Str} {n : Nat} (h : n ∈ x.cps.toList) : ∃ rest, Builtin.Str.occurrences x ⟨#[n]⟩ 0 x.length 1 = x.cps.toList.idxOf n :: rest := by
  rcases PySem.StrLaws.occ_head x ⟨#[n]⟩ 1 (Nat.le_refl 1) with ⟨_, no⟩ | ⟨i, r, e, at_, first⟩
  · obtain ⟨i, hi⟩ := List.getElem?_of_mem h
    exact absurd ((PySem.StrLaws.subAt_one x n i).mpr hi) (no i)
  · have hi := (PySem.StrLaws.subAt_one x n i).mp at_
    obtain ⟨lt, eq⟩ := List.getElem?_eq_some_iff.mp hi
    have : x.cps.toList.idxOf n = i := by
      unfold List.idxOf
      rw [List.findIdx_eq lt]
      refine ⟨by rw [eq]; simp, fun j hj => ?_⟩
      have := first j hj
      have hne : x.cps.toList[j]? ≠ some n := fun z => this ((PySem.StrLaws.subAt_one x n j).mpr z)
      rw [List.getElem?_eq_getElem (by omega)] at hne
      simp only [beq_eq_false_iff_ne, ne_eq]
      intro z
      exact hne (by rw [z])
    rw [this]
    exact ⟨r, e⟩

/-! ### plain data of a bounded depth -/
def atomD : D → Bool
  | .non => true
  | .bl _ => true
  | .int _ => true
  | .str z => decide (z.length ≤ 1000000)
  | _ => false
def okD : Nat → D → Prop
  | 0, d => atomD d = true
  | n + 1, d => atomD d = true ∨ ∃ xs, (d = .lst xs ∨ d = .tup xs) ∧ xs.length ≤ 1000000 ∧ ∀ x ∈ xs, okD n x
theorem okD_up : ∀ {n : Nat} {d : D}, okD n d → okD (n + 1) d
  | 0, _, h => .inl h
  | n + 1, _, .inl h => .inl h
  | n + 1, _, .inr ⟨xs, h1, h2, h3⟩ => .inr ⟨xs, h1, h2, fun x hx => okD_up (h3 x hx)⟩
theorem okD_le {n m : Nat} (h : n ≤ m) {d : D} (k : okD n d) : okD m d := by
  induction h with
  | refl => exact k
  | step _ ih => exact okD_up ih
theorem okD_atom {n : Nat} {d : D} (h : atomD d = true) : okD n d := by
  cases n with
  | zero => exact h
  | succ n => exact .inl h
theorem atom_dat {d : D} (h : atomD d = true) : dat d = true := by
  cases d <;> first | rfl | exact Bool.noConfusion h
theorem okD_dat {n : Nat} {d : D} (h : okD n d) : dat d = true := by
  cases n with
  | zero => exact atom_dat h
  | succ n =>
    rcases h with h | ⟨xs, h | h, _⟩
    · exact atom_dat h
    · rw [h]; rfl
    · rw [h]; rfl
/-- plain data of some depth -/
def okX (d : D) : Prop := ∃ n, okD n d
theorem okX_dat {d : D} (h : okX d) : dat d = true := let ⟨_, h⟩ := h; okD_dat h
theorem okX_seq {d : D} {xs : List D} (e : d = .lst xs ∨ d = .tup xs) (h : okX d) : xs.length ≤ 1000000 ∧ ∀ x ∈ xs, okX x := by
  obtain ⟨n, h⟩ := h
  cases n with
  | zero => rcases e with e | e <;> subst e <;> exact Bool.noConfusion (show atomD _ = true from h)
  | succ n =>
    rcases h with h | ⟨ys, h, hl, hy⟩
    · rcases e with e | e <;> subst e <;> exact Bool.noConfusion h
    · have : xs = ys := by rcases e with e | e <;> rcases h with h | h <;> rw [e] at h <;> cases h <;> rfl
      subst this
      exact ⟨hl, fun x hx => ⟨n, hy x hx⟩⟩
theorem okX_str {z : Str} (h : okX (.str z)) : z.length ≤ 1000000 := by
  obtain ⟨n, h⟩ := h
  have key : atomD (.str z) = true → z.length ≤ 1000000 := fun h => of_decide_eq_true h
  cases n with
  | zero => exact key h
  | succ n =>
    rcases h with h | ⟨ys, h, _⟩
    · exact key h
    · rcases h with h | h <;> cases h
mutual
/-- lists and tuples made new: tuples (w = true), lists (w = false) -/
def remk (w : Bool) : D → D
  | .lst xs => if w then .tup (remkL w xs) else .lst (remkL w xs)
  | .tup xs => if w then .tup (remkL w xs) else .lst (remkL w xs)
  | .non => .non
  | .bl b => .bl b
  | .int i => .int i
  | .str z => .str z
  | .ty n => .ty n
  | .cl k => .cl k
  | .obj c fs => .obj c fs
  | .own k => .own k
def remkL (w : Bool) : List D → List D
  | [] => []
  | x :: xs => remk w x :: remkL w xs
end
theorem remkL_map (w : Bool) : ∀ xs : List D, remkL w xs = xs.map (remk w)
  | [] => by rw [remkL]; rfl
  | x :: xs => by rw [remkL, remkL_map w xs]; rfl
abbrev tupled : D → D := remk true
abbrev listed : D → D := remk false
theorem tupled_lst {xs : List D} : tupled (.lst xs) = .tup (xs.map tupled) := by show remk true (.lst xs) = _; rw [remk, remkL_map]; rfl
theorem tupled_tup {xs : List D} : tupled (.tup xs) = .tup (xs.map tupled) := by show remk true (.tup xs) = _; rw [remk, remkL_map]; rfl
theorem listed_lst {xs : List D} : listed (.lst xs) = .lst (xs.map listed) := by show remk false (.lst xs) = _; rw [remk, remkL_map]; rfl
theorem listed_tup {xs : List D} : listed (.tup xs) = .lst (xs.map listed) := by show remk false (.tup xs) = _; rw [remk, remkL_map]; rfl
theorem remk_atom {w : Bool} {d : D} (h : atomD d = true) : remk w d = d := by
  cases d <;> first | exact Bool.noConfusion h | (rw [remk])
theorem okD_remk {w : Bool} : ∀ {n : Nat} {d : D}, okD n d → okD n (remk w d)
  | 0, d, h => by rw [remk_atom h]; exact h
  | n + 1, d, h => by
    rcases h with h | ⟨xs, h, hl, hx⟩
    · rw [remk_atom h]; exact .inl h
    · have ok : ∀ y ∈ xs.map (remk w), okD n y := fun y hy => by
        obtain ⟨x, hx', e⟩ := List.mem_map.mp hy
        rw [← e]
        exact okD_remk (hx x hx')
      have ln : (xs.map (remk w)).length ≤ 1000000 := by rw [List.length_map]; exact hl
      refine .inr ⟨xs.map (remk w), ?_, ln, ok⟩
      rcases h with h | h <;> subst h <;> cases w
      · exact .inl listed_lst
      · exact .inr tupled_lst
      · exact .inl listed_tup
      · exact .inr tupled_tup
end Vl
end
section
set_option maxHeartbeats 4000000
namespace Vl
open PySem PySem.Spec PyProof.Rows L2
variable {cls : Nat → Addr}

/-! ### == of plain data -/
mutual
def pyOf : D → PyData
  | .lst xs => .list (pyOfL xs)
  | .tup xs => .tuple (pyOfL xs)
  | .bl b => .bool b
  | .int i => .int i
  | .str z => .str z
  | .non => .none
  | .ty _ => .none
  | .cl _ => .none
  | .obj _ _ => .none
  | .own _ => .none
def pyOfL : List D → List PyData
  | [] => []
  | x :: xs => pyOf x :: pyOfL xs
end
theorem dp_list {W : Wd cls} {K : PySem.W.Frag} {R : Addr → Prop} {H : Hp} : ∀ {ds : List D} {vs : List V}, (∀ d v, d ∈ ds → Dq W R H v d → L2.Dp K H v (pyOf d)) → DqL W R H vs ds → L2.DpAll K H vs (pyOfL ds)
  | _, _, _, .nil => by rw [pyOfL]; exact .nil
  | _, _, h, .cons q r => by
    rw [pyOfL]
    exact .cons (h _ _ List.mem_cons_self q) (dp_list (fun d v m => h d v (List.mem_cons_of_mem _ m)) r)
theorem dp_of {W : Wd cls} {K : PySem.W.Frag} {R : Addr → Prop} {H : Hp} : ∀ {n : Nat} {d : D} {v : V}, okD n d → Dq W R H v d → L2.Dp K H v (pyOf d) := by
  have atom : ∀ {d : D} {v : V}, atomD d = true → Dq W R H v d → L2.Dp K H v (pyOf d) := fun {d v} h q => by
    cases q <;> first | exact Bool.noConfusion h | (rw [pyOf]; constructor)
  intro n
  induction n with
  | zero => exact fun h q => atom h q
  | succ n ih =>
    intro d v h q
    rcases h with h | ⟨xs, h | h, _, hx⟩
    · exact atom h q
    · subst h
      cases q with
      | lst r e q => rw [pyOf]; exact .lst (sq_l e) (dp_list (fun d v m q => ih (hx d m) q) q)
    · subst h
      cases q with
      | tup r e q => rw [pyOf]; exact .tup (sq_t e) (dp_list (fun d v m q => ih (hx d m) q) q)
/-- what == may be asked about -/
def eqOk (d : D) : Prop := okX d ∧ SeqAt.shaped (pyOf d) = true
abbrev eqB (x y : D) : Bool := PyData.eqv (pyOf x) (pyOf y)
section
variable {c : Cy cls} {R : Addr → Prop} {H H' : Hp} {σ : L2.St} {ρ : Rho}
theorem opd_eqD : OpD c (rEqD c.X.K) (fun x y P => eqOk x ∧ eqOk y ∧ P (.bl (eqB x y))) := fun R H vx vy x y P nd ok qx qy f Q k => by
  obtain ⟨⟨⟨n, h1⟩, s1⟩, ⟨⟨m, h2⟩, s2⟩, h⟩ := f
  exact ⟨_, _, dp_of h1 qx, dp_of h2 qy, s1, s2, k _ _ (Fin.here ok nd (.bl _) h)⟩
theorem we_eqD {a b : Expr} {pos : Pos} {P : D → Prop} {ex : Xd → Prop} (hr : Room 0 c.X.A) (h : WE c a ρ (fun x => WE c b ρ (fun y => eqOk x ∧ eqOk y ∧ P (.bl (eqB x y))) ex) ex) : WE c (.Compare a [.Eq] [b] pos) ρ P ex :=
  we_bin (pe_cmpR (op_eqD (by have := hr.un; omega)) (peU c a) (peU c b) (nomark _)) opd_eqD h
end
theorem py_ints : ∀ ns : List Int, PyData.canLayAll0 (pyOfL (ns.map D.int)) = true ∧ PyData.depthAll (pyOfL (ns.map D.int)) = 0
  | [] => by rw [List.map_nil, pyOfL]; exact ⟨rfl, rfl⟩
  | n :: ns => by
    rw [List.map_cons, pyOfL, pyOf]
    obtain ⟨h1, h2⟩ := py_ints ns
    simp only [PyData.canLayAll0, PyData.canLay0, h1, PyData.depthAll, PyData.depth, h2]
    exact ⟨rfl, rfl⟩
theorem eqv_ints : ∀ ns ms : List Int, PyData.eqvAll (pyOfL (ns.map D.int)) (pyOfL (ms.map D.int)) = decide (ns = ms)
  | [], [] => by rw [List.map_nil, pyOfL]; rfl
  | [], m :: ms => by rw [List.map_nil, List.map_cons, pyOfL, pyOfL]; simp [PyData.eqvAll]
  | n :: ns, [] => by rw [List.map_nil, List.map_cons, pyOfL, pyOfL]; simp [PyData.eqvAll]
  | n :: ns, m :: ms => by
    rw [List.map_cons, List.map_cons, pyOfL, pyOfL, pyOf, pyOf]
    simp only [PyData.eqvAll, PyData.eqv, eqv_ints ns ms]
    rw [Bool.eq_iff_iff]
    simp
theorem okX_atom {d : D} (h : atomD d = true) : okX d := ⟨0, h⟩
theorem okD_ints {n : Nat} {ns : List Int} : ∀ x ∈ ns.map D.int, okD n x := fun x h => by
  obtain ⟨i, _, rfl⟩ := List.mem_map.mp h
  exact okD_atom rfl
section
variable {c : Cy cls} {ρ : Rho}
/-- whether a datum counts as true -/
def truD : D → Option Bool
  | .bl b => some b
  | .lst xs => some !xs.isEmpty
  | .tup xs => some !xs.isEmpty
  | .non => some false
  | .int i => some (i != 0)
  | .str z => if z.length ≤ 1000000 then some ((z.length : Int) != 0) else none
  | _ => none
theorem dql_empty {W : Wd cls} {R : Addr → Prop} {H : Hp} {vs : List V} {ds : List D} (q : DqL W R H vs ds) : vs.isEmpty = ds.isEmpty := by
  cases q <;> rfl
theorem wt_truth {a : Expr} {P : Bool → Prop} {ex : Xd → Prop} (h : WE c a ρ (fun d => ∃ b, truD d = some b ∧ P b) ex) (he : ∀ whole, isTrue a c.X.env whole = (do let v ← whole; standAt a.pos; holding [v] (truthy v)) := by exact fun _ => rfl) : WT c a ρ P ex :=
  wt_of (pt_truth (peU c a) he) fun σ H R E S p x => tU.mk h S p x fun v H1 ⟨d, g, ok, q, b, hb, hp⟩ => by
    refine ⟨b, ?_, g, ok, hp⟩
    cases q with
    | bl k => cases hb; exact rfl
    | non => cases hb; exact rfl
    | int i => cases hb; exact rfl
    | str z =>
      have hb : (if z.length ≤ 1000000 then some ((z.length : Int) != 0) else none) = some b := hb
      by_cases hz : z.length ≤ 1000000
      · rw [if_pos hz] at hb
        cases hb
        exact ⟨Nat.le_trans hz (by rw [sizeLine_eq]; omega), rfl⟩
      · rw [if_neg hz] at hb
        cases hb
    | lst r e q => cases hb; exact .inl ⟨_, sq_l e, by rw [dql_empty q]⟩
    | tup r e q => cases hb; exact .inr (.inl ⟨_, sq_t e, by rw [dql_empty q]⟩)
    | _ => cases hb
end
end Vl
end
section
set_option maxHeartbeats 4000000
namespace Vl
open PySem PySem.Spec PyProof.Rows L2
variable {cls : Nat → Addr}

/-! ### an own list, read and written -/
section
variable {c : Cy cls} {R : Addr → Prop} {H H' : Hp} {σ : L2.St} {ρ : Rho}
/-- own[b] -/
theorem we_oix {i : Nat} {x : Str} {b : Expr} {npos pos : Pos} {ds : List D} {P : D → Prop} {ex : Xd → Prop} (hN : c.X.N[i]? = some x) (hρ : ρ[i]? = some (some (.lst ds))) (h : WE c b ρ (fun y => ∃ j d, y = .int j ∧ L2.atI ds j = some d ∧ P d) ex)
    (hv : Vis c.X.env.scope x := by first | exact Or.inl rfl | exact Or.inr (Or.inl rfl) | exact Or.inr (Or.inr rfl)) (hd : (x == ("__debug__" : Str)) = false := by decide) (hcd : (x == ("__classdict__" : Str)) = false := by decide) (hp : PlainIx b := by exact fun _ _ => rfl) : WE c (.Subscript (.Name x npos) b pos) ρ P ex :=
  we_of (pe_ix ix_seq (pe_var hN hv hd hcd) (peU c b) hp) fun σ H R E S p y => by
    obtain ⟨a, vs, h1, h2, h3, h4, h5⟩ := S.lst i ds hρ
    refine ⟨.ref a, h1, tU.mk h S p y fun v H1 ⟨dj, g, ok, q, j, d, e, hj, hp⟩ => ?_⟩
    subst e
    cases q
    have S1 := S.grow g ok
    obtain ⟨a', vs', g1, g2, g3, g4, g5⟩ := S1.lst i ds hρ
    rw [h1] at g1
    cases g1
    obtain ⟨w, w1, w2⟩ := g5.atI hj
    exact .inl ⟨a, vs', j, w, rfl, rfl, sq_l g4, w1, d, g, ok, w2, hp⟩
/-- len(own) -/
theorem we_olen {i : Nat} {x : Str} {npos pp pos : Pos} {ds : List D} {P : D → Prop} {ex : Xd → Prop} (nb : NB c.X.mg) (hN : c.X.N[i]? = some x) (hρ : ρ[i]? = some (some (.lst ds))) (h : P (.int (ds.length : Nat)))
    (hv : Vis c.X.env.scope x := by first | exact Or.inl rfl | exact Or.inr (Or.inl rfl) | exact Or.inr (Or.inr rfl)) (hd : (x == ("__debug__" : Str)) = false := by decide) (hcd : (x == ("__classdict__" : Str)) = false := by decide) (hg : Gl c.X "len" := by rfl)
    (he : starEach [.Name x npos] c.X.env = (false, eval (.Name x npos) c.X.env) :: starEach [] c.X.env := by rfl) (hpl : (backTo pos (starEach [] c.X.env)).any (·.1) = false := by rfl) : WE c (.Call (.Name "len" pp) [.Name x npos] [] pos) ρ P ex :=
  we_of (pe_callB call_len hg (nb _ (by decide)) (by decide +kernel) (pa_cons (pe_var hN hv hd hcd) pa_nil he) (by decide) (by decide) he hpl) fun σ H R E S p y => by
    obtain ⟨a, vs, h1, h2, h3, h4, h5⟩ := S.lst i ds hρ
    exact ⟨.ref a, h1, _, ds.length, rfl, .inl ⟨_, sq_l h4, by rw [h5.length]⟩, .int (ds.length : Nat), Gr.refl, S.ok, .int _, h⟩
/-- own[b] = e -/
theorem ws_oset (i : Nat) {x : Str} {b e : Expr} {npos spos pos : Pos} {ds : List D} {p : Po} (hN : c.X.N[i]? = some x) (hρ : ρ[i]? = some (some (.lst ds)))
    (h : WE c e ρ (fun d => WE c b ρ (fun y => ∃ k j, y = .int k ∧ L2.ixN ds.length k = some j ∧ p.nx (ρ.set i (some (.lst (ds.set j d))))) (p.ex ρ)) (p.ex ρ))
    (hv : Vis c.X.env.scope x := by first | exact Or.inl rfl | exact Or.inr (Or.inl rfl) | exact Or.inr (Or.inr rfl)) (hd : (x == ("__debug__" : Str)) = false := by decide) (hcd : (x == ("__classdict__" : Str)) = false := by decide)
    (hsub : ∀ v, assign (.Subscript (.Name x npos) b spos) c.X.env v = (do
      let ov ← holding [v] (eval (.Name x npos) c.X.env)
      let iv ← holding [v, ov] (eval b c.X.env)
      standAt spos
      holding [v, ov, iv] (setItem ov iv v)
      release [v, ov, iv] []) := by intro _; rfl)
    (hs : swapsWithSole [.Subscript (.Name x npos) b spos] e pos.line c.X.env = pure false := by rfl) (hw : swappedStores [.Subscript (.Name x npos) b spos] e c.X.env = pure none := by rfl)
    (ha : (assignEach [.Subscript (.Name x npos) b spos] c.X.env).map (·.2) = [assign (.Subscript (.Name x npos) b spos) c.X.env] := by rfl) : WS c (.Assign [.Subscript (.Name x npos) b spos] e pos) ρ p :=
  ws_of (ps_asg (peU c e) (pg_sub (pe_var hN hv hd hcd) (peU c b) set_list hsub) hs hw ha) fun σ H R Ds E S ps en xx => tU.mk h S (ps.at σ) (xx.at S) fun v H1 ⟨d, g1, ok1, q1, w1⟩ => by
    have S1 := S.grow g1 ok1
    obtain ⟨a, vs, h1, h2, h3, h4, h5⟩ := S.lst i ds hρ
    refine ⟨.ref a, h1, tU.mk w1 S1 (ps.at σ) (xx.at S |>.grow g1 ok1) fun vy H2 ⟨dy, g2, ok2, q2, k, j, e, hj, hn⟩ => ?_⟩
    subst e
    cases q2
    have S2 := S1.grow g2 ok2
    obtain ⟨a', vs', k1, k2, k3, k4, k5⟩ := S2.lst i ds hρ
    rw [h1] at k1
    cases k1
    refine ⟨a, vs', k, j, rfl, rfl, k4, by rw [k5.length]; exact hj, en.nx _ _ σ _ (S2.mutLst hρ h1 (DqL.set (q1.grow S1.ndr g2) j k5)) ?_ hn⟩
    exact ((Kp.grow S.ndr g1).trans (Kp.grow S1.ndr g2)).trans (Kp.mut k2)
/-- own.append(own2.pop(b)) -/
theorem ws_appPop (i j : Nat) {x z : Str} {b : Expr} {pos ppos apos npos bpos zpos qpos : Pos} {p : Po} {ds es : List D} (hij : i ≠ j) (hN : c.X.N[i]? = some x) (hρ : ρ[i]? = some (some (.lst ds))) (hz : ds.length < sizeLine) (hN2 : c.X.N[j]? = some z) (hρ2 : ρ[j]? = some (some (.lst es)))
    (h : WE c b ρ (fun y => ∃ k n d, y = .int k ∧ -(2 ^ 63) ≤ k ∧ k < 2 ^ 63 ∧ seqIndex? k es.length = some n ∧ es[n]? = some d ∧ p.nx ((ρ.set j (some (.lst (es.eraseIdx n)))).set i (some (.lst (ds ++ [d]))))) (p.ex ρ))
    (hpe : PE c.X (.Call (.Attribute (.Name x npos) "append" apos) [.Call (.Attribute (.Name z zpos) "pop" bpos) [b] [] qpos] [] ppos) (tBM c.X.K "list" rAppend (tVar i) (tCons (tBM c.X.K "list" rPopAt (tVar j) (tAs c [b])) tNil)) := by
      exact pe_bm PySem.F.plainAttrs_list PySem.F.slot_list_append PySem.F.type_list_append mt_append (pv _) (pa_cons (pe_bm PySem.F.plainAttrs_list PySem.F.slot_list_pop PySem.F.type_list_pop mt_popAt (pv _) (pa_cons (peU _ _) pa_nil)) pa_nil))
    (hs : swapsWith (.Call (.Attribute (.Name x npos) "append" apos) [.Call (.Attribute (.Name z zpos) "pop" bpos) [b] [] qpos] [] ppos) none pos.line c.X.env = pure false := by rfl) :
    WS c (.Expr (.Call (.Attribute (.Name x npos) "append" apos) [.Call (.Attribute (.Name z zpos) "pop" bpos) [b] [] qpos] [] ppos) pos) ρ p :=
  ws_of (ps_expr hpe hs) fun σ H R Ds E S ps en y => by
    obtain ⟨a, vs, h1, h2, h3, h4, h5⟩ := S.lst i ds hρ
    obtain ⟨a2, vs2, e1, e2, e3, e4, e5⟩ := S.lst j es hρ2
    have hne : a ≠ a2 := fun q => S.sep i j ds es a hij hρ hρ2 h1 (by rw [e1, q])
    refine ⟨_, h1, .inl ⟨rfl, _, .inl (.inl h4)⟩, ?_⟩
    refine ⟨_, e1, .inl ⟨rfl, _, .inl (.inl e4)⟩, ?_⟩
    refine tU.mk h S (ps.at σ) (y.at S) fun v H1 ⟨dy, g, ok, q, k, n, d, ey, b1, b2, hn, hd, hp⟩ => ?_
    subst ey
    cases q
    have S1 := S.grow g ok
    obtain ⟨a', ws, g1, g2, g3, g4, g5⟩ := S1.lst i ds hρ
    obtain ⟨a2', ws2, f1, f2, f3, f4, f5⟩ := S1.lst j es hρ2
    rw [h1] at g1
    cases g1
    rw [e1] at f1
    cases f1
    obtain ⟨w, w1, w2⟩ := f5.get hd
    have S2 := S1.mutLst hρ2 e1 (f5.eraseIdx n)
    have r2 : (ρ.set j (some (.lst (es.eraseIdx n))))[i]? = some (some (.lst ds)) := by
      rw [List.getElem?_set_ne (Ne.symm hij)]
      exact hρ
    obtain ⟨a3, ws3, k1, k2, k3, k4, k5⟩ := S2.lst i ds r2
    rw [h1] at k1
    cases k1
    refine ⟨a2, ws2, k, n, w, rfl, rfl, f4, b1, b2, by rw [f5.length]; exact hn, w1, ?_⟩
    refine ⟨a, ws3, w, rfl, rfl, k4, by rw [k5.length]; exact hz, ?_⟩
    have w3 : Dq c.W (Nw R H) (upd H1 a2 (.lst (ws2.eraseIdx n))) w d := (Kp.mut f2).dq w2
    exact en.nx _ _ σ _ (S2.mutLst r2 h1 (k5.append (.cons w3 .nil))) (((Kp.grow S.ndr g).trans (Kp.mut f2)).trans (Kp.mut k2)) hp
end
end Vl
end
section
set_option maxHeartbeats 4000000
namespace Vl
open PySem PySem.Spec PyProof.Rows L2
variable {cls : Nat → Addr}

/-! ### the draw list from within: its numbers are known at each place -/
def dW (W : Wd cls) (hk : W.kind = 1) (js : List Int) : Wd cls where
  dr := W.dr
  cl := W.cl
  ns := W.ns
  kind := 3
  mv := W.mv
  base := W.base
  ok := fun H => W.ok H ∧ H W.dr = some (.lst (.ref W.cl :: js.map V.int))
  mvb := W.mvb
  some := fun H h => W.some H h.1
  keep := fun H H' h k => ⟨W.keep H H' h.1 k, by rw [k _ (W.mvb _ (W.dmv hk).1)]; exact h.2⟩
  dmv := fun h => absurd h (by decide)
  dok := fun h => absurd h (by decide)
  dset := fun h => absurd h (by decide)
  cok := fun h => absurd h (by decide)
abbrev dc (c : Cy cls) (hk : c.W.kind = 1) (js : List Int) : Cy cls := { c with W := dW c.W hk js }
structure WD (c : Cy cls) (hk : c.W.kind = 1) (js : List Int) (st : List Stmt) (ρ : Rho) (nx : List Int → Rho → Prop) (rt : List Int → D → Prop) : Prop where
  run : ∀ (pins : List (Addr × Obj)) (s : Shared) (σ : L2.St) (H : Hp) (R : Addr → Prop) (Ds : Ends) (E : L2.St → XK), Inv c.X pins σ H s → Sl (dc c hk js) R H σ ρ → Tk c.X E →
    (∀ js' R' H' σ' ρ', Sl (dc c hk js') R' H' σ' ρ' → nx js' ρ' → Ds.nx σ' H') → (∀ js' R' H' σ' ρ' v d, Sl (dc c hk js') R' H' σ' ρ' → Dq (dW c.W hk js') R' H' v d → rt js' d → Ds.rt v H') →
    wpAny (model c.X.prog c.X.w) c.X.A (execs st c.X.env) (SP c.X pins Ds) c.X.xe s
section
variable {c : Cy cls} {hk : c.W.kind = 1} {js : List Int} {R : Addr → Prop} {H H' : Hp} {σ : L2.St} {ρ : Rho} {nx : List Int → Rho → Prop} {rt : List Int → D → Prop}
def tUD (c : Cy cls) (hk : c.W.kind = 1) (st : List Stmt) (nx : List Int → Rho → Prop) (rt : List Int → D → Prop) : TS := fun Ds σ H => ∃ (js : List Int) (ρ : Rho) (R : Addr → Prop) (E : L2.St → XK), Sl (dc c hk js) R H σ ρ ∧ Tk c.X E ∧
  (∀ js' R' H' σ' ρ', Sl (dc c hk js') R' H' σ' ρ' → nx js' ρ' → Ds.nx σ' H') ∧ (∀ js' R' H' σ' ρ' v d, Sl (dc c hk js') R' H' σ' ρ' → Dq (dW c.W hk js') R' H' v d → rt js' d → Ds.rt v H') ∧ WD c hk js st ρ nx rt
theorem psD (c : Cy cls) (hk : c.W.kind = 1) (st : List Stmt) (nx : List Int → Rho → Prop) (rt : List Int → D → Prop) : PSs c.X st (tUD c hk st nx rt) := ⟨fun pins s σ H Ds I ⟨js, ρ, R, E, S, tk, en, er, w⟩ => w.run pins s σ H R Ds E I S tk en er⟩
theorem wd_nil (h : nx js ρ) : WD c hk js [] ρ nx rt := ⟨fun pins s σ H R Ds E I S tk en er => pss_nil.run pins s σ H Ds I (en js R H σ ρ S h)⟩
theorem wd_ws {st : Stmt} {rest : List Stmt} (h : WS (dc c hk js) st ρ { nx := fun ρ' => WD c hk js rest ρ' nx rt, rt := fun _ d => rt js d }) : WD c hk js (st :: rest) ρ nx rt :=
  ⟨fun pins s σ H R Ds E I S tk en er => (pss_cons (psU (dc c hk js) st) (psD c hk rest nx rt)).run pins s σ H Ds I
    ⟨ρ, R, E, { nx := fun ρ' => WD c hk js rest ρ' nx rt, rt := fun _ d => rt js d }, S, tk, ⟨fun R1 H1 σ1 ρ1 S1 k w => ⟨js, ρ1, R1, E, S1, tk, en, er, w⟩, fun R1 H1 σ1 ρ1 v d S1 q h => er js R1 H1 σ1 ρ1 v d S1 q h, fun _ _ _ _ _ _ z => z.elim, fun _ _ _ _ _ _ z => z.elim⟩, fun _ _ _ _ _ _ _ _ _ z => z.elim, h⟩⟩
theorem exOkF {E : XK} : ExOk c R H E (fun _ => False) := fun _ _ _ _ _ _ _ z => z.elim
theorem wd_if {t : Expr} {a b : List Stmt} {pos : Pos} {rest : List Stmt} (h : WT (dc c hk js) t ρ (fun k => (k = true → WD c hk js a ρ (fun js' ρ' => WD c hk js' rest ρ' nx rt) rt) ∧ (k = false → WD c hk js b ρ (fun js' ρ' => WD c hk js' rest ρ' nx rt) rt)) (fun _ => False)) :
    WD c hk js (.If t a b pos :: rest) ρ nx rt :=
  ⟨fun pins s σ H R Ds E I S tk en er => (pss_cons (ps_if (ptU (dc c hk js) t) (psD c hk a (fun js' ρ' => WD c hk js' rest ρ' nx rt) rt) (psD c hk b (fun js' ρ' => WD c hk js' rest ρ' nx rt) rt)) (psD c hk rest nx rt)).run pins s σ H Ds I
    (tUT.mk h S (tk.at σ) exOkF fun k H1 ⟨g, ok, h1⟩ => by
      have S1 := S.grow g ok
      cases k with
      | true => exact ⟨js, ρ, _, E, S1, tk, fun js' R' H' σ' ρ' S' w => ⟨js', ρ', R', E, S', tk, en, er, w⟩, er, h1.1 rfl⟩
      | false => exact ⟨js, ρ, _, E, S1, tk, fun js' R' H' σ' ρ' S' w => ⟨js', ρ', R', E, S', tk, en, er, w⟩, er, h1.2 rfl⟩)⟩
theorem wd_mono {st : List Stmt} {nx' : List Int → Rho → Prop} (w : WD c hk js st ρ nx rt) (h : ∀ js ρ, nx js ρ → nx' js ρ) : WD c hk js st ρ nx' rt := ⟨fun pins s σ H R Ds E I S tk en er => w.run pins s σ H R Ds E I S tk (fun js' R' H' σ' ρ' S' k => en js' R' H' σ' ρ' S' (h js' ρ' k)) er⟩
def flatSv : Option Sv → Bool
  | none => true
  | some (.val (.own 3)) => true
  | some (.val (.int _)) => true
  | _ => false
theorem flat_of (h : ρ.all flatSv = true) (j : Nat) (o : Sv) (e : ρ[j]? = some (some o)) : ∃ d, o = .val d ∧ (d = .own 3 ∨ ∃ n, d = .int n) := by
  have z := List.all_eq_true.mp h _ (List.mem_of_getElem? e)
  unfold flatSv at z
  split at z
  · rename_i e2
    cases e2
  · rename_i e2
    cases e2
    exact ⟨_, rfl, .inl rfl⟩
  · rename_i n e2
    cases e2
    exact ⟨_, rfl, .inr ⟨n, rfl⟩⟩
  · exact Bool.noConfusion z
/-- x[k] = e, x the draw list -/
theorem wd_set (i : Nat) {x : Str} {b e : Expr} {npos spos pos : Pos} {rest : List Stmt} (hN : c.X.N[i]? = some x) (hρ : ρ[i]? = some (some (.val (.own 3)))) 
    (h : WE (dc c hk js) e ρ (fun d => ∃ n, d = .int n ∧ WE (dc c hk js) b ρ (fun y => ∃ k : Nat, y = .int ((k + 1 : Nat) : Int) ∧ k < 5 ∧ (k = 0 → 0 ≤ n) ∧ js.length = 5 ∧ (∀ z, js[0]? = some z → 0 ≤ z) ∧ WD c hk (js.set k n) rest ρ nx rt) (fun _ => False)) (fun _ => False))
    (hfl : ρ.all flatSv = true := by rfl) (hv : Vis c.X.env.scope x := by first | exact Or.inl rfl | exact Or.inr (Or.inl rfl) | exact Or.inr (Or.inr rfl)) (hd : (x == ("__debug__" : Str)) = false := by decide) (hcd : (x == ("__classdict__" : Str)) = false := by decide)
    (hsub : ∀ v, assign (.Subscript (.Name x npos) b spos) c.X.env v = (do
      let ov ← holding [v] (eval (.Name x npos) c.X.env)
      let iv ← holding [v, ov] (eval b c.X.env)
      standAt spos
      holding [v, ov, iv] (setItem ov iv v)
      release [v, ov, iv] []) := by intro _; rfl)
    (hs : swapsWithSole [.Subscript (.Name x npos) b spos] e pos.line c.X.env = pure false := by rfl) (hw : swappedStores [.Subscript (.Name x npos) b spos] e c.X.env = pure none := by rfl)
    (ha : (assignEach [.Subscript (.Name x npos) b spos] c.X.env).map (·.2) = [assign (.Subscript (.Name x npos) b spos) c.X.env] := by rfl) : WD c hk js (.Assign [.Subscript (.Name x npos) b spos] e pos :: rest) ρ nx rt :=
  ⟨fun pins s σ H R Ds E I S tk en er => (pss_cons (ps_asg (peU (dc c hk js) e) (pg_sub (pe_var hN hv hd hcd) (peU (dc c hk js) b) set_list hsub) hs hw ha) (psD c hk rest nx rt)).run pins s σ H Ds I
    (tU.mk h S (tk.at σ) exOkF fun v H1 ⟨d, g1, ok1, q1, n, ed, w1⟩ => by
      subst ed
      cases q1
      have S1 := S.grow g1 ok1
      obtain ⟨v0, s0, q0⟩ := S.val i _ hρ
      refine ⟨v0, s0, tU.mk w1 S1 (tk.at σ) exOkF fun vy H2 ⟨dy, g2, ok2, q2, k, ey, kl, k0, l5, z0, w2⟩ => ?_⟩
      subst ey
      cases q2
      cases q0
      have S2 := S1.grow g2 ok2
      obtain ⟨oka, okd⟩ := ok2
      have hl : (V.ref c.W.cl :: js.map V.int).length = 6 := by simp [l5]
      refine ⟨c.W.dr, _, _, k + 1, rfl, rfl, okd, ?_, ?_⟩
      · rw [hl]
        have := ixN_nat (n := 6) (i := k + 1) (by omega)
        exact this
      · have hset : (V.ref c.W.cl :: js.map V.int).set (k + 1) (V.int n) = V.ref c.W.cl :: (js.set k n).map V.int := by
          rw [List.set_cons_succ, List.map_set]
        rw [hset]
        have hmv := (c.W.dmv hk).1
        have hcl := (c.W.dmv hk).2.1
        have dr0 : ∀ a, ¬ c.W.mv a → a ≠ c.W.dr := fun a h z => h (z ▸ hmv)
        obtain ⟨i1, i2, i3, i4, i5, p0, pc, pd⟩ := c.W.dok hk H2 oka
        have ok3 : (dW c.W hk (js.set k n)).ok (upd H2 c.W.dr (.lst (.ref c.W.cl :: (js.set k n).map V.int))) := by
          refine ⟨c.W.dset hk H2 _ oka (fun a ha _ => upd_ne ha) ?_, upd_same⟩
          match js, l5, z0, k, kl, k0 with
          | [a1, a2, a3, a4, a5], _, z0, k, kl, k0 =>
            have a1p := z0 a1 rfl
            match k, kl, k0 with
            | 0, _, k0 => exact ⟨n, a2, a3, a4, a5, k0 rfl, by rw [upd_ne hcl]; exact pc, upd_same⟩
            | 1, _, _ => exact ⟨a1, n, a3, a4, a5, a1p, by rw [upd_ne hcl]; exact pc, upd_same⟩
            | 2, _, _ => exact ⟨a1, a2, n, a4, a5, a1p, by rw [upd_ne hcl]; exact pc, upd_same⟩
            | 3, _, _ => exact ⟨a1, a2, a3, n, a5, a1p, by rw [upd_ne hcl]; exact pc, upd_same⟩
            | 4, _, _ => exact ⟨a1, a2, a3, a4, n, a1p, by rw [upd_ne hcl]; exact pc, upd_same⟩
            | k + 5, h, _ => exact absurd h (by omega)
        refine ⟨js.set k n, ρ, fun _ => False, E, ?_, tk, en, er, w2⟩
        exact {
          ndr := fun _ _ z => z
          ok := ok3
          ok0 := S2.ok0
          gr := fun a o h z => by
            rw [upd_ne (dr0 a h)]
            exact S2.gr a o h z
          sub := fun _ z => z.elim
          len := S2.len
          val := fun j d hj => by
            obtain ⟨v, s1, q⟩ := S2.val j d hj
            obtain ⟨d', ed, hd⟩ := flat_of hfl j _ hj
            cases ed
            rcases hd with rfl | ⟨m, rfl⟩
            · cases q with
              | own e => exact ⟨_, s1, .own rfl⟩
            · cases q
              exact ⟨_, s1, .int m⟩
          lst := fun j d hj => by
            obtain ⟨d', ed, _⟩ := flat_of hfl j _ hj
            cases ed
          sep := fun j j2 d d2 a _ hj => by
            obtain ⟨d', ed, _⟩ := flat_of hfl j _ hj
            cases ed
          ob := fun j a k fs hj => by
            obtain ⟨d', ed, _⟩ := flat_of hfl j _ hj
            cases ed
          exc := fun j e hj => by
            obtain ⟨d', ed, _⟩ := flat_of hfl j _ hj
            cases ed })⟩
end
end Vl
end
section
set_option maxHeartbeats 4000000
namespace Vl
open PySem PySem.Spec PyProof.Rows L2
variable {cls : Nat → Addr}
section
variable {c : Cy cls} {hk : c.W.kind = 1} {js : List Int} {ρ : Rho} {P : D → Prop} {ex : Xd → Prop}
/-- x[k], k > 0 -/
theorem we_dix {i : Nat} {x : Str} {b : Expr} {npos pos : Pos} (hN : c.X.N[i]? = some x) (hρ : ρ[i]? = some (some (.val (.own 3)))) (h : WE (dc c hk js) b ρ (fun y => ∃ (k : Nat) (n : Int), y = .int ((k + 1 : Nat) : Int) ∧ js[k]? = some n ∧ P (.int n)) ex)
    (hv : Vis c.X.env.scope x := by first | exact Or.inl rfl | exact Or.inr (Or.inl rfl) | exact Or.inr (Or.inr rfl)) (hd : (x == ("__debug__" : Str)) = false := by decide) (hcd : (x == ("__classdict__" : Str)) = false := by decide) (hp : PlainIx b := by exact fun _ _ => rfl) : WE (dc c hk js) (.Subscript (.Name x npos) b pos) ρ P ex :=
  we_of (c := dc c hk js) (pe_ix ix_seq (pe_var hN hv hd hcd) (peU (dc c hk js) b) hp) fun σ H R E S p y => by
    obtain ⟨v, s0, q0⟩ := S.val i _ hρ
    refine ⟨v, s0, tU.mk h S p y fun vy H1 ⟨dy, g, ok, q, k, n, e, hj, hp⟩ => ?_⟩
    subst e
    cases q
    cases q0
    refine .inl ⟨c.W.dr, _, _, .int n, rfl, rfl, sq_l ok.2, ?_, .int n, g, ok, .int n, hp⟩
    refine atI_nat ?_
    rw [List.getElem?_cons_succ, List.getElem?_map, hj]
    rfl
/-- the cells, H as it stands -/
theorem cells_at {H : Hp} (ok : (dW c.W hk js).ok H) : H c.W.cl = some (.lst (c.W.ns.map V.int)) := by
  obtain ⟨_, _, _, _, _, _, h, _⟩ := c.W.dok hk H ok.1
  exact h
/-- len(x[0]) -/
theorem we_dlen {i : Nat} {x : Str} {b : Expr} {npos bpos pp pos : Pos} (nb : NB c.X.mg) (hN : c.X.N[i]? = some x) (hρ : ρ[i]? = some (some (.val (.own 3)))) (h : WE (dc c hk js) b ρ (fun y => y = .int 0 ∧ P (.int (c.W.ns.length : Nat))) ex)
    (hv : Vis c.X.env.scope x := by first | exact Or.inl rfl | exact Or.inr (Or.inl rfl) | exact Or.inr (Or.inr rfl)) (hd : (x == ("__debug__" : Str)) = false := by decide) (hcd : (x == ("__classdict__" : Str)) = false := by decide) (hp : PlainIx b := by exact fun _ _ => rfl) (hg : Gl c.X "len" := by rfl)
    (he : starEach [.Subscript (.Name x npos) b bpos] c.X.env = (false, eval (.Subscript (.Name x npos) b bpos) c.X.env) :: starEach [] c.X.env := by rfl) (hpl : (backTo pos (starEach [] c.X.env)).any (·.1) = false := by rfl) : WE (dc c hk js) (.Call (.Name "len" pp) [.Subscript (.Name x npos) b bpos] [] pos) ρ P ex :=
  we_of (c := dc c hk js) (pe_callB call_len hg (nb _ (by decide)) (by decide +kernel) (pa_cons (pe_ix ix_seq (pe_var hN hv hd hcd) (peU (dc c hk js) b) hp) pa_nil he) (by decide) (by decide) he hpl) fun σ H R E S p y => by
    obtain ⟨v, s0, q0⟩ := S.val i _ hρ
    refine ⟨v, s0, tU.mk h S p y fun vy H1 ⟨dy, g, ok, q, e, hp⟩ => ?_⟩
    subst e
    cases q
    cases q0
    refine .inl ⟨c.W.dr, _, _, .ref c.W.cl, rfl, rfl, sq_l ok.2, ?_, ?_⟩
    · exact atI_nat (i := 0) rfl
    · exact ⟨.ref c.W.cl, c.W.ns.length, rfl, .inl ⟨_, sq_l (cells_at (hk := hk) ok), by rw [List.length_map]⟩, .int (c.W.ns.length : Nat), g, ok, .int _, hp⟩
/-- x[0][b] -/
theorem we_dcell {i : Nat} {x : Str} {b0 b : Expr} {npos bpos pos : Pos} (hN : c.X.N[i]? = some x) (hρ : ρ[i]? = some (some (.val (.own 3))))
    (h : WE (dc c hk js) b0 ρ (fun y => y = .int 0 ∧ WE (dc c hk js) b ρ (fun y => ∃ (k : Nat) (n : Int), y = .int (k : Int) ∧ c.W.ns[k]? = some n ∧ P (.int n)) ex) ex)
    (hv : Vis c.X.env.scope x := by first | exact Or.inl rfl | exact Or.inr (Or.inl rfl) | exact Or.inr (Or.inr rfl)) (hd : (x == ("__debug__" : Str)) = false := by decide) (hcd : (x == ("__classdict__" : Str)) = false := by decide) (hp : PlainIx b := by exact fun _ _ => rfl) (hp0 : PlainIx b0 := by exact fun _ _ => rfl) :
    WE (dc c hk js) (.Subscript (.Subscript (.Name x npos) b0 bpos) b pos) ρ P ex :=
  we_of (c := dc c hk js) (pe_ix ix_seq (pe_ix ix_seq (pe_var hN hv hd hcd) (peU (dc c hk js) b0) hp0) (peU (dc c hk js) b) hp) fun σ H R E S p y => by
    obtain ⟨v, s0, q0⟩ := S.val i _ hρ
    refine ⟨v, s0, tU.mk h S p y fun vy H1 ⟨dy, g, ok, q, e, w1⟩ => ?_⟩
    subst e
    cases q
    cases q0
    refine .inl ⟨c.W.dr, _, _, .ref c.W.cl, rfl, rfl, sq_l ok.2, ?_, ?_⟩
    · exact atI_nat (i := 0) rfl
    · have S1 := S.grow g ok
      refine tU.mk w1 S1 p (y.grow g ok) fun vy2 H2 ⟨d2, g2, ok2, q2, k, n, e2, hn, hp⟩ => ?_
      subst e2
      cases q2
      refine .inl ⟨c.W.cl, _, _, .int n, rfl, rfl, sq_l (cells_at (hk := hk) ok2), ?_, .int n, g.trans g2, ok2, .int n, hp⟩
      refine atI_nat ?_
      rw [List.getElem?_map, hn]
      rfl
end
section
variable {c : Cy cls} {ρ : Rho}
theorem op_powW {X : Cx} : OpR X (binaryOp .Pow) (rI (fun i j => 0 ≤ j ∧ (Builtin.Int.intBits i : Int) * j ≤ 2 ^ 27) fun i j => .int (i ^ j.toNat)) := opI fun _ _ _ _ _ _ _ hc q => pow_int hc.1 hc.2 q
theorem we_powW {a b : Expr} {pos : Pos} {P : D → Prop} {ex : Xd → Prop} (h : WE c a ρ (fun x => WE c b ρ (fun y => ∃ i j, x = .int i ∧ y = .int j ∧ (0 ≤ j ∧ (Builtin.Int.intBits i : Int) * j ≤ 2 ^ 27) ∧ P (.int (i ^ j.toNat))) ex) ex) : WE c (.BinOp a .Pow b pos) ρ P ex :=
  we_bin (pe_op op_powW (peU c a) (peU c b)) (opd_I _ _ (fun i j => .int (i ^ j.toNat)) (fun _ _ _ _ => .int _)) h
end
/-! ### the def that draws -/
def fs_pick : FS := fun ds rt _ => ∃ n : Int, ds = [.own 1, .int n] ∧ n < 1000000000 ∧ ∀ r : Int, 0 ≤ r → (r < n ∨ (n < 2 ∧ r = 0)) → rt (.int r)
section
variable {P : Program} {w : World} {K : PySem.W.Frag} {mg : Str → Option Value} {base : Heap}
theorem draw_ok {x qual y1 y2 : Str} {st : Stmt} {f : Addr} {fd : FuncData} {N : List Str} {k : Nat} (F : Fun K x qual st f fd) (S : FnScope N [y1, y2] (defScope st))
    (body : ∀ (cdv : Value) (A : Around) (outer : List Env) (s : Shared) (H : Hp) (E : XK) (W : Wd cls) (hk : W.kind = 1) (js : List Int) (n : Int), Room k (A.deeper (envOfC qual (defScope st) s.heap.objs.size f cdv)) → n < 1000000000 → js.length = 5 → (∀ z, js[0]? = some z → 0 ≤ z) →
      WD (cyOf P w K mg base N qual (defScope st) f cdv A outer s H E W (fun _ => False)) hk js (defBody st) (rho0 N [.own 3, .int n]) (fun _ _ => False) (fun _ d => ∃ r : Int, d = .int r ∧ 0 ≤ r ∧ (r < n ∨ (n < 2 ∧ r = 0)))) :
    FnOk P w K mg base (L2N.CX P w) (k + 1) f fd [y1, y2] (spOf cls fs_pick) := by
  refine okN F S (fun vs H Q E h => ?_) (fun cdv A outer s H vs Q E hr h => ?_)
  · obtain ⟨W, R, ds, rt, ex, _, _, q, ⟨n, rfl, _⟩, _⟩ := h
    rw [q.length]
    rfl
  · obtain ⟨W, R, ds, rt, ex, nd, ok, q, ⟨n, rfl, hlim, hn⟩, k1, k2⟩ := h
    cases q with
    | cons q1 q =>
      cases q with
      | cons q2 q =>
        cases q
        cases q2
        cases q1 with
        | own hk =>
          obtain ⟨i1, i2, i3, i4, i5, p0, pc, pd⟩ := W.dok hk H ok
          have S0 := Sl.start (c := dc (cyOf P w K mg base N qual (defScope st) f cdv A outer s H E W (fun _ => False)) hk [i1, i2, i3, i4, i5]) (N := N) (vs := [.ref W.dr, .int n]) (ds := [.own 3, .int n]) (fun _ _ z => z) ⟨ok, pd⟩ (.cons (.own rfl) (.cons (.int n) .nil))
          refine ⟨_, psD (cyOf P w K mg base N qual (defScope st) f cdv A outer s H E W (fun _ => False)) hk _ (fun _ _ => False) (fun _ d => ∃ r : Int, d = .int r ∧ 0 ≤ r ∧ (r < n ∨ (n < 2 ∧ r = 0))), [i1, i2, i3, i4, i5], rho0 N [.own 3, .int n], fun _ => False, fun _ => E, S0, L2N.takes_of rfl rfl rfl rfl,
            fun js' R' H' σ' ρ' S' h => h.elim, fun js' R' H' σ' ρ' v d S' qv h => ?_, body cdv A outer s H E W hk _ n hr hlim rfl (fun z e => by cases e; exact p0)⟩
          obtain ⟨r, rfl, r0, r1⟩ := h
          cases qv
          exact k1 (.int r) (.int r) H' S'.gr S'.ok.1 (.int r) (hn r r0 r1)
end
end Vl
end
section
set_option maxHeartbeats 4000000
namespace Vl
open PySem PySem.Spec PyProof.Rows L2
variable {cls : Nat → Addr}

/-! ### trees: plain data whose lists nobody else has -/
mutual
/-- the lists of v lie in F, each once; its tuples in T -/
inductive Mq (T : Addr → Prop) (H : Hp) : (Addr → Prop) → V → D → Prop
  | non {F : Addr → Prop} : Mq T H F .non .non
  | bl {F : Addr → Prop} (b : Bool) : Mq T H F (.bl b) (.bl b)
  | int {F : Addr → Prop} (i : Int) : Mq T H F (.int i) (.int i)
  | str {F : Addr → Prop} (x : Str) : Mq T H F (.str x) (.str x)
  | lst {F G : Addr → Prop} {a : Addr} {vs : List V} {ds : List D} : F a → H a = some (.lst vs) → MqL T H G vs ds → (∀ b, G b → F b ∧ b ≠ a) → Mq T H F (.ref a) (.lst ds)
  | tup {F : Addr → Prop} {a : Addr} {vs : List V} {ds : List D} : T a → H a = some (.tup vs) → MqL T H F vs ds → Mq T H F (.ref a) (.tup ds)
inductive MqL (T : Addr → Prop) (H : Hp) : (Addr → Prop) → List V → List D → Prop
  | nil {F : Addr → Prop} : MqL T H F [] []
  | cons {F F1 F2 : Addr → Prop} {v : V} {d : D} {vs : List V} {ds : List D} : Mq T H F1 v d → MqL T H F2 vs ds → (∀ a, F1 a → F a) → (∀ a, F2 a → F a) → (∀ a, F1 a → ¬ F2 a) → MqL T H F (v :: vs) (d :: ds)
end
section
variable {T T' F F' G : Addr → Prop} {H H' : Hp}
mutual
theorem Mq.mono3 (hT : ∀ a o, T a → H a = some o → T' a ∧ H' a = some o) : ∀ {F F' : Addr → Prop} {v : V} {d : D}, (∀ a, F a → F' a) → (∀ a o, F a → H a = some o → H' a = some o) → Mq T H F v d → Mq T' H' F' v d
  | _, _, _, _, _, _, .non => .non
  | _, _, _, _, _, _, .bl b => .bl b
  | _, _, _, _, _, _, .int i => .int i
  | _, _, _, _, _, _, .str x => .str x
  | _, _, _, _, hF, hH, .lst fa e q n => .lst (hF _ fa) (hH _ _ fa e) (MqL.mono3 hT (F' := _) (fun _ z => z) (fun a o g e => hH a o (n a g).1 e) q) (fun b g => ⟨hF b (n b g).1, (n b g).2⟩)
  | _, _, _, _, hF, hH, .tup t e q => .tup (hT _ _ t e).1 (hT _ _ t e).2 (MqL.mono3 hT hF hH q)
theorem MqL.mono3 (hT : ∀ a o, T a → H a = some o → T' a ∧ H' a = some o) : ∀ {F F' : Addr → Prop} {vs : List V} {ds : List D}, (∀ a, F a → F' a) → (∀ a o, F a → H a = some o → H' a = some o) → MqL T H F vs ds → MqL T' H' F' vs ds
  | _, _, _, _, _, _, .nil => .nil
  | _, _, _, _, hF, hH, .cons q r n1 n2 n3 => .cons (Mq.mono3 hT (fun _ z => z) (fun a o g e => hH a o (n1 a g) e) q) (MqL.mono3 hT (fun _ z => z) (fun a o g e => hH a o (n2 a g) e) r) (fun a z => hF a (n1 a z)) (fun a z => hF a (n2 a z)) n3
end
theorem Mq.wide (hF : ∀ a, F a → F' a) {v : V} {d : D} (q : Mq T H F v d) : Mq T H F' v d := q.mono3 (fun _ _ t e => ⟨t, e⟩) hF fun _ _ _ e => e
theorem MqL.wide (hF : ∀ a, F a → F' a) {v : List V} {d : List D} (q : MqL T H F v d) : MqL T H F' v d := q.mono3 (fun _ _ t e => ⟨t, e⟩) hF fun _ _ _ e => e
theorem Mq.same {v : V} {d : D} (h : Same H H') (q : Mq T H F v d) : Mq T H' F v d := q.mono3 (fun a o t e => ⟨t, h a o e⟩) (fun _ z => z) fun a o _ e => h a o e
mutual
/-- outside F all the same -/
theorem Mq.off (hT : ∀ a, T a → ¬ G a) (h : ∀ a, ¬ G a → H' a = H a) : ∀ {F : Addr → Prop} {v : V} {d : D}, (∀ a, F a → ¬ G a) → Mq T H F v d → Mq T H' F v d
  | _, _, _, _, .non => .non
  | _, _, _, _, .bl b => .bl b
  | _, _, _, _, .int i => .int i
  | _, _, _, _, .str x => .str x
  | _, _, _, hF, .lst fa e q n => .lst fa ((h _ (hF _ fa)).trans e) (MqL.off hT h (fun a g => hF a (n a g).1) q) n
  | _, _, _, hF, .tup t e q => .tup t ((h _ (hT _ t)).trans e) (MqL.off hT h hF q)
theorem MqL.off (hT : ∀ a, T a → ¬ G a) (h : ∀ a, ¬ G a → H' a = H a) : ∀ {F : Addr → Prop} {v : List V} {d : List D}, (∀ a, F a → ¬ G a) → MqL T H F v d → MqL T H' F v d
  | _, _, _, _, .nil => .nil
  | _, _, _, hF, .cons q r n1 n2 n3 => .cons (Mq.off hT h (fun a g => hF a (n1 a g)) q) (MqL.off hT h (fun a g => hF a (n2 a g)) r) n1 n2 n3
end
theorem MqL.length : ∀ {F : Addr → Prop} {vs : List V} {ds : List D}, MqL T H F vs ds → vs.length = ds.length
  | _, _, _, .nil => rfl
  | _, _, _, .cons _ r _ _ _ => by rw [List.length_cons, List.length_cons, r.length]
mutual
theorem Mq.dq {W : Wd cls} : ∀ {F : Addr → Prop} {v : V} {d : D}, (∀ a, F a → G a) → (∀ a, T a → G a) → Mq T H F v d → Dq W G H v d
  | _, _, _, _, _, .non => .non
  | _, _, _, _, _, .bl b => .bl b
  | _, _, _, _, _, .int i => .int i
  | _, _, _, _, _, .str x => .str x
  | _, _, _, hF, hT, .lst fa e q n => .lst (hF _ fa) e (MqL.dql (fun a g => hF a (n a g).1) hT q)
  | _, _, _, hF, hT, .tup t e q => .tup (hT _ t) e (MqL.dql hF hT q)
theorem MqL.dql {W : Wd cls} : ∀ {F : Addr → Prop} {v : List V} {d : List D}, (∀ a, F a → G a) → (∀ a, T a → G a) → MqL T H F v d → DqL W G H v d
  | _, _, _, _, _, .nil => .nil
  | _, _, _, hF, hT, .cons q r n1 n2 _ => .cons (Mq.dq (fun a g => hF a (n1 a g)) hT q) (MqL.dql (fun a g => hF a (n2 a g)) hT r)
end
/-- one item changes from within -/
theorem MqL.at : ∀ {F : Addr → Prop} {vs : List V} {ds : List D} {i : Nat} {d : D}, (∀ a, T a → ¬ F a) → MqL T H F vs ds → ds[i]? = some d → ∃ v G, vs[i]? = some v ∧ Mq T H G v d ∧ (∀ a, G a → F a) ∧ ∀ H' d', (∀ a, ¬ G a → H' a = H a) → Mq T H' G v d' → MqL T H' F vs (ds.set i d')
  | _, _, _, _, _, _, .nil, e => by simp at e
  | _, _, _, 0, _, hd, .cons (F1 := F1) (v := v) q r n1 n2 n3, e => by
    simp at e
    subst e
    exact ⟨v, F1, rfl, q, n1, fun H' d' h q' => .cons q' (r.off (G := F1) (fun a t g => hd a t (n1 a g)) h (fun a g g1 => n3 a g1 g)) n1 n2 n3⟩
  | _, _, _, i + 1, _, hd, .cons q r n1 n2 n3, e => by
    obtain ⟨v', G', e1, q1, hG, k⟩ := MqL.at (fun a t g => hd a t (n2 a g)) r (i := i) (by simpa using e)
    exact ⟨v', G', by simpa using e1, q1, fun a g => n2 a (hG a g), fun H' d' h q' => .cons (q.off (G := G') (fun a t g => hd a t (n2 a (hG a g))) h (fun a g g1 => n3 a g (hG a g1))) (k H' d' h q') n1 n2 n3⟩
/-- a plain item is put in -/
theorem MqL.setA {v' : V} {d' : D} (h : ∀ F, Mq T H F v' d') : ∀ {F : Addr → Prop} {vs : List V} {ds : List D} (i : Nat), MqL T H F vs ds → MqL T H F (vs.set i v') (ds.set i d')
  | _, _, _, _, .nil => .nil
  | _, _, _, 0, .cons q r n1 n2 n3 => .cons (h _) r n1 n2 n3
  | _, _, _, i + 1, .cons q r n1 n2 n3 => .cons q (MqL.setA h i r) n1 n2 n3
theorem MqL.snoc {v : V} {d : D} (q : Mq T H G v d) : ∀ {F : Addr → Prop} {vs : List V} {ds : List D}, (∀ a, F a → ¬ G a) → MqL T H F vs ds → MqL T H (fun a => F a ∨ G a) (vs ++ [v]) (ds ++ [d])
  | _, _, _, _, .nil => .cons (F2 := fun _ => False) q .nil (fun _ z => .inr z) (fun _ z => z.elim) (fun _ _ z => z)
  | _, _, _, hd, .cons q1 r n1 n2 n3 => .cons q1 (MqL.snoc q (fun a g => hd a (n2 a g)) r) (fun a z => .inl (n1 a z)) (fun a z => z.elim (fun z => .inl (n2 a z)) .inr) (fun a z y => y.elim (n3 a z) fun g => hd a (n1 a z) g)
end
/-- no list in it -/
inductive Lf : D → Prop
  | non : Lf .non
  | bl (b : Bool) : Lf (.bl b)
  | int (i : Int) : Lf (.int i)
  | str (x : Str) : Lf (.str x)
  | tup {ds : List D} : (∀ d ∈ ds, Lf d) → Lf (.tup ds)
theorem lfL {W : Wd cls} {R : Addr → Prop} {H : Hp} {F : Addr → Prop} : ∀ {vs : List V} {ds : List D}, (∀ d ∈ ds, ∀ v, Dq W R H v d → Mq R H F v d) → DqL W R H vs ds → (∀ a, F a → False) → MqL R H F vs ds
  | _, _, _, .nil, _ => .nil
  | _, _, h, .cons q r, no => .cons (h _ List.mem_cons_self _ q) (lfL (fun d m => h d (List.mem_cons_of_mem _ m)) r no) (fun _ z => z) (fun _ z => z) (fun a z => (no a z).elim)
theorem Lf.mq0 {W : Wd cls} {R : Addr → Prop} {H : Hp} {d : D} (h : Lf d) : ∀ {v : V}, Dq W R H v d → Mq R H (fun _ => False) v d := by
  induction h with
  | non => intro v q; cases q; exact .non
  | bl b => intro v q; cases q; exact .bl b
  | int i => intro v q; cases q; exact .int i
  | str x => intro v q; cases q; exact .str x
  | tup _ ih =>
    intro v q
    cases q with
    | tup r e q => exact .tup r e (lfL (fun d m v q => ih d m q) q fun _ z => z)
end Vl
end
section
set_option maxHeartbeats 4000000
namespace Vl
open PySem PySem.Spec PyProof.Rows L2
variable {cls : Nat → Addr}

/-! ### answers whose lists are new -/
def FreshP (R : Addr → Prop) (H H' : Hp) (v : V) (d : D) : Prop := ∃ F, Mq (fun a => Nw R H a ∧ ¬ F a) H' F v d ∧ ∀ a, F a → H a = none ∧ H' a ≠ none
def FinF (c : Cy cls) (R : Addr → Prop) (H : Hp) (P : D → Prop) : VK := fun v H' => ∃ d, Gr c.W H H' ∧ c.W.ok H' ∧ FreshP R H H' v d ∧ P d
section
variable {c : Cy cls} {R R' : Addr → Prop} {H H' H2 : Hp} {σ : L2.St} {ρ : Rho}
theorem FreshP.dq {W : Wd cls} {v : V} {d : D} (f : FreshP R H H' v d) : Dq W (Nw R H) H' v d := by
  obtain ⟨F, q, n⟩ := f
  exact q.dq (fun a z => .inr (n a z).1) fun a z => z.1
theorem FreshP.back {W : Wd cls} {v : V} {d : D} (g : Gr W H H') (ok : W.ok H') (f : FreshP (Nw R H) H' H2 v d) : FreshP R H H2 v d := by
  obtain ⟨F, q, n⟩ := f
  exact ⟨F, q.mono3 (fun a o t e => ⟨⟨nw_nw ok g a t.1, t.2⟩, e⟩) (fun _ z => z) fun _ _ _ e => e, fun a z => ⟨none_back ok g (n a z).1, (n a z).2⟩⟩
theorem FreshP.of (h0 : ∀ a, R a → R' a ∨ H2 a = none) (h1 : ∀ a, H a = none → H2 a = none) {v : V} {d : D} (f : FreshP R H H' v d) : FreshP R' H2 H' v d := by
  obtain ⟨F, q, n⟩ := f
  exact ⟨F, q.mono3 (fun a o t e => ⟨⟨t.1.elim (h0 a) fun z => .inr (h1 a z), t.2⟩, e⟩) (fun _ z => z) fun _ _ _ e => e, fun a z => ⟨h1 a (n a z).1, (n a z).2⟩⟩
theorem FinF.back {P : D → Prop} (g : Gr c.W H H') (ok : c.W.ok H') {v : V} (f : FinF c (Nw R H) H' P v H2) : FinF c R H P v H2 :=
  let ⟨d, h1, h2, h3, h4⟩ := f; ⟨d, g.trans h1, h2, h3.back g ok, h4⟩
theorem FinF.fin {P : D → Prop} {v : V} (f : FinF c R H P v H') : Fin c R H P v H' := let ⟨d, h1, h2, h3, h4⟩ := f; ⟨d, h1, h2, h3.dq, h4⟩
theorem FreshP.flat {W : Wd cls} {v : V} {d : D} (h : Lf d) (q : Dq W (Nw R H) H' v d) : FreshP R H H' v d :=
  ⟨fun _ => False, (h.mq0 q).mono3 (fun a o t e => ⟨⟨t, fun z => z⟩, e⟩) (fun _ z => z) (fun _ _ z => z.elim), fun _ z => z.elim⟩

/-- e gives a datum with new lists -/
structure WF (c : Cy cls) (e : Expr) (ρ : Rho) (P : D → Prop) : Prop where
  run : ∀ (pins : List (Addr × Obj)) (s : Shared) (σ : L2.St) (H : Hp) (R : Addr → Prop), Inv c.X pins σ H s → Sl c R H σ ρ →
    wpAny (model c.X.prog c.X.w) c.X.A (eval e c.X.env) (EP c.X pins σ (FinF c R H P)) c.X.xe s
def tUF (c : Cy cls) (e : Expr) : TE := fun σ H Q => ∃ (ρ : Rho) (R : Addr → Prop) (P : D → Prop), Sl c R H σ ρ ∧ WF c e ρ P ∧ ∀ v H', FinF c R H P v H' → Q v H'
theorem peUF (c : Cy cls) (e : Expr) : PE c.X e (tUF c e) := ⟨fun pins s σ H Q I h => by
  obtain ⟨ρ, R, P, S, w, k⟩ := h
  exact thn (w.run pins s σ H R I S) fun u s' ⟨v, H', I', r, f⟩ => ⟨v, H', I', r, k v H' f⟩⟩
theorem wf_of {e : Expr} {te : TE} {P : D → Prop} (hp : PE c.X e te) (h : ∀ σ H R, Sl c R H σ ρ → te σ H (FinF c R H P)) : WF c e ρ P :=
  ⟨fun pins s σ H R I S => hp.run pins s σ H _ I (h σ H R S)⟩
theorem WF.mono {e : Expr} {P P' : D → Prop} (w : WF c e ρ P) (h : ∀ d, P d → P' d) : WF c e ρ P' := ⟨fun pins s σ H R I S =>
  thn (w.run pins s σ H R I S) fun u s' ⟨v, H', I', r, d, f1, f2, f3, f4⟩ => ⟨v, H', I', r, d, f1, f2, f3, h d f4⟩⟩
theorem wf_flat {e : Expr} {P : D → Prop} (h : WE c e ρ (fun d => Lf d ∧ P d) (fun _ => False)) : WF c e ρ P :=
  wf_of (peU c e) fun σ H R S => tU.mk h S passAll exOk0 fun v H' ⟨d, g, ok, q, hl, hp⟩ => ⟨d, g, ok, FreshP.flat hl q, hp⟩
theorem we_of_wf {e : Expr} {P : D → Prop} {ex : Xd → Prop} (h : WF c e ρ P) : WE c e ρ P ex :=
  ⟨fun pins s σ H R E I S p x => thn (h.run pins s σ H R I S) fun u s' ⟨v, H', I', r, f⟩ => ⟨v, H', I', r, f.fin⟩⟩

/-! ### calls -/
abbrev FF := List D → (D → Prop) → Prop
def spF (cls : Nat → Addr) (ff : FF) : Sp := fun vs H Q _ => ∃ (W : Wd cls) (R : Addr → Prop) (ds : List D) (rt : D → Prop), W.nd R ∧ W.ok H ∧ DqL W R H vs ds ∧ ff ds rt ∧
  (∀ v d H', Gr W H H' → W.ok H' → FreshP R H H' v d → rt d → Q v H')
structure DfF (P : Program) (w : World) (K : PySem.W.Frag) (mg : Str → Option Value) (base : Heap) (cls : Nat → Addr) (x : Str) (k : Nat) (ps : List Str) (ff : FF) : Prop where
  ex : ∃ f fd, FnOk P w K mg base (L2N.CX P w) k f fd ps (spF cls ff) ∧ mg x = some (.ref f) ∧ PySem.W.keepIn K (.ref f) = true ∧ Binds K fd ps []
abbrev DfFX (X : Cx) (cls : Nat → Addr) (x : Str) (k : Nat) (ps : List Str) (ff : FF) : Prop := DfF X.prog X.w X.K X.mg X.base cls x k ps ff
theorem wf_call {x : Str} {p pos : Pos} {e : Expr} {es : List Expr} {k : Nat} {ps : List Str} {ff : FF} {P : D → Prop} (d : DfFX c.X cls x k ps ff) (hr : Room k c.X.A) (h : WAs c ρ (fun _ => False) (e :: es) (fun ds => ff ds P))
    (hg : Gl c.X x := by rfl) (ha : PA c.X (e :: es) (tAs c (e :: es)) := by (repeat (first | exact pa_nil | refine pa_cons (peU _ _) ?_))) (hdb : (x == ("__debug__" : Str)) = false := by decide)
    (he : starEach (e :: es) c.X.env = (false, eval e c.X.env) :: starEach es c.X.env := by rfl) (hpl : (backTo pos (starEach es c.X.env)).any (·.1) = false := by rfl) : WF c (.Call (.Name x p) (e :: es) [] pos) ρ P := by
  refine ⟨fun pins s σ H R I S => ?_⟩
  obtain ⟨f, fd, F, hm, hk, hb⟩ := d.ex
  refine wpAny_Call_Name_kw (ld_glob I hg hm ?_ hdb)
  have h' : tAs c (e :: es) σ H (fun vs H1 => spF cls ff vs H1 (FinF c R H P) E0) := tAs.mk h S passAll exOk0 fun vs H1 ⟨ds, g, ok, q, hd⟩ =>
    ⟨c.W, Nw R H, ds, P, (S.grow g ok).ndr, ok, q, hd, fun v d H2 g2 ok2 q2 h2 => FinF.back g ok ⟨d, g2, ok2, q2, h2⟩⟩
  refine PySem.W.callWith_K (h₀ := c.X.base) I.ok.mod.kin hk (thn (ha.run pos pins s σ H _ I h') fun us s1 ⟨vs, H1, I1, r, q⟩ => ⟨I1.kIn, ?_⟩) he hpl
  exact run_fnS (E := fun _ => E0) F hr hb passAll I1 r q

/-! ### statements that give back -/
structure WSF (c : Cy cls) (st : List Stmt) (ρ : Rho) (rt : D → Prop) : Prop where
  run : ∀ (pins : List (Addr × Obj)) (s : Shared) (σ : L2.St) (H : Hp) (R : Addr → Prop) (Ds : Ends) (E : L2.St → XK), Inv c.X pins σ H s → Sl c R H σ ρ → Tk c.X E →
    (∀ v d H', Gr c.W c.H0 H' → c.W.ok H' → FreshP c.R0 c.H0 H' v d → rt d → Ds.rt v H') → wpAny (model c.X.prog c.X.w) c.X.A (execs st c.X.env) (SP c.X pins Ds) c.X.xe s
def tUSF (c : Cy cls) (st : List Stmt) (rt : D → Prop) : TS := fun Ds σ H => ∃ (ρ : Rho) (R : Addr → Prop) (E : L2.St → XK), Sl c R H σ ρ ∧ Tk c.X E ∧ (∀ v d H', Gr c.W c.H0 H' → c.W.ok H' → FreshP c.R0 c.H0 H' v d → rt d → Ds.rt v H') ∧ WSF c st ρ rt
theorem psF (c : Cy cls) (st : List Stmt) (rt : D → Prop) : PSs c.X st (tUSF c st rt) := ⟨fun pins s σ H Ds I ⟨ρ, R, E, S, tk, er, w⟩ => w.run pins s σ H R Ds E I S tk er⟩
theorem wsf_ret {e : Expr} {pos : Pos} {rt : D → Prop} (h : WF c e ρ rt) : WSF c [.Return (some e) pos] ρ rt :=
  ⟨fun pins s σ H R Ds E I S tk er => (pss_one (ps_ret (peUF c e))).run pins s σ H Ds I ⟨ρ, R, rt, S, h, fun v H' ⟨d, g, ok, f, hd⟩ =>
    er v d H' (S.gr.trans g) ok (f.of S.sub fun a z => none_back S.ok S.gr z) hd⟩⟩
theorem wsf_ws {st : Stmt} {rest : List Stmt} {rt : D → Prop} (h : WS c st ρ { nx := fun ρ' => WSF c rest ρ' rt, rt := fun _ _ => False }) : WSF c (st :: rest) ρ rt :=
  ⟨fun pins s σ H R Ds E I S tk er => (pss_cons (psU c st) (psF c rest rt)).run pins s σ H Ds I
    ⟨ρ, R, E, { nx := fun ρ' => WSF c rest ρ' rt, rt := fun _ _ => False }, S, tk, ⟨fun R1 H1 σ1 ρ1 S1 k w => ⟨ρ1, R1, E, S1, tk, er, w⟩, fun _ _ _ _ _ _ _ _ z => z.elim, fun _ _ _ _ _ _ z => z.elim, fun _ _ _ _ _ _ z => z.elim⟩, fun _ _ _ _ _ _ _ _ _ z => z.elim, h⟩⟩
theorem wsf_nil {rest : List Stmt} {rt : D → Prop} (h : rest = [] → False) : True := trivial
/-- if t: return e; .. -/
theorem wsf_if {t e : Expr} {p2 pos : Pos} {rest : List Stmt} {rt : D → Prop} (h : WT c t ρ (fun k => (k = true → WF c e ρ rt) ∧ (k = false → WSF c rest ρ rt)) (fun _ => False)) : WSF c (.If t [.Return (some e) p2] [] pos :: rest) ρ rt :=
  ⟨fun pins s σ H R Ds E I S tk er => (pss_cons (ps_if (ptU c t) (pss_one (ps_ret (peUF c e))) pss_nil) (psF c rest rt)).run pins s σ H Ds I
    (tUT.mk h S (tk.at σ) exOkF fun k H1 ⟨g, ok, h1, h2⟩ => by
      have S1 := S.grow g ok
      cases k with
      | true => exact ⟨ρ, _, rt, S1, h1 rfl, fun v H' ⟨d, g2, ok2, f, hd⟩ => er v d H' (S1.gr.trans g2) ok2 (f.of S1.sub fun a z => none_back S1.ok S1.gr z) hd⟩
      | false => exact ⟨ρ, _, E, S1, tk, er, h2 rfl⟩)⟩
end
section
variable {P : Program} {w : World} {K : PySem.W.Frag} {mg : Str → Option Value} {base : Heap}
theorem def_okF {x qual : Str} {st : Stmt} {f : Addr} {fd : FuncData} {N ps : List Str} {k : Nat} {ff : FF} (F : Fun K x qual st f fd) (S : FnScope N ps (defScope st)) (len : ∀ ds rt, ff ds rt → ds.length = ps.length)
    (body : ∀ (cdv : Value) (A : Around) (outer : List Env) (s : Shared) (H : Hp) (E : XK) (W : Wd cls) (R : Addr → Prop) (ds : List D) (rt : D → Prop), Room k (A.deeper (envOfC qual (defScope st) s.heap.objs.size f cdv)) → ff ds rt →
      WSF (cyOf P w K mg base N qual (defScope st) f cdv A outer s H E W R) (defBody st) (rho0 N ds) rt) : FnOk P w K mg base (L2N.CX P w) (k + 1) f fd ps (spF cls ff) := by
  refine okN F S (fun vs H Q E h => ?_) (fun cdv A outer s H vs Q E hr h => ?_)
  · obtain ⟨W, R, ds, rt, _, _, q, h, _⟩ := h
    rw [q.length]
    exact len _ _ h
  · obtain ⟨W, R, ds, rt, nd, ok, q, h, k1⟩ := h
    exact ⟨_, psF (cyOf P w K mg base N qual (defScope st) f cdv A outer s H E W R) _ rt, rho0 N ds, R, fun _ => E, Sl.start nd ok q, L2N.takes_of rfl rfl rfl rfl, fun v d H' g ok' f hd => k1 v d H' g ok' f hd, body cdv A outer s H E W R ds rt hr h⟩
end
end Vl
end
section
set_option maxHeartbeats 4000000
namespace Vl
open PySem PySem.Spec PyProof.Rows L2
variable {cls : Nat → Addr}
section
variable {c : Cy cls} {R R' : Addr → Prop} {H H' H2 : Hp} {σ : L2.St} {ρ : Rho}
theorem Sl.to (S : Sl c R H σ ρ) (g : Gr c.W H H') (ok : c.W.ok H') (h1 : ∀ a o, R a → H a = some o → R' a) (h2 : ∀ a, R' a → R a ∨ H a = none) : Sl c R' H' σ ρ where
  ndr := fun b m z => nw_dr S.ok S.ndr b m (h2 b z)
  ok := ok
  ok0 := S.ok0
  gr := S.gr.trans g
  sub := fun a z => (h2 a z).elim (S.sub a) fun z => .inr (none_back S.ok S.gr z)
  len := S.len
  val := fun i d e => by
    obtain ⟨v, e1, e2⟩ := S.val i d e
    exact ⟨v, e1, e2.mono2 fun a o r e => ⟨h1 a o r e, hH_of S.ndr g a o r e⟩⟩
  exc := fun i d e => by
    obtain ⟨v, e1, e2⟩ := S.exc i d e
    exact ⟨v, e1, e2.mono2 fun a o r e => ⟨h1 a o r e, hH_of S.ndr g a o r e⟩⟩
  lst := fun i ds e => by
    obtain ⟨a, vs, e1, e2, e3, e4, e5⟩ := S.lst i ds e
    have nd : ¬ c.W.mv a := fun z => S.ok0 _ (c.W.mvb _ z) e3
    exact ⟨a, vs, e1, fun z => (h2 a z).elim e2 (fun z => by rw [e4] at z; cases z), e3, g a _ nd e4, e5.mono2 fun a o r e => ⟨h1 a o r e, hH_of S.ndr g a o r e⟩⟩
  sep := S.sep
  ob := fun i a k fs e => by
    obtain ⟨dx, vs, e1, e2, e3, e4, e5⟩ := S.ob i a k fs e
    have nd : ¬ c.W.mv a := fun z => S.ok0 _ (c.W.mvb _ z) e3
    exact ⟨dx, vs, e1, fun z => (h2 a z).elim e2 (fun z => by rw [e4] at z; cases z), e3, g a _ nd e4, e5.mono2 fun a o r e => ⟨h1 a o r e, hH_of S.ndr g a o r e⟩⟩

/-! ### a comprehension whose items are new -/
def tUFB (c : Cy cls) (scope : Scope) (e : Expr) : TE := fun σ H Q => ∀ s H0 C cl fp, tUF (c.blk s H0 scope C cl fp) e σ H Q
theorem peUFB (scope : Scope) (e : Expr) (s : Shared) (H0 : Hp) (C : Addr) (cl : List (Str × Addr)) (fp : List Addr) : PE (c.X.blk s H0 scope (compEnvC scope cl C c.X.env) fp) e (tUFB c scope e) := ⟨fun pins s1 σ H Q I h => (peUF (c.blk s H0 scope C cl fp) e).run pins s1 σ H Q I (h s H0 C cl fp)⟩
def WFB (c : Cy cls) (scope : Scope) (e : Expr) (ρ : Rho) (P : D → Prop) : Prop := ∀ s H0 C cl fp, WF (c.blk s H0 scope C cl fp) e ρ P
theorem lcF_read {tg iter elt : Expr} {scope : Scope} {vs : List Nat} {g : TG} {G : D → Rho → Rho → Prop} {P : D → Prop} (hg : TgOk c g vs G) (S : Sl c R H σ ρ)
    (h : WI c tg iter ρ (fun items => items.length ≤ 1000000 ∧ ∃ Acc : Nat → List D → Prop, Acc 0 [] ∧ (∀ i d acc, items[i]? = some d → Acc i acc → ∃ ρ', G d (wipeR ρ vs) ρ' ∧ WFB c scope elt ρ' (fun y => Acc (i + 1) (acc ++ [y]))) ∧ (∀ acc, Acc items.length acc → P (.lst acc))) (fun _ => False)) :
    tLc (tUI c tg iter) g tYes (tUFB c scope elt) vs σ H (FinF c R H P) := by
  refine ⟨ρ, R, E0, _, _, S, passAll, exOk0, h, fun J H1 ⟨items, g1, ok1, ⟨Gj, Y, w, hG, hY⟩, hlen, Acc, a0, turn, done⟩ q hq => ?_⟩
  have S1 := S.grow g1 ok1
  have s0 : Same H1 (upd H1 q (.lst [])) := same_upd hq
  have hq0 : H q = none := none_back ok1 g1 hq
  have nqd : ¬ c.W.mv q := fun z => c.W.some H1 ok1 _ (c.W.mvb _ z) hq
  refine lc_it w (fun i H' => ∃ ws acc F, H' q = some (.lst ws) ∧ MqL (fun a => Nw R H a ∧ ¬ F a ∧ a ≠ q) H' F ws acc ∧ (∀ a, F a → H1 a = none ∧ H' a ≠ none ∧ a ≠ q) ∧ Acc i acc ∧ acc.length ≤ i ∧ Gr c.W H1 H' ∧ c.W.ok H')
    ⟨[], [], fun _ => False, upd_same, .nil, fun _ z => z.elim, a0, Nat.le_refl _, Gr.of_same s0, ok_same ok1 s0⟩
    (fun i H' _ ⟨ws, acc, F, h1, h2, hF, h3, h4, h5, h6⟩ => hG (Nw (Nw R H) H1) H' (Kp.grow S1.ndr h5)) (fun i v Hc H' hi ⟨ws, acc, F, h1, h2, hF, h3, h4, h5, h6⟩ y => ?_) (fun H' ⟨ws, acc, F, h1, h2, hF, h3, h4, h5, h6⟩ => ?_)
  · -- a turn
    have SA := S1.alive
    have KA : Kp (Nw R H) H1 (Al (Nw R H) H1) Hc := fun a o r e => ⟨⟨r, fun z => by rw [e] at z; cases z⟩, hH_of S1.ndr h5 a o r e⟩
    have SC : Sl c (Al (Nw R H) H1) Hc σ ρ := SA.to h5 h6 (fun a o r _ => r) fun a z => .inl z
    obtain ⟨d, hd, sm, qd⟩ := hY i Hc v H' y _ SC.ndr h6 KA
    have ok' := ok_same h6 sm
    have g' : Gr c.W H1 H' := h5.trans (Gr.of_same sm)
    -- the region of this turn
    have S3 : Sl c (fun a => Al (Nw R H) H1 a ∨ (Hc a = none ∧ H' a ≠ none)) H' σ ρ := SC.to (Gr.of_same sm) ok' (fun a o r _ => .inl r) fun a z => z.elim .inl fun z => .inr z.1
    have qd3 : Dq c.W (fun a => Al (Nw R H) H1 a ∨ (Hc a = none ∧ H' a ≠ none)) H' v d := qd.mono2 fun a o r e => ⟨r.elim .inl fun z => .inr ⟨z, fun z2 => by rw [e] at z2; cases z2⟩, e⟩
    obtain ⟨ρ', hρ, ht⟩ := turn i d acc hd h3
    refine hg _ H' σ ρ v d ρ' (S3.wipe vs) qd3 hρ _ fun σ2 S4 hw => ⟨hw, ?_⟩
    unfold tYes
    dsimp only
    rw [if_pos rfl]
    intro s0 H0 C cl fp
    refine ⟨ρ', _, _, S4.blk, ht s0 H0 C cl fp, fun y H4 ⟨dy, g4, ok4, ⟨GG, q4, n4⟩, hA⟩ => ?_⟩
    have g4 : Gr c.W H' H4 := g4
    have ok4 : c.W.ok H4 := ok4
    have h1' := sm q _ h1
    have e4 := g4 q _ nqd h1'
    have Fp : ∀ a, F a → H' a ≠ none := fun a z => by
      obtain ⟨_, z2, _⟩ := hF a z
      cases e : Hc a with
      | none => exact absurd e z2
      | some o => rw [sm a o e]; exact fun z => nomatch z
    have FG : ∀ a, F a → ¬ GG a := fun a z z2 => Fp a z (n4 a z2).1
    have Fnd : ∀ a, F a → ¬ c.W.mv a := fun a z z2 => c.W.some H1 ok1 _ (c.W.mvb _ z2) (hF a z).1
    have Gq : ∀ a, GG a → a ≠ q := fun a z z2 => by
      have := (n4 a z).1
      rw [z2, h1'] at this
      cases this
    have nb : ∀ a, c.W.base a → a ≠ q := fun a b z => c.W.some H1 ok1 _ b (z ▸ hq)
    have T3 : ∀ a, (Al (Nw R H) H1 a ∨ (Hc a = none ∧ H' a ≠ none)) ∨ H' a = none → Nw R H a := fun a z => by
      rcases z with (z | z) | z
      · exact z.1
      · exact .inr (none_back ok1 g1 (none_back h6 h5 z.1))
      · exact .inr (none_back ok1 g1 (none_back ok' g' z))
    have T3q : ∀ a, (Al (Nw R H) H1 a ∨ (Hc a = none ∧ H' a ≠ none)) ∨ H' a = none → a ≠ q := fun a z e => by
      subst e
      rcases z with (z | z) | z
      · exact z.2 hq
      · rw [h1] at z; cases z.1
      · rw [h1'] at z; cases z
    have T3F : ∀ a, (Al (Nw R H) H1 a ∨ (Hc a = none ∧ H' a ≠ none)) ∨ H' a = none → ¬ F a := fun a z f => by
      rcases z with (z | z) | z
      · exact z.2 (hF a f).1
      · exact (hF a f).2.1 z.1
      · exact Fp a f z
    have new : Mq (fun a => Nw R H a ∧ ¬ (F a ∨ GG a) ∧ a ≠ q) (upd H4 q (.lst (ws ++ [y]))) GG y dy := q4.mono3 (fun a o t e => ⟨⟨T3 a t.1, fun z => z.elim (T3F a t.1) t.2, T3q a t.1⟩, by rw [upd_ne (T3q a t.1)]; exact e⟩) (fun _ z => z) fun a o z e => by
      rw [upd_ne (Gq a z)]
      exact e
    have old : MqL (fun a => Nw R H a ∧ ¬ (F a ∨ GG a) ∧ a ≠ q) (upd H4 q (.lst (ws ++ [y]))) F ws acc := h2.mono3 (fun a o t e => ?_) (fun _ z => z) fun a o z e => by
      rw [upd_ne (hF a z).2.2]
      exact g4 a o (Fnd a z) (sm a o e)
    · refine ⟨ws, e4, by rw [h2.length, sizeLine_eq]; omega, ws ++ [y], acc ++ [dy], fun a => F a ∨ GG a, upd_same, MqL.snoc new (fun a z => FG a z) old, fun a z => ?_, hA, by rw [List.length_append, List.length_singleton]; omega, fun a o n e => ?_, c.W.keep H4 _ ok4 fun a b => upd_ne (nb a b)⟩
      · rcases z with z | z
        · refine ⟨(hF a z).1, ?_, (hF a z).2.2⟩
          rw [upd_ne (hF a z).2.2]
          cases e : H' a with
          | none => exact absurd e (Fp a z)
          | some o => rw [g4 a o (Fnd a z) e]; exact fun z => nomatch z
        · refine ⟨none_back ok' g' (n4 a z).1, ?_, Gq a z⟩
          rw [upd_ne (Gq a z)]
          exact (n4 a z).2
      · rw [upd_ne (show a ≠ q from fun z => by rw [z, hq] at e; cases e)]
        exact g4 a o n (g' a o n e)
    · have nG : ¬ GG a := fun z => by
        have := (n4 a z).1
        rw [sm a o e] at this
        cases this
      refine ⟨⟨t.1, fun z => z.elim t.2.1 nG, t.2.2⟩, ?_⟩
      rw [upd_ne t.2.2]
      have nm : ¬ c.W.mv a := fun z => t.1.elim (fun r => S.ndr a z r) fun n => c.W.some H S.ok _ (c.W.mvb _ z) n
      exact g4 a o nm (sm a o e)
  · refine ⟨.lst acc, g1.trans h5, h6, ⟨fun a => F a ∨ a = q, .lst (.inr rfl) h1 (h2.mono3 (fun a o t e => ⟨⟨t.1, fun z => z.elim t.2.1 t.2.2⟩, e⟩) (fun _ z => z) fun _ _ _ e => e) (fun b z => ⟨.inl z, (hF b z).2.2⟩), fun a z => ?_⟩, done acc h3⟩
    rcases z with z | z
    · exact ⟨none_back ok1 g1 (hF a z).1, (hF a z).2.1⟩
    · subst z
      exact ⟨hq0, fun z => by rw [h1] at z; cases z⟩
end
end Vl
end
section
set_option maxHeartbeats 4000000
namespace Vl
open PySem PySem.Spec PyProof.Rows L2
variable {cls : Nat → Addr}
section
variable {c : Cy cls} {R R' : Addr → Prop} {H H' H2 : Hp} {σ : L2.St} {ρ : Rho}
/-- [elt for x in iter], the items new -/
theorem wf_lc (j : Nat) {x : Str} {xp : Pos} {iter elt : Expr} {scope : Scope} {pos : Pos} {P : D → Prop} (hN : c.X.N.Nodup)
    (h : WI c (.Name x xp) iter ρ (fun items => items.length ≤ 1000000 ∧ ∃ f : Nat → D → D → Prop, (∀ i d, items[i]? = some d → WFB c scope elt ((ρ.set j none).set j (some (.val d))) (fun y => f i d y)) ∧
      ∀ acc, acc.length = items.length → (∀ i d y, items[i]? = some d → acc[i]? = some y → f i d y) → P (.lst acc)) (fun _ => False)) (hc : c.X.calm = true := by rfl)
    (hpg : ∀ (s : Shared) (H : Hp) (C : Addr) (cl : List (Str × Addr)) (fp : List Addr), PG (c.X.blk s H scope (compEnvC scope cl C c.X.env) fp) (.Name x xp) (gName j) := by exact fun _ _ _ _ _ => pg_name (by assumption) rfl (Or.inl rfl))
    (ok : BlkOk c.X.N c.X.env.scope scope [(x, j)] := by exact blkOk_by (by kernel_rfl)) (hs : ∀ x, foldedSetIterable iter c.X.env x = pure x := by intro _; rfl) : WF c (.ListComp elt [⟨.Name x xp, iter, [], 0⟩] scope pos) ρ P :=
  wf_of (pe_lc (own := [(x, j)]) hc hN (piU c (.Name x xp) iter) ok hpg (fun s H C cl fp => pts_nil) (peUFB scope elt) hs) fun σ H R S =>
    lcF_read (vs := [j]) (G := G1 j) tg_name S ⟨fun pins s σ H R E I S p x => thn (h.run pins s σ H R E I S p x) fun v s1 q => thn q fun itv s2 z => by
      obtain ⟨it, fp, tn, J, H2, e, I2, T, st2, f2, items, g, ok, w, hl, f, hf, hp⟩ := z
      refine ⟨it, fp, tn, J, H2, e, I2, T, st2, f2, items, g, ok, w, hl, fun i acc => acc.length = i ∧ ∀ k d y, items[k]? = some d → acc[k]? = some y → f k d y, ⟨rfl, fun k d y _ h => by simp at h⟩, fun i d acc hd ⟨h1, h2⟩ => ?_, fun acc ⟨h1, h2⟩ => hp acc h1 h2⟩
      refine ⟨_, rfl, fun s0 H0 C cl fp => WF.mono (hf i d hd s0 H0 C cl fp) fun y hy => ⟨by rw [List.length_append, List.length_singleton, h1], fun k d' y' hk hy' => ?_⟩⟩
      by_cases hki : k < acc.length
      · rw [List.getElem?_append_left hki] at hy'
        exact h2 k d' y' hk hy'
      · rw [List.getElem?_append_right (by omega)] at hy'
        have e0 : k = i := by
          have z := (List.getElem?_eq_some_iff.mp hy').1
          simp at z
          omega
        subst e0
        rw [h1, Nat.sub_self] at hy'
        rw [hd] at hk
        cases hk
        cases hy'
        exact hy⟩
/-! ### several in a row -/
def WFs (c : Cy cls) (ρ : Rho) : List Expr → (List D → Prop) → Prop
  | [], P => P []
  | e :: es, P => WF c e ρ (fun d => WFs c ρ es (fun ds => P (d :: ds)))
def tFs (c : Cy cls) : List Expr → TA
  | [] => tNil
  | e :: es => tCons (tUF c e) (tFs c es)
def FreshL (R : Addr → Prop) (H H' : Hp) (vs : List V) (ds : List D) : Prop := ∃ F, MqL (fun a => Nw R H a ∧ ¬ F a) H' F vs ds ∧ ∀ a, F a → H a = none ∧ H' a ≠ none
theorem FreshL.cons {W : Wd cls} {v : V} {d : D} {vs : List V} {ds : List D} (ok : W.ok H) (nd : W.nd R) (g1 : Gr W H H') (ok1 : W.ok H') (g2 : Gr W H' H2) (f : FreshP R H H' v d) (fs : FreshL (Al R H) H' H2 vs ds) : FreshL R H H2 (v :: vs) (d :: ds) := by
  obtain ⟨F, q, n⟩ := f
  obtain ⟨G, qs, m⟩ := fs
  have Fnd : ∀ a, F a → ¬ W.mv a := fun a z z2 => W.some H ok _ (W.mvb _ z2) (n a z).1
  have FG : ∀ a, F a → ¬ G a := fun a z z2 => (n a z).2 (m a z2).1
  refine ⟨fun a => F a ∨ G a, .cons (F1 := F) (F2 := G) ?_ ?_ (fun a z => .inl z) (fun a z => .inr z) FG, fun a z => ?_⟩
  · refine q.mono3 (fun a o t e => ?_) (fun _ z => z) fun a o z e => g2 a o (Fnd a z) e
    have nm : ¬ W.mv a := fun z => nw_dr ok nd a z t.1
    exact ⟨⟨t.1, fun z => z.elim t.2 fun z => by rw [(m a z).1] at e; cases e⟩, g2 a o nm e⟩
  · refine qs.mono3 (fun a o t e => ?_) (fun _ z => z) fun _ _ _ e => e
    rcases t.1 with r | r
    · exact ⟨⟨.inl r.1, fun z => z.elim (fun z => r.2 (n a z).1) t.2⟩, e⟩
    · exact ⟨⟨.inr (none_back ok1 g1 r), fun z => z.elim (fun z => (n a z).2 r) t.2⟩, e⟩
  · rcases z with z | z
    · refine ⟨(n a z).1, ?_⟩
      cases e : H' a with
      | none => exact absurd e (n a z).2
      | some o => rw [g2 a o (Fnd a z) e]; exact fun z => nomatch z
    · exact ⟨none_back ok1 g1 (m a z).1, (m a z).2⟩
theorem tFs.mk : ∀ {es : List Expr} {R : Addr → Prop} {H : Hp} {P : List D → Prop} {Q : List V → Hp → Prop}, WFs c ρ es P → Sl c R H σ ρ → (∀ vs ds H', Gr c.W H H' → c.W.ok H' → FreshL R H H' vs ds → P ds → Q vs H') → tFs c es σ H Q
  | [], R, H, P, Q, w, S, k => k [] [] H Gr.refl S.ok ⟨fun _ => False, .nil, fun _ z => z.elim⟩ w
  | e :: es, R, H, P, Q, w, S, k => ⟨ρ, R, _, S, w, fun v H1 ⟨d, g, ok, f, w1⟩ => tFs.mk w1 (S.alive.to g ok (fun a o r _ => r) fun a z => .inl z) fun vs ds H2 g2 ok2 f2 h2 =>
      k (v :: vs) (d :: ds) H2 (g.trans g2) ok2 (FreshL.cons S.ok S.ndr g ok g2 f f2) h2⟩
theorem WFs.len : ∀ {es : List Expr} {P : List D → Prop}, WFs c ρ es P → WFs c ρ es (fun ds => P ds ∧ ds.length = es.length)
  | [], _, w => ⟨w, rfl⟩
  | e :: es, P, w => WF.mono w fun d z => by
    have mono : ∀ {es : List Expr} {P P' : List D → Prop}, WFs c ρ es P → (∀ ds, P ds → P' ds) → WFs c ρ es P' := by
      intro es
      induction es with
      | nil => intro P P' w h; exact h [] w
      | cons e es ih => intro P P' w h; exact WF.mono w fun d z => ih z fun ds k => h (d :: ds) k
    exact mono z.len fun ds k => ⟨k.1, by rw [List.length_cons, List.length_cons, k.2]⟩
/-- a tuple of such -/
theorem wf_tup {es : List Expr} {k} {pos : Pos} {P : D → Prop} (h : WFs c ρ es (fun ds => P (.tup ds))) (hp : PA c.X es (tFs c es) := by (repeat (first | exact pa_nil | refine pa_cons (peUF _ _) ?_))) (hz : es.length ≤ sizeLine := by decide) : WF c (.Tuple es k pos) ρ P :=
  wf_of (pe_tup hp) fun σ H R S => tFs.mk h.len S fun vs ds H1 g ok ⟨F, q, n⟩ ⟨hd, hl⟩ => ⟨by rw [q.length, hl]; exact hz, fun a ha => ⟨.tup ds, g.trans (Gr.of_same (same_upd ha)), ok_same ok (same_upd ha), ⟨F,
    .tup ⟨.inr (none_back ok g ha), fun z => (n a z).2 ha⟩ upd_same (q.mono3 (fun a o t e => ⟨t, same_upd ha a o e⟩) (fun _ z => z) fun a o _ e => same_upd ha a o e),
    fun b z => ⟨(n b z).1, by rw [upd_ne (show b ≠ a from fun e => (n b z).2 (e ▸ ha))]; exact (n b z).2⟩⟩, hd⟩⟩
/-- tuple(a new list) -/
theorem wf_tupleOf {a : Expr} {pp pos : Pos} {P : D → Prop} (nb : NB c.X.mg) (h : WF c a ρ (fun d => ∃ xs, d = .lst xs ∧ P (.tup xs)))
    (hp : PE c.X (.Call (.Name "tuple" pp) [a] [] pos) (tCB (fun xs H Q => ∃ p ys, xs = [.ref p] ∧ ((SqL c.X.K H p ys ∧ ∀ l, H l = none → Q (.ref l) (upd H l (.tup ys))) ∨ (SqT c.X.K H p ys ∧ Q (.ref p) H))) (tFs c [a])) := by exact pe_callTy call_tuple_of (by rfl) ((by assumption : NB _) _ (by decide)) (by decide +kernel) (pa_cons (peUF _ _) pa_nil)) :
    WF c (.Call (.Name "tuple" pp) [a] [] pos) ρ P :=
  wf_of hp fun σ H R S => ⟨ρ, R, _, S, h, fun v H1 ⟨d, g, ok, ⟨F, q, n⟩, xs, e, hd⟩ => by
    subst e
    cases q with
    | lst fa ea q nn =>
      refine ⟨_, _, rfl, .inl ⟨sq_l ea, fun l hl => ⟨.tup xs, g.trans (Gr.of_same (same_upd hl)), ok_same ok (same_upd hl), ⟨F, .tup ⟨.inr (none_back ok g hl), fun z => (n l z).2 hl⟩ upd_same (q.mono3 (fun a o t e => ⟨t, same_upd hl a o e⟩) (fun b z => (nn b z).1) fun a o _ e => same_upd hl a o e), fun b z => ⟨(n b z).1, ?_⟩⟩, hd⟩⟩⟩
      rw [upd_ne (show b ≠ l from fun e => (n b z).2 (e ▸ hl))]
      exact (n b z).2⟩
end
end Vl
end
section
set_option maxHeartbeats 4000000
namespace Vl
open PySem PySem.Spec PyProof.Rows L2
variable {cls : Nat → Addr}

/-! ### a tree at a name -/
/-- the name i has a tree with the lists F; the slots tell nothing of it -/
structure Tr (c : Cy cls) (R : Addr → Prop) (H : Hp) (σ : L2.St) (ρ : Rho) (i : Nat) (F : Addr → Prop) (v : V) (d : D) : Prop where
  at_ : σ[i]? = some (some v)
  no : ρ[i]? = some none
  q : Mq R H F v d
  nR : ∀ a, F a → ¬ R a
  n0 : ∀ a, F a → c.H0 a = none
  al : ∀ a, F a → H a ≠ none
  sp : ∀ (j : Nat) ds b, ρ[j]? = some (some (.lst ds)) → σ[j]? = some (some (.ref b)) → ¬ F b
  so : ∀ (j : Nat) a k fs, ρ[j]? = some (some (.ob a k fs)) → ¬ F a
section
variable {c : Cy cls} {R R' : Addr → Prop} {H H' H2 : Hp} {σ : L2.St} {ρ : Rho} {i : Nat} {F : Addr → Prop} {v : V} {d : D}
theorem Tr.nm (T : Tr c R H σ ρ i F v d) (S : Sl c R H σ ρ) : ∀ a, F a → ¬ c.W.mv a := fun a z z2 => S.ok0 _ (c.W.mvb _ z2) (T.n0 a z)
theorem Tr.grow (T : Tr c R H σ ρ i F v d) (S : Sl c R H σ ρ) (g : Gr c.W H H') (ok : c.W.ok H') : Tr c (Nw R H) H' σ ρ i F v d where
  at_ := T.at_
  no := T.no
  q := T.q.mono3 (fun a o t e => ⟨.inl t, hH_of S.ndr g a o t e⟩) (fun _ z => z) fun a o z e => g a o (T.nm S a z) e
  nR := fun a z y => y.elim (T.nR a z) (T.al a z)
  n0 := T.n0
  al := fun a z => by
    cases e : H a with
    | none => exact absurd e (T.al a z)
    | some o => rw [g a o (T.nm S a z) e]; exact fun z => nomatch z
  sp := T.sp
  so := T.so
theorem Tr.setVal {j : Nat} {w : V} {y : D} (T : Tr c R H σ ρ i F v d) (hj : j ≠ i) : Tr c R H (σ.set j (some w)) (ρ.set j (some (.val y))) i F v d where
  at_ := by rw [List.getElem?_set_ne hj]; exact T.at_
  no := by rw [List.getElem?_set_ne hj]; exact T.no
  q := T.q
  nR := T.nR
  n0 := T.n0
  al := T.al
  sp := fun k ds b h1 h2 => by
    by_cases hk : j = k
    · subst hk
      have z := get_set_self h1
      cases z
    · rw [List.getElem?_set_ne hk] at h1 h2
      exact T.sp k ds b h1 h2
  so := fun k a kk fs h1 => by
    by_cases hk : j = k
    · subst hk
      have z := get_set_self h1
      cases z
    · rw [List.getElem?_set_ne hk] at h1
      exact T.so k a kk fs h1
/-- something else is written -/
theorem Tr.mut {p : Addr} {o : HO} {ρ' : Rho} (T : Tr c R H σ ρ i F v d) (h1 : ¬ R p) (h2 : ¬ F p) (hi : ρ'[i]? = some none) (hl : ∀ (j : Nat) ds b, ρ'[j]? = some (some (.lst ds)) → σ[j]? = some (some (.ref b)) → ¬ F b) (ho : ∀ (j : Nat) a k fs, ρ'[j]? = some (some (.ob a k fs)) → ¬ F a) : Tr c R (upd H p o) σ ρ' i F v d where
  at_ := T.at_
  no := hi
  q := T.q.off (G := fun a => a = p) (fun a t e => h1 (e ▸ t)) (fun a n => upd_ne n) fun a z e => h2 (e ▸ z)
  nR := T.nR
  n0 := T.n0
  al := fun a z => by rw [upd_ne (show a ≠ p from fun e => h2 (e ▸ z))]; exact T.al a z
  sp := hl
  so := ho
/-- the tree as a datum -/
theorem Sl.pubTree (S : Sl c R H σ ρ) (T : Tr c R H σ ρ i F v d) : Sl c (fun a => R a ∨ F a) H σ (ρ.set i (some (.val d))) := by
  have w : ∀ b, R b → (R b ∨ F b) := fun b r => .inl r
  have S1 : Sl c (fun a => R a ∨ F a) H σ ρ := {
    ndr := fun b m z => z.elim (S.ndr b m) fun z => T.nm S b z m
    ok := S.ok
    ok0 := S.ok0
    gr := S.gr
    sub := fun a z => z.elim (S.sub a) fun z => .inr (T.n0 a z)
    len := S.len
    val := fun j d h => let ⟨v, e1, e2⟩ := S.val j d h; ⟨v, e1, e2.wide w⟩
    lst := fun j e h => let ⟨a, vs, e1, e2, e3, e4, e5⟩ := S.lst j e h; ⟨a, vs, e1, fun z => z.elim e2 (T.sp j e a h e1), e3, e4, e5.wide w⟩
    sep := S.sep
    ob := fun j a k fs h => let ⟨dx, vs, e1, e2, e3, e4, e5⟩ := S.ob j a k fs h; ⟨dx, vs, e1, fun z => z.elim e2 (T.so j a k fs h), e3, e4, e5.wide w⟩
    exc := fun j e h => let ⟨v, e1, e2⟩ := S.exc j e h; ⟨v, e1, e2.wide w⟩ }
  have z := S1.setVal (i := i) (v := v) (d := d) (T.q.dq (fun a z => .inr z) fun a z => .inl z)
  have e : σ.set i (some v) = σ := by
    apply List.ext_getElem?
    intro j
    by_cases hj : i = j
    · subst hj
      have lt : i < σ.length := (List.getElem?_eq_some_iff.mp T.at_).1
      rw [List.getElem?_set_self lt, T.at_]
    · rw [List.getElem?_set_ne hj]
  rw [e] at z
  exact z

structure WX (c : Cy cls) (i : Nat) (d : D) (st : List Stmt) (ρ : Rho) (nx : D → Rho → Prop) (p : Po) : Prop where
  run : ∀ (pins : List (Addr × Obj)) (s : Shared) (σ : L2.St) (H : Hp) (R : Addr → Prop) (Ds : Ends) (E : L2.St → XK) (F : Addr → Prop) (v : V), Inv c.X pins σ H s → Sl c R H σ ρ → Tr c R H σ ρ i F v d → Tk c.X E → EndsOk c R H Ds p → ExS c E p.ex →
    (∀ d' R' H' σ' ρ' F' v', Sl c R' H' σ' ρ' → Tr c R' H' σ' ρ' i F' v' d' → Kp R H R' H' → nx d' ρ' → Ds.nx σ' H') →
    wpAny (model c.X.prog c.X.w) c.X.A (execs st c.X.env) (SP c.X pins Ds) c.X.xe s
def tUX (c : Cy cls) (i : Nat) (st : List Stmt) : TS := fun Ds σ H => ∃ (ρ : Rho) (R : Addr → Prop) (E : L2.St → XK) (F : Addr → Prop) (v : V) (d : D) (nx : D → Rho → Prop) (p : Po), Sl c R H σ ρ ∧ Tr c R H σ ρ i F v d ∧ Tk c.X E ∧ EndsOk c R H Ds p ∧ ExS c E p.ex ∧
  (∀ d' R' H' σ' ρ' F' v', Sl c R' H' σ' ρ' → Tr c R' H' σ' ρ' i F' v' d' → Kp R H R' H' → nx d' ρ' → Ds.nx σ' H') ∧ WX c i d st ρ nx p
theorem psX (c : Cy cls) (i : Nat) (st : List Stmt) : PSs c.X st (tUX c i st) := ⟨fun pins s σ H Ds I ⟨ρ, R, E, F, v, d, nx, p, S, T, tk, en, ex, kn, w⟩ => w.run pins s σ H R Ds E F v I S T tk en ex kn⟩
variable {nx : D → Rho → Prop} {p : Po} {rest : List Stmt}
theorem wx_nil (h : nx d ρ) : WX c i d [] ρ nx p := ⟨fun pins s σ H R Ds E F v I S T tk en ex kn => pss_nil.run pins s σ H Ds I (kn d R H σ ρ F v S T Kp.refl h)⟩
/-- the tree is a datum from here on -/
theorem wx_pub {st : List Stmt} (h : WSs c st (ρ.set i (some (.val d))) p) : WX c i d st ρ nx p :=
  ⟨fun pins s σ H R Ds E F v I S T tk en ex kn => h.run pins s σ H _ Ds E I (S.pubTree T) tk (en.from (Kp.wide fun _ r => .inl r)) ex⟩
/-- nothing more of it -/
theorem wx_drop {st : List Stmt} (h : WSs c st ρ p) : WX c i d st ρ nx p := ⟨fun pins s σ H R Ds E F v I S T tk en ex kn => h.run pins s σ H _ Ds E I S tk en ex⟩
theorem wx_set (j : Nat) {x : Str} {e : Expr} {pos pos' : Pos} (hN : c.X.N.Nodup) (hi : c.X.N[j]? = some x) (h : WE c e ρ (fun y => WX c i d rest (ρ.set j (some (.val y))) nx p) (p.ex ρ)) (hj : j ≠ i := by decide) (hx : Loc c.X.env.scope x := by first | exact Or.inl rfl | exact Or.inr rfl)
    (hs : swapsWith e (some (.Name x pos')) pos.line c.X.env = pure false := by rfl) (hf : c.X.fn x = true ∨ c.X.env.scope.names.lookup x = some .local := by first | exact .inl rfl | exact .inr rfl) : WX c i d (.Assign [.Name x pos'] e pos :: rest) ρ nx p :=
  ⟨fun pins s σ H R Ds E F v I S T tk en ex kn => (pss_cons (ps_set hN hi hx (peU c e) hs hf) (psX c i rest)).run pins s σ H Ds I
    (tU.mk h S (tk.at σ) (ex.at S) fun w H1 ⟨y, g, ok, q, hw⟩ => ⟨_, _, E, F, v, d, nx, p, (S.grow g ok).setVal q, (T.grow S g ok).setVal hj, tk, en.from (Kp.grow S.ndr g), ex, fun d' R' H' σ' ρ' F' v' S' T' k hn => kn d' R' H' σ' ρ' F' v' S' T' ((Kp.grow S.ndr g).trans k) hn, hw⟩)⟩
theorem wx_if {t : Expr} {a b : List Stmt} {pos : Pos} (h : WT c t ρ (fun k => (k = true → WX c i d a ρ (fun d' ρ' => WX c i d' rest ρ' nx p) { p with nx := fun _ => False }) ∧ (k = false → WX c i d b ρ (fun d' ρ' => WX c i d' rest ρ' nx p) { p with nx := fun _ => False })) (p.ex ρ)) : WX c i d (.If t a b pos :: rest) ρ nx p :=
  ⟨fun pins s σ H R Ds E F v I S T tk en ex kn => (pss_cons (ps_if (ptU c t) (psX c i a) (psX c i b)) (psX c i rest)).run pins s σ H Ds I
    (tUT.mk h S (tk.at σ) (ex.at S) fun k H1 ⟨g, ok, h1, h2⟩ => by
      have S1 := S.grow g ok
      have T1 := T.grow S g ok
      have k1 := Kp.grow (W := c.W) S.ndr g
      have en1 := en.from k1
      have go : ∀ st, WX c i d st ρ (fun d' ρ' => WX c i d' rest ρ' nx p) { p with nx := fun _ => False } → tUX c i st { Ds with nx := fun σ H => tUX c i rest Ds σ H } σ H1 := fun st w =>
        ⟨ρ, _, E, F, v, d, _, { p with nx := fun _ => False }, S1, T1, tk, ⟨fun _ _ _ _ _ _ z => z.elim, en1.rt, en1.bk, en1.ct⟩, ex, fun d' R' H' σ' ρ' F' v' S' T' k2 w' => ⟨ρ', R', E, F', v', d', nx, p, S', T', tk, en1.from k2, ex, fun d3 R3 H3 σ3 ρ3 F3 v3 S3 T3 k3 hn => kn d3 R3 H3 σ3 ρ3 F3 v3 S3 T3 ((k1.trans k2).trans k3) hn, w'⟩, w⟩
      cases k with
      | true => exact go a (h1 rfl)
      | false => exact go b (h2 rfl))⟩
/-- a test that reads the tree -/
theorem wx_ifD {t : Expr} {a b : List Stmt} {pos : Pos} (h : WT c t (ρ.set i (some (.val d))) (fun k => (k = true → WSs c a ρ { p with nx := fun ρ' => False }) ∧ (k = false → WX c i d rest ρ nx p)) (fun _ => False)) (hb : b = [] := by rfl) : WX c i d (.If t a b pos :: rest) ρ nx p :=
  ⟨fun pins s σ H R Ds E F v I S T tk en ex kn => (pss_cons (ps_if (ptU c t) (pssU c a) (psX c i b)) (psX c i rest)).run pins s σ H Ds I
    (tUT.mk h (S.pubTree T) (tk.at σ) exOkF fun k H1 ⟨g, ok, h1, h2⟩ => by
      have S1 := S.grow g ok
      have T1 := T.grow S g ok
      have k1 := Kp.grow (W := c.W) S.ndr g
      have en1 := en.from k1
      cases k with
      | true => exact ⟨ρ, _, E, { p with nx := fun _ => False }, S1, tk, ⟨fun _ _ _ _ _ _ z => z.elim, en1.rt, en1.bk, en1.ct⟩, ex, h1 rfl⟩
      | false =>
        subst hb
        exact ⟨ρ, _, E, F, v, d, fun d' ρ' => WX c i d' rest ρ' nx p, { p with nx := fun _ => False }, S1, T1, tk, ⟨fun _ _ _ _ _ _ z => z.elim, en1.rt, en1.bk, en1.ct⟩, ex, fun d' R' H' σ' ρ' F' v' S' T' k2 w' => ⟨ρ', R', E, F', v', d', nx, p, S', T', tk, en1.from k2, ex, fun d3 R3 H3 σ3 ρ3 F3 v3 S3 T3 k3 hn => kn d3 R3 H3 σ3 ρ3 F3 v3 S3 T3 ((k1.trans k2).trans k3) hn, w'⟩, wx_nil (h2 rfl)⟩)⟩
end
end Vl
end
section
set_option maxHeartbeats 4000000
namespace Vl
open PySem PySem.Spec PyProof.Rows L2
variable {cls : Nat → Addr}
section
variable {c : Cy cls} {R R' : Addr → Prop} {H H' H2 : Hp} {σ : L2.St} {ρ : Rho} {i : Nat} {F : Addr → Prop} {v : V} {d : D}
variable {nx : D → Rho → Prop} {p : Po} {rest : List Stmt}
theorem Mq.lst_inv {ds : List D} (q : Mq R H F v (.lst ds)) : ∃ a vs G, v = .ref a ∧ F a ∧ H a = some (.lst vs) ∧ MqL R H G vs ds ∧ (∀ b, G b → F b ∧ b ≠ a) := by
  cases q with
  | lst fa e q n => exact ⟨_, _, _, rfl, fa, e, q, n⟩
/-- a list of the tree is followed: the same value in every later heap -/
theorem Mq.sub {ds es : List D} {k : Nat} (hd : ∀ a, R a → ¬ F a) (q : Mq R H F v (.lst ds)) (hk : ds[k]? = some (.lst es)) : ∃ a vs r ws, v = .ref a ∧ F a ∧ H a = some (.lst vs) ∧ vs[k]? = some (.ref r) ∧ F r ∧ H r = some (.lst ws) ∧ vs.length = ds.length ∧ ws.length = es.length := by
  obtain ⟨a, vs, G, e, fa, ea, q, n⟩ := q.lst_inv
  obtain ⟨w, G', e1, q1, hG, _⟩ := q.at (fun a t g => hd a t (n a g).1) hk
  obtain ⟨r, ws, G2, er, fr, ea2, q2, n2⟩ := q1.lst_inv
  subst er
  exact ⟨a, vs, r, ws, e, fa, ea, e1, (n _ (hG _ fr)).1, ea2, q.length, q2.length⟩
/-- a plain item of the list behind the item k is written -/
theorem Mq.put1 {a r : Addr} {vs ws : List V} {ds es : List D} {k m : Nat} {x : V} {y : D} (hd : ∀ a, R a → ¬ F a) (q : Mq R H F (.ref a) (.lst ds)) (hk : ds[k]? = some (.lst es)) (ea : H a = some (.lst vs)) (ek : vs[k]? = some (.ref r)) (er : H r = some (.lst ws)) (hy : ∀ F H', Mq R H' F x y) :
    F r ∧ Mq R (upd H r (.lst (ws.set m x))) F (.ref a) (.lst (ds.set k (.lst (es.set m y)))) := by
  obtain ⟨a', vs', G, e, fa, ea', q, n⟩ := q.lst_inv
  cases e
  rw [ea] at ea'
  cases ea'
  obtain ⟨w, G', e1, q1, hG, up⟩ := q.at (fun a t g => hd a t (n a g).1) hk
  rw [ek] at e1
  cases e1
  obtain ⟨r', ws', G2, e2, fr, er', q2, n2⟩ := q1.lst_inv
  cases e2
  rw [er] at er'
  cases er'
  have off : ∀ b, ¬ G' b → upd H r (.lst (ws.set m x)) b = H b := fun b nb => upd_ne fun z => nb (z ▸ fr)
  refine ⟨(n _ (hG _ fr)).1, .lst fa ?_ (up _ (.lst (es.set m y)) off (.lst fr upd_same (MqL.setA (fun F => hy F _) m (q2.off (G := fun b => b = r) (fun b t z => hd b t (z ▸ (n _ (hG _ fr)).1)) (fun b nb => upd_ne nb) fun b g z => (n2 b g).2 z)) n2)) n⟩
  rw [upd_ne (show a ≠ r from fun z => (n _ (hG _ fr)).2 z.symm)]
  exact ea
theorem Mq.put2 {a r t : Addr} {vs ws us : List V} {ds es fs : List D} {k l m : Nat} {x : V} {y : D} (hd : ∀ a, R a → ¬ F a) (q : Mq R H F (.ref a) (.lst ds)) (hk : ds[k]? = some (.lst es)) (hl : es[l]? = some (.lst fs)) (ea : H a = some (.lst vs)) (ek : vs[k]? = some (.ref r)) (er : H r = some (.lst ws)) (el : ws[l]? = some (.ref t)) (et : H t = some (.lst us)) (hy : ∀ F H', Mq R H' F x y) :
    F t ∧ Mq R (upd H t (.lst (us.set m x))) F (.ref a) (.lst (ds.set k (.lst (es.set l (.lst (fs.set m y)))))) := by
  obtain ⟨a', vs', G, e, fa, ea', q, n⟩ := q.lst_inv
  cases e
  rw [ea] at ea'
  cases ea'
  obtain ⟨w, G', e1, q1, hG, up⟩ := q.at (fun a t g => hd a t (n a g).1) hk
  rw [ek] at e1
  cases e1
  have hd1 : ∀ a, R a → ¬ G' a := fun a z g => hd a z (n a (hG a g)).1
  obtain ⟨ft, q2⟩ := q1.put1 (k := l) (m := m) hd1 hl er el et hy
  have off : ∀ b, ¬ G' b → upd H t (.lst (us.set m x)) b = H b := fun b nb => upd_ne fun z => nb (z ▸ ft)
  refine ⟨(n _ (hG _ ft)).1, .lst fa ?_ (up _ _ off q2) n⟩
  rw [upd_ne (show a ≠ t from fun z => (n _ (hG _ ft)).2 z.symm)]
  exact ea
/-- the tree is written -/
theorem Sl.mutTree (S : Sl c R H σ ρ) (T : Tr c R H σ ρ i F v d) {t : Addr} {o : HO} (ft : F t) : Sl c R (upd H t o) σ ρ := by
  have h0 := T.n0 t ft
  have nr : ∀ a, R a → a ≠ t := fun a r z => T.nR t ft (z ▸ r)
  have hn : ∀ a o', R a → H a = some o' → upd H t o a = some o' := fun a o' r e => by rw [upd_ne (nr a r)]; exact e
  have nb : ∀ a, c.W.base a → a ≠ t := fun a b z => S.ok0 _ b (z ▸ h0)
  exact {
    ndr := S.ndr
    ok := c.W.keep H _ S.ok fun a b => upd_ne (nb a b)
    ok0 := S.ok0
    gr := fun a o n e => by
      rw [upd_ne (show a ≠ t from fun z => by subst z; rw [h0] at e; cases e)]
      exact S.gr a o n e
    sub := S.sub
    len := S.len
    val := fun j e h => let ⟨v, e1, e2⟩ := S.val j e h; ⟨v, e1, e2.mono (fun _ r => r) hn⟩
    lst := fun j e h => by
      obtain ⟨a, us, e1, e2, e3, e4, e5⟩ := S.lst j e h
      exact ⟨a, us, e1, e2, e3, by rw [upd_ne (show a ≠ t from fun z => T.sp j e a h e1 (z ▸ ft))]; exact e4, e5.mono (fun _ r => r) hn⟩
    sep := S.sep
    ob := fun j a k' fs' h => by
      obtain ⟨dx, us, e1, e2, e3, e4, e5⟩ := S.ob j a k' fs' h
      exact ⟨dx, us, e1, e2, e3, by rw [upd_ne (show a ≠ t from fun z => T.so j a k' fs' h (z ▸ ft))]; exact e4, e5.mono (fun _ r => r) hn⟩
    exc := fun j e h => let ⟨v, e1, e2⟩ := S.exc j e h; ⟨v, e1, e2.mono (fun _ r => r) hn⟩ }
theorem Tr.put (T : Tr c R H σ ρ i F v d) {t : Addr} {o : HO} {d' : D} (q : Mq R (upd H t o) F v d') : Tr c R (upd H t o) σ ρ i F v d' where
  at_ := T.at_
  no := T.no
  q := q
  nR := T.nR
  n0 := T.n0
  al := fun a z => by
    by_cases h : a = t
    · subst h; rw [upd_same]; exact fun z => nomatch z
    · rw [upd_ne h]; exact T.al a z
  sp := T.sp
  so := T.so
/-- tree[b1][b2] = e -/
theorem wx_put1 {x : Str} {b1 b2 e : Expr} {npos p1 p2 pos : Pos} {ds : List D} (hN : c.X.N[i]? = some x)
    (h : WE c e ρ (fun y => ∃ n, y = .int n ∧ WE c b1 ρ (fun y1 => ∃ (k : Nat) (es : List D), y1 = .int (k : Nat) ∧ ds[k]? = some (.lst es) ∧ WE c b2 ρ (fun y2 => ∃ m : Nat, y2 = .int (m : Nat) ∧ m < es.length ∧ WX c i (.lst (ds.set k (.lst (es.set m (.int n))))) rest ρ nx p) (p.ex ρ)) (p.ex ρ)) (p.ex ρ))
    (hv : Vis c.X.env.scope x := by first | exact Or.inl rfl | exact Or.inr (Or.inl rfl) | exact Or.inr (Or.inr rfl)) (hd : (x == ("__debug__" : Str)) = false := by decide) (hcd : (x == ("__classdict__" : Str)) = false := by decide) (hp1 : PlainIx b1 := by exact fun _ _ => rfl)
    (hsub : ∀ v, assign (.Subscript (.Subscript (.Name x npos) b1 p1) b2 p2) c.X.env v = (do
      let ov ← holding [v] (eval (.Subscript (.Name x npos) b1 p1) c.X.env)
      let iv ← holding [v, ov] (eval b2 c.X.env)
      standAt p2
      holding [v, ov, iv] (setItem ov iv v)
      release [v, ov, iv] []) := by intro _; rfl)
    (hs : swapsWithSole [.Subscript (.Subscript (.Name x npos) b1 p1) b2 p2] e pos.line c.X.env = pure false := by rfl) (hw : swappedStores [.Subscript (.Subscript (.Name x npos) b1 p1) b2 p2] e c.X.env = pure none := by rfl)
    (ha : (assignEach [.Subscript (.Subscript (.Name x npos) b1 p1) b2 p2] c.X.env).map (·.2) = [assign (.Subscript (.Subscript (.Name x npos) b1 p1) b2 p2) c.X.env] := by rfl) : WX c i (.lst ds) (.Assign [.Subscript (.Subscript (.Name x npos) b1 p1) b2 p2] e pos :: rest) ρ nx p :=
  ⟨fun pins s σ H R Ds E F v I S T tk en ex kn => (pss_cons (ps_asg (peU c e) (pg_sub (pe_ix ix_seq (pe_var hN hv hd hcd) (peU c b1) hp1) (peU c b2) set_list hsub) hs hw ha) (psX c i rest)).run pins s σ H Ds I
    (tU.mk h S (tk.at σ) (ex.at S) fun u H1 ⟨y, g1, ok1, q1, n, ey, w1⟩ => by
      subst ey
      cases q1
      have S1 := S.grow g1 ok1
      have T1 := T.grow S g1 ok1
      refine ⟨v, T1.at_, tU.mk w1 S1 (tk.at σ) ((ex.at S).grow g1 ok1) fun u1 H2 ⟨y1, g2, ok2, q2, k, es, ey1, hk, w2⟩ => ?_⟩
      subst ey1
      cases q2
      have S2 := S1.grow g2 ok2
      have T2 := T1.grow S1 g2 ok2
      obtain ⟨a, vs, r, ws, ev, fa, ea, ek, fr, er, lv, lw⟩ := T2.q.sub (fun a z f => T2.nR a f z) hk
      subst ev
      refine .inl ⟨a, vs, k, .ref r, rfl, rfl, sq_l ea, atI_nat ek, ?_⟩
      refine tU.mk w2 S2 (tk.at σ) (((ex.at S).grow g1 ok1).grow g2 ok2) fun u2 H3 ⟨y2, g3, ok3, q3, m, ey2, hm, w3⟩ => ?_
      subst ey2
      cases q3
      have S3 := S2.grow g3 ok3
      have T3 := T2.grow S2 g3 ok3
      have ea3 := g3 a _ (T2.nm S2 a fa) ea
      have er3 := g3 r _ (T2.nm S2 r fr) er
      obtain ⟨ft, qf⟩ := T3.q.put1 (m := m) (x := .int n) (y := .int n) (fun a z f => T3.nR a f z) hk ea3 ek er3 (fun _ _ => .int n)
      refine ⟨r, ws, m, m, rfl, rfl, er3, ixN_nat (by rw [lw]; exact hm), ?_⟩
      have kk : Kp R H (Nw (Nw (Nw R H) H1) H2) (upd H3 r (.lst (ws.set m (.int n)))) := (((Kp.grow S.ndr g1).trans (Kp.grow S1.ndr g2)).trans (Kp.grow S2.ndr g3)).trans (Kp.mut (T3.nR r fr))
      exact ⟨ρ, _, E, F, _, _, nx, p, S3.mutTree T3 fr, T3.put qf, tk, en.from kk, ex, fun d' R' H' σ' ρ' F' v' S' T' k hn => kn d' R' H' σ' ρ' F' v' S' T' (kk.trans k) hn, w3⟩)⟩
/-- tree[b1][b2][b3] = e -/
theorem wx_put2 {x : Str} {b1 b2 b3 e : Expr} {npos p1 p2 p3 pos : Pos} {ds : List D} (hN : c.X.N[i]? = some x)
    (h : WE c e ρ (fun y => ∃ n, y = .int n ∧ WE c b1 ρ (fun y1 => ∃ (k : Nat) (es : List D), y1 = .int (k : Nat) ∧ ds[k]? = some (.lst es) ∧ WE c b2 ρ (fun y2 => ∃ (l : Nat) (fs : List D), y2 = .int (l : Nat) ∧ es[l]? = some (.lst fs) ∧
      WE c b3 ρ (fun y3 => ∃ m : Nat, y3 = .int (m : Nat) ∧ m < fs.length ∧ WX c i (.lst (ds.set k (.lst (es.set l (.lst (fs.set m (.int n))))))) rest ρ nx p) (p.ex ρ)) (p.ex ρ)) (p.ex ρ)) (p.ex ρ))
    (hv : Vis c.X.env.scope x := by first | exact Or.inl rfl | exact Or.inr (Or.inl rfl) | exact Or.inr (Or.inr rfl)) (hd : (x == ("__debug__" : Str)) = false := by decide) (hcd : (x == ("__classdict__" : Str)) = false := by decide) (hp1 : PlainIx b1 := by exact fun _ _ => rfl) (hp2 : PlainIx b2 := by exact fun _ _ => rfl)
    (hsub : ∀ v, assign (.Subscript (.Subscript (.Subscript (.Name x npos) b1 p1) b2 p2) b3 p3) c.X.env v = (do
      let ov ← holding [v] (eval (.Subscript (.Subscript (.Name x npos) b1 p1) b2 p2) c.X.env)
      let iv ← holding [v, ov] (eval b3 c.X.env)
      standAt p3
      holding [v, ov, iv] (setItem ov iv v)
      release [v, ov, iv] []) := by intro _; rfl)
    (hs : swapsWithSole [.Subscript (.Subscript (.Subscript (.Name x npos) b1 p1) b2 p2) b3 p3] e pos.line c.X.env = pure false := by rfl) (hw : swappedStores [.Subscript (.Subscript (.Subscript (.Name x npos) b1 p1) b2 p2) b3 p3] e c.X.env = pure none := by rfl)
    (ha : (assignEach [.Subscript (.Subscript (.Subscript (.Name x npos) b1 p1) b2 p2) b3 p3] c.X.env).map (·.2) = [assign (.Subscript (.Subscript (.Subscript (.Name x npos) b1 p1) b2 p2) b3 p3) c.X.env] := by rfl) :
    WX c i (.lst ds) (.Assign [.Subscript (.Subscript (.Subscript (.Name x npos) b1 p1) b2 p2) b3 p3] e pos :: rest) ρ nx p :=
  ⟨fun pins s σ H R Ds E F v I S T tk en ex kn => (pss_cons (ps_asg (peU c e) (pg_sub (pe_ix ix_seq (pe_ix ix_seq (pe_var hN hv hd hcd) (peU c b1) hp1) (peU c b2) hp2) (peU c b3) set_list hsub) hs hw ha) (psX c i rest)).run pins s σ H Ds I
    (tU.mk h S (tk.at σ) (ex.at S) fun u H1 ⟨y, g1, ok1, q1, n, ey, w1⟩ => by
      subst ey
      cases q1
      have S1 := S.grow g1 ok1
      have T1 := T.grow S g1 ok1
      refine ⟨v, T1.at_, tU.mk w1 S1 (tk.at σ) ((ex.at S).grow g1 ok1) fun u1 H2 ⟨y1, g2, ok2, q2, k, es, ey1, hk, w2⟩ => ?_⟩
      subst ey1
      cases q2
      have S2 := S1.grow g2 ok2
      have T2 := T1.grow S1 g2 ok2
      obtain ⟨a, vs, r, ws, ev, fa, ea, ek, fr, er, lv, lw⟩ := T2.q.sub (fun a z f => T2.nR a f z) hk
      subst ev
      refine .inl ⟨a, vs, k, .ref r, rfl, rfl, sq_l ea, atI_nat ek, ?_⟩
      refine tU.mk w2 S2 (tk.at σ) (((ex.at S).grow g1 ok1).grow g2 ok2) fun u2 H3 ⟨y2, g3, ok3, q3, l, fs, ey2, hl, w3⟩ => ?_
      subst ey2
      cases q3
      have S3 := S2.grow g3 ok3
      have T3 := T2.grow S2 g3 ok3
      have ea3 := g3 a _ (T2.nm S2 a fa) ea
      have er3 := g3 r _ (T2.nm S2 r fr) er
      -- the inner list at H3
      obtain ⟨t, us, el, ft, et, lu⟩ : ∃ t us, ws[l]? = some (.ref t) ∧ F t ∧ H3 t = some (.lst us) ∧ us.length = fs.length := by
        obtain ⟨a', vs', G, e, fa', ea', q, n'⟩ := T3.q.lst_inv
        cases e
        rw [ea3] at ea'
        cases ea'
        obtain ⟨w, G', e1, q1, hG, _⟩ := q.at (fun a t g => T3.nR a (n' a g).1 t) hk
        rw [ek] at e1
        cases e1
        obtain ⟨b, us', t, ts, e2, fb, eb, el, fl, et, _, lt⟩ := q1.sub (fun a t g => T3.nR a (n' a (hG a g)).1 t) hl
        cases e2
        rw [er3] at eb
        cases eb
        exact ⟨t, ts, el, (n' _ (hG _ fl)).1, et, lt⟩
      refine .inl ⟨r, ws, l, .ref t, rfl, rfl, sq_l er3, atI_nat el, ?_⟩
      refine tU.mk w3 S3 (tk.at σ) ((((ex.at S).grow g1 ok1).grow g2 ok2).grow g3 ok3) fun u3 H4 ⟨y3, g4, ok4, q4, m, ey3, hm, w4⟩ => ?_
      subst ey3
      cases q4
      have S4 := S3.grow g4 ok4
      have T4 := T3.grow S3 g4 ok4
      have ea4 := g4 a _ (T3.nm S3 a fa) ea3
      have er4 := g4 r _ (T3.nm S3 r fr) er3
      have et4 := g4 t _ (T3.nm S3 t ft) et
      obtain ⟨_, qf⟩ := T4.q.put2 (m := m) (x := .int n) (y := .int n) (fun a z f => T4.nR a f z) hk hl ea4 ek er4 el et4 (fun _ _ => .int n)
      refine ⟨t, us, m, m, rfl, rfl, et4, ixN_nat (by rw [lu]; exact hm), ?_⟩
      have kk : Kp R H (Nw (Nw (Nw (Nw R H) H1) H2) H3) (upd H4 t (.lst (us.set m (.int n)))) := ((((Kp.grow S.ndr g1).trans (Kp.grow S1.ndr g2)).trans (Kp.grow S2.ndr g3)).trans (Kp.grow S3.ndr g4)).trans (Kp.mut (T4.nR t ft))
      exact ⟨ρ, _, E, F, _, _, nx, p, S4.mutTree T4 ft, T4.put qf, tk, en.from kk, ex, fun d' R' H' σ' ρ' F' v' S' T' k hn => kn d' R' H' σ' ρ' F' v' S' T' (kk.trans k) hn, w4⟩)⟩
end
end Vl
end
section
set_option maxHeartbeats 4000000
namespace Vl
open PySem PySem.Spec PyProof.Rows L2
variable {cls : Nat → Addr}
section
variable {c : Cy cls} {R R' : Addr → Prop} {H H' H2 : Hp} {σ : L2.St} {ρ : Rho} {i : Nat} {F : Addr → Prop} {v : V} {d : D}
variable {nx : D → Rho → Prop} {p : Po} {rest : List Stmt}
/-! ### a tree begins -/
theorem slot_lt {α : Type} {l : List α} {i : Nat} {a : α} (h : l[i]? = some a) : i < l.length := (List.getElem?_eq_some_iff.mp h).1
theorem none_set {ρ : Rho} {i : Nat} (h : i < ρ.length) : (ρ.set i none)[i]? = some none := by rw [List.getElem?_set_self h]
theorem back_set {ρ : Rho} {i j : Nat} {w : Sv} (h : (ρ.set i none)[j]? = some (some w)) : i ≠ j ∧ ρ[j]? = some (some w) := by
  by_cases hj : i = j
  · subst hj
    have z := get_set_self h
    cases z
  · rw [List.getElem?_set_ne hj] at h
    exact ⟨hj, h⟩
/-- where the value of a name is a tree that nobody else has -/
theorem Tr.begin (S : Sl c R H σ ρ) (g : Gr c.W H H') (ok : c.W.ok H') (li : i < ρ.length) (q : Mq (fun a => Nw R H a ∧ ¬ F a) H' F v d) (n : ∀ a, F a → H a = none ∧ H' a ≠ none) :
    Sl c (fun a => Nw R H a ∧ ¬ F a) H' (σ.set i (some v)) (ρ.set i none) ∧ Tr c (fun a => Nw R H a ∧ ¬ F a) H' (σ.set i (some v)) (ρ.set i none) i F v d := by
  have S1 : Sl c (fun a => Nw R H a ∧ ¬ F a) H' σ ρ := S.to g ok (fun a o r e => ⟨.inl r, fun z => by rw [(n a z).1] at e; cases e⟩) fun a z => z.1
  refine ⟨S1.setNone, ?_⟩
  exact {
    at_ := by rw [List.getElem?_set_self (by rw [S.len]; exact li)]
    no := none_set li
    q := q
    nR := fun a z y => y.2 z
    n0 := fun a z => none_back S.ok S.gr (n a z).1
    al := fun a z => (n a z).2
    sp := fun j ds b h1 h2 => by
      obtain ⟨hj, h1⟩ := back_set h1
      rw [List.getElem?_set_ne hj] at h2
      obtain ⟨a, vs, e1, e2, e3, e4, e5⟩ := S.lst j ds h1
      rw [e1] at h2
      cases h2
      intro z
      rw [(n _ z).1] at e4
      cases e4
    so := fun j a k fs h1 => by
      obtain ⟨hj, h1⟩ := back_set h1
      obtain ⟨dx, vs, e1, e2, e3, e4, e5⟩ := S.ob j a k fs h1
      intro z
      rw [(n _ z).1] at e4
      cases e4 }
theorem kp_begin {W : Wd cls} (hd : W.nd R) (g : Gr W H H') (n : ∀ a, F a → H a = none ∧ H' a ≠ none) : Kp R H (fun a => Nw R H a ∧ ¬ F a) H' := fun a o r e => ⟨⟨.inl r, fun z => by rw [(n a z).1] at e; cases e⟩, hH_of hd g a o r e⟩
/-- name = e, e new -/
theorem wx_begin (i : Nat) {x : Str} {e : Expr} {pos pos' : Pos} (hN : c.X.N.Nodup) (hi : c.X.N[i]? = some x) (li : i < ρ.length) (h : WF c e ρ (fun d => WX c i d rest (ρ.set i none) (fun _ _ => False) p)) (hx : Loc c.X.env.scope x := by first | exact Or.inl rfl | exact Or.inr rfl)
    (hs : swapsWith e (some (.Name x pos')) pos.line c.X.env = pure false := by rfl) (hf : c.X.fn x = true ∨ c.X.env.scope.names.lookup x = some .local := by first | exact .inl rfl | exact .inr rfl) : WSs c (.Assign [.Name x pos'] e pos :: rest) ρ p :=
  ⟨fun pins s σ H R Ds E I S tk en ex => (pss_cons (ps_set hN hi hx (peUF c e) hs hf) (psX c i rest)).run pins s σ H Ds I
    ⟨ρ, R, _, S, h, fun v H1 ⟨d, g, ok, ⟨F, q, n⟩, hw⟩ => by
      obtain ⟨S1, T1⟩ := Tr.begin S g ok li q n
      exact ⟨_, _, E, F, v, d, _, p, S1, T1, tk, en.from (kp_begin S.ndr g n), ex, fun _ _ _ _ _ _ _ _ _ _ z => z.elim, hw⟩⟩⟩
/-- name = [] -/
theorem wx_begin0 (i : Nat) {x : Str} {pos pos' pos2 : Pos} (hN : c.X.N.Nodup) (hi : c.X.N[i]? = some x) (li : i < ρ.length) (h : WX c i (.lst []) rest (ρ.set i none) (fun _ _ => False) p) (hx : Loc c.X.env.scope x := by first | exact Or.inl rfl | exact Or.inr rfl)
    (hs : swapsWith (.List [] pos2) (some (.Name x pos')) pos.line c.X.env = pure false := by rfl) (hf : c.X.fn x = true ∨ c.X.env.scope.names.lookup x = some .local := by first | exact .inl rfl | exact .inr rfl) : WSs c (.Assign [.Name x pos'] (.List [] pos2) pos :: rest) ρ p :=
  ⟨fun pins s σ H R Ds E I S tk en ex => (pss_cons (ps_set hN hi hx (pe_lst pa_nil) hs hf) (psX c i rest)).run pins s σ H Ds I
    ⟨by simp, fun a ha => by
      have g : Gr c.W H (upd H a (.lst [])) := Gr.of_same (same_upd ha)
      have n : ∀ b, b = a → H b = none ∧ upd H a (.lst []) b ≠ none := fun b e => by subst e; exact ⟨ha, by rw [upd_same]; exact fun z => nomatch z⟩
      obtain ⟨S1, T1⟩ := Tr.begin (F := fun b => b = a) (v := .ref a) (d := .lst []) S g (ok_same S.ok (same_upd ha)) li (.lst (G := fun _ => False) rfl upd_same .nil fun _ z => z.elim) n
      exact ⟨_, _, E, _, _, _, _, p, S1, T1, tk, en.from (kp_begin S.ndr g n), ex, fun _ _ _ _ _ _ _ _ _ _ z => z.elim, h⟩⟩⟩

/-! ### an own list beside the tree -/
theorem Sl.newLst {j : Nat} {q : Addr} {ws : List V} {acc : List D} (S : Sl c R H σ ρ) (hq : H q = none) (gg : Gr c.W H H') (ok' : c.W.ok H') (hw : H' q = some (.lst ws)) (qq : DqL c.W (fun a => Nw R H a ∧ a ≠ q) H' ws acc) : Sl c (fun a => Nw R H a ∧ a ≠ q) H' (σ.set j (some (.ref q))) (ρ.set j (some (.lst acc))) := by
  have h0 : c.H0 q = none := none_back S.ok S.gr hq
  have S1 := S.apart hq gg ok'
  refine ⟨S1.ndr, S1.ok, S1.ok0, S1.gr, S1.sub, by simp [S1.len], fun k e h => ?_, fun k e h => ?_, fun k l ds' es a hjk g1 g2 g3 => ?_, fun k a kk fs h => ?_, fun k e h => ?_⟩
  · by_cases hj : j = k
    · subst hj
      have z := get_set_self h
      cases z
    · rw [List.getElem?_set_ne hj] at h ⊢
      exact S1.val k e h
  · by_cases hj : j = k
    · subst hj
      have lt := set_lt h
      have z := get_set_self h
      cases z
      exact ⟨q, ws, by rw [List.getElem?_set_self (by rw [S1.len]; exact lt)], fun z => z.2 rfl, h0, hw, qq⟩
    · rw [List.getElem?_set_ne hj] at h ⊢
      exact S1.lst k e h
  · have key : ∀ {j : Nat} {es : List D} {b : Addr}, ρ[j]? = some (some (.lst es)) → σ[j]? = some (some (.ref b)) → b ≠ q := fun {j es b} h1 h2 => by
      obtain ⟨a, ws, e1, e2, e3, e4, e5⟩ := S.lst j es h1
      rw [e1] at h2
      cases h2
      intro z
      rw [z, hq] at e4
      cases e4
    by_cases hj : j = k
    · subst hj
      have lt := set_lt g3
      have z := get_set_self g3
      cases z
      rw [List.getElem?_set_ne hjk] at g2 ⊢
      exact fun z => key g2 z rfl
    · by_cases hk : j = l
      · subst hk
        rw [List.getElem?_set_ne hj] at g1 g3
        intro z
        have z := get_set_self z
        cases z
        exact key g1 g3 rfl
      · rw [List.getElem?_set_ne hj] at g1 g3
        rw [List.getElem?_set_ne hk] at g2 ⊢
        exact S1.sep k l ds' es a hjk g1 g2 g3
  · by_cases hj : j = k
    · subst hj
      have z := get_set_self h
      cases z
    · rw [List.getElem?_set_ne hj] at h ⊢
      exact S1.ob k a kk fs h
  · by_cases hj : j = k
    · subst hj
      have z := get_set_self h
      cases z
    · rw [List.getElem?_set_ne hj] at h ⊢
      exact S1.exc k e h
theorem Tr.newLst {j : Nat} {q : Addr} {acc : List D} (T : Tr c R H σ ρ i F v d) (S : Sl c R H σ ρ) (hq : H q = none) (gg : Gr c.W H H') (ok' : c.W.ok H') (hj : j ≠ i) : Tr c (fun a => Nw R H a ∧ a ≠ q) H' (σ.set j (some (.ref q))) (ρ.set j (some (.lst acc))) i F v d where
  at_ := by rw [List.getElem?_set_ne hj]; exact T.at_
  no := by rw [List.getElem?_set_ne hj]; exact T.no
  q := T.q.mono3 (fun a o t e => ⟨⟨.inl t, fun z => by rw [z, hq] at e; cases e⟩, hH_of S.ndr gg a o t e⟩) (fun _ z => z) fun a o z e => gg a o (T.nm S a z) e
  nR := fun a z y => y.1.elim (T.nR a z) (T.al a z)
  n0 := T.n0
  al := (T.grow S gg ok').al
  sp := fun k ds b h1 h2 => by
    by_cases hk : j = k
    · subst hk
      have lt := set_lt h1
      rw [List.getElem?_set_self (by rw [S.len]; exact lt)] at h2
      cases h2
      exact fun z => T.al _ z hq
    · rw [List.getElem?_set_ne hk] at h1 h2
      exact T.sp k ds b h1 h2
  so := fun k a kk fs h1 => by
    by_cases hk : j = k
    · subst hk
      have z := get_set_self h1
      cases z
    · rw [List.getElem?_set_ne hk] at h1
      exact T.so k a kk fs h1
/-- y = [elt for x in iter], an own list -/
theorem wx_lc (j k : Nat) {x y : Str} {xp py spos : Pos} {iter elt : Expr} {scope : Scope} {pos : Pos} (hN : c.X.N.Nodup) (h : LC c (.Name x xp) iter elt none scope ρ [k] (G1 k) (fun xs => WX c i d rest (ρ.set j (some (.lst xs))) nx p) (p.ex ρ)) (hji : j ≠ i := by decide) (hc : c.X.calm = true := by rfl) (hy : c.X.N[j]? = some y := by rfl)
    (hyl : c.X.env.scope.names.lookup y = some .local := by rfl) (hsw : swapsWith (.ListComp elt [⟨.Name x xp, iter, [], 0⟩] scope pos) (some (.Name y py)) spos.line c.X.env = pure true := by exact sw_true rfl rfl rfl (by kernel_rfl))
    (hpg : ∀ (s : Shared) (H : Hp) (C : Addr) (cl : List (Str × Addr)) (fp : List Addr), PG (c.X.blk s H scope (compEnvC scope cl C c.X.env) fp) (.Name x xp) (gName k) := by exact fun _ _ _ _ _ => pg_name (by assumption) rfl (Or.inl rfl))
    (ok : BlkOk c.X.N c.X.env.scope scope [(x, k)] := by exact blkOk_by (by kernel_rfl)) (hs : ∀ x, foldedSetIterable iter c.X.env x = pure x := by intro _; rfl) : WX c i d (.Assign [.Name y py] (.ListComp elt [⟨.Name x xp, iter, [], 0⟩] scope pos) spos :: rest) ρ nx p :=
  ⟨fun pins s σ H R Ds E F v I S T tk en ex kn => (pss_cons (ps_setLc (own := [(x, k)]) hc hN hy hyl hsw (piU c (.Name x xp) iter) ok hpg (fun s H C cl fp => pts_of (test := none) s H C cl fp) (peUB scope elt) hs) (psX c i rest)).run pins s σ H Ds I
    (by
      unfold tSeq tAsg
      refine lc_read (vs := [k]) (G := G1 k) tg_name S (tk.at σ) (ex.at S) h fun q H' hq gg ok' ws acc hw qq hp => ?_
      have kk : Kp R H (fun a => Nw R H a ∧ a ≠ q) H' := fun a o r e => ⟨⟨.inl r, fun z => by rw [z, hq] at e; cases e⟩, hH_of S.ndr gg a o r e⟩
      exact ⟨_, _, E, F, v, d, nx, p, S.newLst hq gg ok' hw qq, T.newLst S hq gg ok' hji, tk, en.from kk, ex, fun d' R' H' σ' ρ' F' v' S' T' k hn => kn d' R' H' σ' ρ' F' v' S' T' (kk.trans k) hn, hp⟩)⟩
/-- own[b] = e -/
theorem wx_oset (j : Nat) {x : Str} {b e : Expr} {npos spos pos : Pos} {ds : List D} (hN : c.X.N[j]? = some x) (hρ : ρ[j]? = some (some (.lst ds)))
    (h : WE c e ρ (fun y => WE c b ρ (fun z => ∃ k l, z = .int k ∧ L2.ixN ds.length k = some l ∧ WX c i d rest (ρ.set j (some (.lst (ds.set l y)))) nx p) (p.ex ρ)) (p.ex ρ)) (hji : j ≠ i := by decide)
    (hv : Vis c.X.env.scope x := by first | exact Or.inl rfl | exact Or.inr (Or.inl rfl) | exact Or.inr (Or.inr rfl)) (hd : (x == ("__debug__" : Str)) = false := by decide) (hcd : (x == ("__classdict__" : Str)) = false := by decide)
    (hsub : ∀ v, assign (.Subscript (.Name x npos) b spos) c.X.env v = (do
      let ov ← holding [v] (eval (.Name x npos) c.X.env)
      let iv ← holding [v, ov] (eval b c.X.env)
      standAt spos
      holding [v, ov, iv] (setItem ov iv v)
      release [v, ov, iv] []) := by intro _; rfl)
    (hs : swapsWithSole [.Subscript (.Name x npos) b spos] e pos.line c.X.env = pure false := by rfl) (hw : swappedStores [.Subscript (.Name x npos) b spos] e c.X.env = pure none := by rfl)
    (ha : (assignEach [.Subscript (.Name x npos) b spos] c.X.env).map (·.2) = [assign (.Subscript (.Name x npos) b spos) c.X.env] := by rfl) : WX c i d (.Assign [.Subscript (.Name x npos) b spos] e pos :: rest) ρ nx p :=
  ⟨fun pins s σ H R Ds E F v I S T tk en ex kn => (pss_cons (ps_asg (peU c e) (pg_sub (pe_var hN hv hd hcd) (peU c b) set_list hsub) hs hw ha) (psX c i rest)).run pins s σ H Ds I
    (tU.mk h S (tk.at σ) (ex.at S) fun u H1 ⟨y, g1, ok1, q1, w1⟩ => by
      have S1 := S.grow g1 ok1
      have T1 := T.grow S g1 ok1
      obtain ⟨a, vs, h1, h2, h3, h4, h5⟩ := S.lst j ds hρ
      refine ⟨.ref a, h1, tU.mk w1 S1 (tk.at σ) ((ex.at S).grow g1 ok1) fun vy H2 ⟨dy, g2, ok2, q2, k, l, e, hj, hn⟩ => ?_⟩
      subst e
      cases q2
      have S2 := S1.grow g2 ok2
      have T2 := T1.grow S1 g2 ok2
      obtain ⟨a', vs', k1, k2, k3, k4, k5⟩ := S2.lst j ds hρ
      rw [h1] at k1
      cases k1
      have kk : Kp R H (Nw (Nw R H) H1) (upd H2 a (.lst (vs'.set l u))) := ((Kp.grow S.ndr g1).trans (Kp.grow S1.ndr g2)).trans (Kp.mut k2)
      refine ⟨a, vs', k, l, rfl, rfl, k4, by rw [k5.length]; exact hj, _, _, E, F, v, d, nx, p, S2.mutLst hρ h1 (DqL.set (q1.grow S1.ndr g2) l k5), T2.mut k2 (T.sp j ds a hρ h1) (by rw [List.getElem?_set_ne hji]; exact T.no) (fun m es b e1 e2 => ?_) (fun m b kk' fs e1 => ?_), tk, en.from kk, ex, fun d' R' H' σ' ρ' F' v' S' T' k hn => kn d' R' H' σ' ρ' F' v' S' T' (kk.trans k) hn, hn⟩
      · by_cases hm : j = m
        · subst hm
          rw [h1] at e2
          cases e2
          exact T.sp j ds a hρ h1
        · rw [List.getElem?_set_ne hm] at e1
          exact T.sp m es b e1 e2
      · by_cases hm : j = m
        · subst hm
          have z := get_set_self e1
          cases z
        · rw [List.getElem?_set_ne hm] at e1
          exact T.so m b kk' fs e1)⟩
end
end Vl
end
section
set_option maxHeartbeats 4000000
namespace Vl
open PySem PySem.Spec PyProof.Rows L2
variable {cls : Nat → Addr}
def IsL (H : Hp) (a : Addr) : Prop := ∃ vs, H a = some (.lst vs)
section
variable {T : Addr → Prop} {H : Hp}
mutual
theorem Mq.tight : ∀ {F : Addr → Prop} {v : V} {d : D}, Mq T H F v d → Mq T H (fun a => F a ∧ IsL H a) v d
  | _, _, _, .non => .non
  | _, _, _, .bl b => .bl b
  | _, _, _, .int i => .int i
  | _, _, _, .str x => .str x
  | _, _, _, .lst fa e q n => .lst ⟨fa, _, e⟩ e (MqL.tight q) fun b g => ⟨⟨(n b g.1).1, g.2⟩, (n b g.1).2⟩
  | _, _, _, .tup t e q => .tup t e (MqL.tight q)
theorem MqL.tight : ∀ {F : Addr → Prop} {v : List V} {d : List D}, MqL T H F v d → MqL T H (fun a => F a ∧ IsL H a) v d
  | _, _, _, .nil => .nil
  | _, _, _, .cons q r n1 n2 n3 => .cons (Mq.tight q) (MqL.tight r) (fun a g => ⟨n1 a g.1, g.2⟩) (fun a g => ⟨n2 a g.1, g.2⟩) fun a g h => n3 a g.1 h.1
end
end
/-- no list in it; objects may be -/
inductive Lo : D → Prop
  | non : Lo .non
  | bl (b : Bool) : Lo (.bl b)
  | int (i : Int) : Lo (.int i)
  | str (x : Str) : Lo (.str x)
  | tup {ds : List D} : (∀ d ∈ ds, Lo d) → Lo (.tup ds)
  | obj {k : Nat} {fs : List (Str × D)} : (∀ f ∈ fs, Lo f.2) → Lo (.obj k fs)
theorem lo_l {W : Wd cls} {R R' : Addr → Prop} {H : Hp} : ∀ {vs : List V} {ds : List D}, (∀ d ∈ ds, ∀ v, Dq W R H v d → Dq W R' H v d) → DqL W R H vs ds → DqL W R' H vs ds
  | _, _, _, .nil => .nil
  | _, _, h, .cons q r => .cons (h _ List.mem_cons_self _ q) (lo_l (fun d m => h d (List.mem_cons_of_mem _ m)) r)
theorem lo_f {W : Wd cls} {R R' : Addr → Prop} {H : Hp} : ∀ {gs : List (Str × D)} {fs : List (Str × V)}, (∀ f ∈ gs, ∀ v, Dq W R H v f.2 → Dq W R' H v f.2) → DqF W R H fs gs → DqF W R' H fs gs := by
  intro gs
  induction gs with
  | nil => intro fs h q; cases q; exact .nil
  | cons g gs ih =>
    intro fs h q
    cases q with
    | cons q r => exact .cons (h _ List.mem_cons_self _ q) (ih (fun f m => h f (List.mem_cons_of_mem _ m)) r)
theorem Lo.dq {W : Wd cls} {R : Addr → Prop} {H : Hp} {d : D} (h : Lo d) : ∀ {v : V}, Dq W R H v d → Dq W (fun a => R a ∧ ¬ IsL H a) H v d := by
  induction h with
  | non => intro v q; cases q; exact .non
  | bl b => intro v q; cases q; exact .bl b
  | int i => intro v q; cases q; exact .int i
  | str x => intro v q; cases q; exact .str x
  | tup _ ih =>
    intro v q
    cases q with
    | tup r e q => exact .tup ⟨r, fun ⟨vs, z⟩ => by rw [e] at z; cases z⟩ e (lo_l (fun d m v q => ih d m q) q)
  | obj _ ih =>
    intro v q
    cases q with
    | obj r e q => exact .obj ⟨r, fun ⟨vs, z⟩ => by rw [e] at z; cases z⟩ e (lo_f (fun d m v q => ih d m q) q)
section
variable {c : Cy cls} {R R' : Addr → Prop} {H H' H2 : Hp} {σ : L2.St} {ρ : Rho} {i : Nat} {F : Addr → Prop} {v : V} {d : D}
variable {nx : D → Rho → Prop} {p : Po} {rest : List Stmt}
theorem Tr.tight (T : Tr c R H σ ρ i F v d) : Tr c R H σ ρ i (fun a => F a ∧ IsL H a) v d :=
  ⟨T.at_, T.no, T.q.tight, fun a z => T.nR a z.1, fun a z => T.n0 a z.1, fun a z => T.al a z.1, fun j ds b h1 h2 z => T.sp j ds b h1 h2 z.1, fun j a k fs h z => T.so j a k fs h z.1⟩
/-- the lists of the tree are changed anyhow -/
theorem Sl.mutAll (S : Sl c R H σ ρ) (T : Tr c R H σ ρ i F v d) (h : ∀ a, ¬ F a → H' a = H a) : Sl c R H' σ ρ := by
  have hn : ∀ a o', R a → H a = some o' → H' a = some o' := fun a o' r e => by rw [h a fun z => T.nR a z r]; exact e
  have nb : ∀ a, c.W.base a → ¬ F a := fun a b z => S.ok0 _ b (T.n0 a z)
  exact {
    ndr := S.ndr
    ok := c.W.keep H _ S.ok fun a b => h a (nb a b)
    ok0 := S.ok0
    gr := fun a o n e => by
      rw [h a fun z => by rw [T.n0 a z] at e; cases e]
      exact S.gr a o n e
    sub := S.sub
    len := S.len
    val := fun j e h => let ⟨v, e1, e2⟩ := S.val j e h; ⟨v, e1, e2.mono (fun _ r => r) hn⟩
    lst := fun j e hh => by
      obtain ⟨a, us, e1, e2, e3, e4, e5⟩ := S.lst j e hh
      exact ⟨a, us, e1, e2, e3, by rw [h a (T.sp j e a hh e1)]; exact e4, e5.mono (fun _ r => r) hn⟩
    sep := S.sep
    ob := fun j a k' fs' hh => by
      obtain ⟨dx, us, e1, e2, e3, e4, e5⟩ := S.ob j a k' fs' hh
      exact ⟨dx, us, e1, e2, e3, by rw [h a (T.so j a k' fs' hh)]; exact e4, e5.mono (fun _ r => r) hn⟩
    exc := fun j e h => let ⟨v, e1, e2⟩ := S.exc j e h; ⟨v, e1, e2.mono (fun _ r => r) hn⟩ }
theorem Sl.forget (S : Sl c R H σ ρ) (j : Nat) : Sl c R H σ (ρ.set j none) := by
  cases e : σ[j]? with
  | none =>
    have z := S.setNone (i := j) (o := none)
    rw [List.set_eq_of_length_le (List.getElem?_eq_none_iff.mp e)] at z
    exact z
  | some o =>
    have z := S.setNone (i := j) (o := o)
    have e2 : σ.set j o = σ := by
      apply List.ext_getElem?
      intro k
      by_cases hj : j = k
      · subst hj
        rw [List.getElem?_set_self (slot_lt e), e]
      · rw [List.getElem?_set_ne hj]
    rw [e2] at z
    exact z
theorem Tr.forget (T : Tr c R H σ ρ i F v d) (j : Nat) (hj : j ≠ i) : Tr c R H σ (ρ.set j none) i F v d :=
  ⟨T.at_, by rw [List.getElem?_set_ne hj]; exact T.no, T.q, T.nR, T.n0, T.al, fun k ds b h1 h2 => T.sp k ds b (back_set h1).2 h2, fun k a kk fs h => T.so k a kk fs (back_set h).2⟩
/-- own.append(e), e read with the tree as a datum, no list in its answer -/
theorem wx_appD (j : Nat) {x : Str} {e : Expr} {pos ppos apos npos : Pos} {ds : List D} (hN : c.X.N[j]? = some x) (hρ : ρ[j]? = some (some (.lst ds))) (hz : ds.length < sizeLine) (h : WE c e (ρ.set i (some (.val d))) (fun y => Lo y ∧ WX c i d rest (ρ.set j (some (.lst (ds ++ [y])))) nx p) (fun _ => False)) (hji : j ≠ i := by decide)
    (hv : Vis c.X.env.scope x := by first | exact Or.inl rfl | exact Or.inr (Or.inl rfl) | exact Or.inr (Or.inr rfl)) (hd : (x == ("__debug__" : Str)) = false := by decide) (hcd : (x == ("__classdict__" : Str)) = false := by decide)
    (hpe : PE c.X (.Call (.Attribute (.Name x npos) "append" apos) [e] [] ppos) (tBM c.X.K "list" rAppend (tVar j) (tAs c [e])) := by exact pe_bm PySem.F.plainAttrs_list PySem.F.slot_list_append PySem.F.type_list_append mt_append (pv _) (pa_cons (peU _ _) pa_nil))
    (hs : swapsWith (.Call (.Attribute (.Name x npos) "append" apos) [e] [] ppos) none pos.line c.X.env = pure false := by rfl) : WX c i d (.Expr (.Call (.Attribute (.Name x npos) "append" apos) [e] [] ppos) pos :: rest) ρ nx p :=
  ⟨fun pins s σ H R Ds E F v I S T tk en ex kn => (pss_cons (ps_expr hpe hs) (psX c i rest)).run pins s σ H Ds I (by
    obtain ⟨a, vs, h1, h2, h3, h4, h5⟩ := S.lst j ds hρ
    refine ⟨_, h1, .inl ⟨rfl, _, .inl (.inl h4)⟩, ?_⟩
    have T0 := T.tight
    refine tU.mk h (S.pubTree T0) passAll exOk0 fun u H1 ⟨y, g, ok, q, hl, hw⟩ => ?_
    have S1 := S.grow g ok
    have T1 := T0.grow S g ok
    obtain ⟨a', vs', g1, g2, g3, g4, g5⟩ := S1.lst j ds hρ
    rw [h1] at g1
    cases g1
    have q' : Dq c.W (Nw R H) H1 u y := (hl.dq q).wide fun b z => by
      rcases z.1 with (r | r) | r
      · exact .inl r
      · obtain ⟨ws, ew⟩ := r.2
        exact absurd ⟨ws, g b _ (T0.nm S b r) ew⟩ z.2
      · exact .inr r
    have hn := T0.sp j ds a hρ h1
    have kk : Kp R H (Nw R H) (upd H1 a (.lst (vs' ++ [u]))) := (Kp.grow S.ndr g).trans (Kp.mut g2)
    refine ⟨a, vs', u, rfl, rfl, g4, by rw [g5.length]; exact hz, _, _, E, _, v, d, nx, p, S1.mutLst hρ h1 (g5.append (.cons q' .nil)), T1.mut g2 hn (by rw [List.getElem?_set_ne hji]; exact T.no) (fun m es b e1 e2 => ?_) (fun m b kk' fs e1 => ?_), tk, en.from kk, ex, fun d' R' H' σ' ρ' F' v' S' T' k hn => kn d' R' H' σ' ρ' F' v' S' T' (kk.trans k) hn, hw⟩
    · by_cases hm : j = m
      · subst hm
        rw [h1] at e2
        cases e2
        exact hn
      · rw [List.getElem?_set_ne hm] at e1
        exact T0.sp m es b e1 e2
    · by_cases hm : j = m
      · subst hm
        have z := get_set_self e1
        cases z
      · rw [List.getElem?_set_ne hm] at e1
        exact T0.so m b kk' fs e1)⟩
/-- f(tree): what f does to its lists is not told -/
def spSpoil (n : Nat) : Sp := fun vs H Q _ => ∃ (v : V) (d : D) (F T : Addr → Prop), vs = [v] ∧ okD n d ∧ Mq T H F v d ∧ (∀ a, T a → ¬ F a) ∧ ∀ H', (∀ a, ¬ F a → H' a = H a) → Q .non H'
structure DSp (P : Program) (w : World) (K : PySem.W.Frag) (mg : Str → Option Value) (base : Heap) (x : Str) (k : Nat) (n : Nat) : Prop where
  ex : ∃ f fd y, FnOk P w K mg base (L2N.CX P w) k f fd [y] (spSpoil n) ∧ mg x = some (.ref f) ∧ PySem.W.keepIn K (.ref f) = true ∧ Binds K fd [y] []
theorem pe_spoil {x y : Str} {pp npos pos : Pos} {k n j : Nat} (D0 : DSp c.X.prog c.X.w c.X.K c.X.mg c.X.base x k n) (hr : Room k c.X.A) (hN : c.X.N[j]? = some y) (hg : Gl c.X x) (hv : Vis c.X.env.scope y) (hd : (y == ("__debug__" : Str)) = false) (hcd : (y == ("__classdict__" : Str)) = false) (hdb : (x == ("__debug__" : Str)) = false)
    (he : starEach [.Name y npos] c.X.env = (false, eval (.Name y npos) c.X.env) :: starEach [] c.X.env) (hpl : (backTo pos (starEach [] c.X.env)).any (·.1) = false) :
    PE c.X (.Call (.Name x pp) [.Name y npos] [] pos) (fun σ H Q => ∃ v, σ[j]? = some (some v) ∧ spSpoil n [v] H Q E0) := ⟨fun pins s σ H Q I ⟨v, hs, sp⟩ => by
  obtain ⟨f, fd, yy, F, hm, hk, hb⟩ := D0.ex
  refine wpAny_Call_Name_kw (ld_glob I hg hm ?_ hdb)
  have args : PA c.X [.Name y npos] (tCons (tVar j) tNil) := pa_cons (pe_var hN hv hd hcd) pa_nil he
  refine PySem.W.callWith_K (h₀ := c.X.base) I.ok.mod.kin hk (thn (args.run pos pins s σ H (fun vs H1 => spSpoil n vs H1 Q E0) I ⟨v, hs, sp⟩) fun us s1 ⟨vs, H1, I1, rv, sp1⟩ => ⟨I1.kIn, ?_⟩) he hpl
  exact run_fnS (E := fun _ => E0) F hr hb passAll I1 rv sp1⟩
theorem wx_spoil {x y : Str} {pp npos ppos pos : Pos} {k n : Nat} (D0 : DSp c.X.prog c.X.w c.X.K c.X.mg c.X.base x k n) (hr : Room k c.X.A) (hN : c.X.N[i]? = some y) (hd' : okD n d) (h : WSs c rest ρ p) (hg : Gl c.X x := by rfl)
    (hv : Vis c.X.env.scope y := by first | exact Or.inl rfl | exact Or.inr (Or.inl rfl) | exact Or.inr (Or.inr rfl)) (hd : (y == ("__debug__" : Str)) = false := by decide) (hcd : (y == ("__classdict__" : Str)) = false := by decide) (hdb : (x == ("__debug__" : Str)) = false := by decide)
    (he : starEach [.Name y npos] c.X.env = (false, eval (.Name y npos) c.X.env) :: starEach [] c.X.env := by rfl) (hpl : (backTo ppos (starEach [] c.X.env)).any (·.1) = false := by rfl)
    (hs : swapsWith (.Call (.Name x pp) [.Name y npos] [] ppos) none pos.line c.X.env = pure false := by rfl) : WX c i d (.Expr (.Call (.Name x pp) [.Name y npos] [] ppos) pos :: rest) ρ nx p :=
  ⟨fun pins s σ H R Ds E F v I S T tk en ex kn => (pss_cons (ps_expr (pe_spoil D0 hr hN hg hv hd hcd hdb he hpl) hs) (pssU c rest)).run pins s σ H Ds I
    ⟨v, T.at_, v, d, F, R, rfl, hd', T.q, fun a r f => T.nR a f r, fun H' hH => ⟨ρ, R, E, p, S.mutAll T hH, tk, en.from fun a o r e => ⟨r, by rw [hH a fun z => T.nR a z r]; exact e⟩, ex, h⟩⟩⟩
end
end Vl
end
section
set_option maxHeartbeats 4000000
namespace Vl
open PySem PySem.Spec PyProof.Rows L2
variable {cls : Nat → Addr}
section
variable {c : Cy cls} {R R' : Addr → Prop} {H H' H2 : Hp} {σ : L2.St} {ρ : Rho} {i : Nat} {F : Addr → Prop} {v : V} {d : D}
variable {nx : D → Rho → Prop} {p : Po} {rest : List Stmt}
/-- for x in iter, the tree beside -/
theorem wx_for (j : Nat) {x : Str} {xp : Pos} {iter : Expr} {body : List Stmt} {pos : Pos} (hN : c.X.N.Nodup) (hi : c.X.N[j]? = some x) (hc : c.X.calm = true) (h : WI c (.Name x xp) iter ρ (fun items => ∃ I : Nat → D → Rho → Prop, I 0 d ρ ∧
      (∀ k y d' ρ', items[k]? = some y → I k d' ρ' → WX c i d' body (ρ'.set j (some (.val y))) (I (k + 1)) { p with nx := fun _ => False, bk := fun _ => False, ct := fun _ => False }) ∧ (∀ d' ρ', I items.length d' ρ' → WX c i d' rest ρ' nx p)) (p.ex ρ)) (hji : j ≠ i := by decide) (hx : Loc c.X.env.scope x := by first | exact Or.inl rfl | exact Or.inr rfl) (hf : c.X.fn x = true ∨ c.X.env.scope.names.lookup x = some .local := by first | exact .inl rfl | exact .inr rfl)
    (hpass : PassesOwn (model c.X.prog c.X.w) c.X.A c.X.env c.X.xe := by exact passes_of rfl) (hs : ∀ x, foldedSetIterable iter c.X.env x = pure x := by intro _; rfl) : WX c i d (.For (.Name x xp) iter body [] pos :: rest) ρ nx p :=
  ⟨fun pins s σ H R Ds E F v I S T tk en ex kn => (pss_cons (ps_for hpass hc (piU c (.Name x xp) iter) (pg_name hN hi hx hf) (psX c i body) hs) (psX c i rest)).run pins s σ H Ds I
    ⟨ρ, R, E σ, _, p.ex ρ, S, tk.at σ, ex.at S, h, fun J H1 ⟨items, g, ok, ⟨G, Y, w, hG, hY⟩, I, i0, turn, done⟩ => by
      have S1 := S.grow g ok
      have T1 := T.grow S g ok
      have K1 := Kp.grow (W := c.W) S.ndr g
      refine for_it w (fun k σ' H' => ∃ R' ρ' F' v' d', Sl c R' H' σ' ρ' ∧ Tr c R' H' σ' ρ' i F' v' d' ∧ Kp (Nw R H) H1 R' H' ∧ I k d' ρ') ⟨_, ρ, F, v, d, S1, T1, Kp.refl, i0⟩ (fun k σ' H' _ ⟨R', ρ', F', v', d', S', T', k', _⟩ => hG R' H' k') (fun k u σ' Hc H' hi ⟨R', ρ', F', v', d', S', T', k', hI⟩ y => ?_) (fun σ' H' ⟨R', ρ', F', v', d', S', T', k', hI⟩ => ?_)
      · obtain ⟨y, hd, sm, q⟩ := hY k Hc u H' y R' S'.ndr S'.ok k'
        have S2 := S'.same sm
        have T2 := T'.grow S' (Gr.of_same sm) (ok_same S'.ok sm)
        have k2 : Kp (Nw R H) H1 (Nw R' Hc) H' := k'.trans (Kp.grow S'.ndr (Gr.of_same sm))
        have en2 := en.from (K1.trans k2)
        exact ⟨_, _, E, F', v', d', I (k + 1), { p with nx := fun _ => False, bk := fun _ => False, ct := fun _ => False }, S2.setVal q, T2.setVal hji, tk, ⟨fun _ _ _ _ _ _ z => z.elim, en2.rt, fun _ _ _ _ _ _ z => z.elim, fun _ _ _ _ _ _ z => z.elim⟩, ex, fun d3 R3 H3 σ3 ρ3 F3 v3 S3 T3 k3 hI3 => ⟨R3, ρ3, F3, v3, d3, S3, T3, k2.trans k3, hI3⟩, turn k y d' ρ' hd hI⟩
      · exact ⟨ρ', R', E, F', v', d', nx, p, S', T', tk, en.from (K1.trans k'), ex, fun d3 R3 H3 σ3 ρ3 F3 v3 S3 T3 k3 hn => kn d3 R3 H3 σ3 ρ3 F3 v3 S3 T3 ((K1.trans k').trans k3) hn, done d' ρ' hI⟩⟩⟩
/-- numbers alone -/
theorem mq_ints {T : Addr → Prop} {H : Hp} : ∀ (ns : List Int) {F : Addr → Prop}, MqL T H F (ns.map V.int) (ns.map D.int)
  | [], _ => .nil
  | n :: ns, F => .cons (F1 := fun _ => False) (F2 := fun _ => False) (.int n) (mq_ints ns) (fun _ z => z.elim) (fun _ z => z.elim) fun _ z => z.elim
/-- tree.append([e1, e2, own]), numbers -/
theorem wx_app (j : Nat) {x y : Str} {e1 e2 : Expr} {pos ppos apos npos ypos lpos : Pos} {ds : List D} {ns : List Int} (hN : c.X.N[i]? = some x) (hN2 : c.X.N[j]? = some y) (hρ : ρ[j]? = some (some (.lst (ns.map D.int)))) (hz : ds.length < sizeLine)
    (h : WE c e1 ρ (fun y1 => ∃ n1, y1 = .int n1 ∧ WE c e2 ρ (fun y2 => ∃ n2, y2 = .int n2 ∧ WX c i (.lst (ds ++ [.lst [.int n1, .int n2, .lst (ns.map D.int)]])) rest (ρ.set j none) nx p) (p.ex ρ)) (p.ex ρ)) (hji : j ≠ i := by decide)
    (hpe : PE c.X (.Call (.Attribute (.Name x npos) "append" apos) [.List [e1, e2, .Name y ypos] lpos] [] ppos) (tBM c.X.K "list" rAppend (tVar i) (tCons (tLst (tCons (tU c e1) (tCons (tU c e2) (tCons (tVar j) tNil)))) tNil)) := by
      exact pe_bm PySem.F.plainAttrs_list PySem.F.slot_list_append PySem.F.type_list_append mt_append (pv _) (pa_cons (pe_lst (pa_cons (peU _ _) (pa_cons (peU _ _) (pa_cons (pv _) pa_nil)))) pa_nil))
    (hs : swapsWith (.Call (.Attribute (.Name x npos) "append" apos) [.List [e1, e2, .Name y ypos] lpos] [] ppos) none pos.line c.X.env = pure false := by rfl) : WX c i (.lst ds) (.Expr (.Call (.Attribute (.Name x npos) "append" apos) [.List [e1, e2, .Name y ypos] lpos] [] ppos) pos :: rest) ρ nx p :=
  ⟨fun pins s σ H R Ds E F v I S T tk en ex kn => (pss_cons (ps_expr hpe hs) (psX c i rest)).run pins s σ H Ds I (by
    obtain ⟨a0, vs0, G0, ev, fa0, ea0, _, _⟩ := T.q.lst_inv
    subst ev
    refine ⟨_, T.at_, .inl ⟨rfl, _, .inl (.inl ea0)⟩, ?_⟩
    obtain ⟨n, us, sj, nRn, n0n, en0, qn⟩ := S.lst j _ hρ
    refine tU.mk h S (tk.at σ) (ex.at S) fun u1 H1 ⟨y1, g1, ok1, q1, n1, ey1, w1⟩ => ?_
    subst ey1
    cases q1
    have S1 := S.grow g1 ok1
    have T1 := T.grow S g1 ok1
    refine tU.mk w1 S1 (tk.at σ) ((ex.at S).grow g1 ok1) fun u2 H2 ⟨y2, g2, ok2, q2, n2, ey2, hw⟩ => ?_
    subst ey2
    cases q2
    have S2 := S1.grow g2 ok2
    have T2 := T1.grow S1 g2 ok2
    refine ⟨_, sj, ?_⟩
    refine ⟨by show 3 ≤ _; rw [sizeLine_eq]; omega, fun a ha => ?_⟩
    -- the heap with the new row
    have hus : us = ns.map V.int := by
      have z := S.lst j _ hρ
      exact qn.ints
    have nm : ¬ c.W.mv n := fun z => S.ok0 _ (c.W.mvb _ z) n0n
    have en2 : H2 n = some (.lst us) := g2 n _ nm (g1 n _ nm en0)
    have nFn : ¬ F n := T.sp j _ n hρ sj
    have sm : Same H2 (upd H2 a (.lst [.int n1, .int n2, .ref n])) := same_upd ha
    have na : n ≠ a := fun z => by rw [z, ha] at en2; cases en2
    have S2a := S2.alive
    have S3 : Sl c (Al (Nw (Nw R H) H1) H2) (upd H2 a (.lst [.int n1, .int n2, .ref n])) σ (ρ.set j none) := (S2a.to (Gr.of_same sm) (ok_same ok2 sm) (fun b o r _ => r) fun b z => .inl z).forget j
    have T2f := T2.forget j hji
    have T3 : Tr c (Al (Nw (Nw R H) H1) H2) (upd H2 a (.lst [.int n1, .int n2, .ref n])) σ (ρ.set j none) i F (.ref a0) (.lst ds) := {
      at_ := T2f.at_
      no := T2f.no
      q := T2f.q.mono3 (fun b o r e => ⟨⟨r, fun z => by rw [e] at z; cases z⟩, sm b o e⟩) (fun _ z => z) fun b o _ e => sm b o e
      nR := fun b z r => T2f.nR b z r.1
      n0 := T2f.n0
      al := fun b z => by
        cases e : H2 b with
        | none => exact absurd e (T2f.al b z)
        | some o => rw [sm b o e]; exact fun z => nomatch z
      sp := T2f.sp
      so := T2f.so }
    obtain ⟨at', vs, G, e1, fa, ea, qL, nn⟩ := T3.q.lst_inv
    cases e1
    have aF : ¬ F a := fun z => T2.al a z ha
    have a0a : a0 ≠ a := fun z => aF (z ▸ fa)
    refine ⟨a0, vs, .ref a, rfl, rfl, ea, by rw [qL.length]; exact hz, ?_⟩
    have S4 := S3.mutTree T3 fa (o := .lst (vs ++ [.ref a]))
    have hR : ∀ b, Al (Nw (Nw R H) H1) H2 b → b ≠ a0 := fun b r z => T3.nR a0 fa (z ▸ r)
    have kk : Kp R H (Al (Nw (Nw R H) H1) H2) (upd (upd H2 a (.lst [.int n1, .int n2, .ref n])) a0 (.lst (vs ++ [.ref a]))) :=
      (((Kp.grow S.ndr g1).trans (Kp.grow S1.ndr g2)).trans (Kp.new ha)).trans (Kp.mut (T3.nR a0 fa))
    have nRn2 : ¬ Al (Nw (Nw R H) H1) H2 n := fun z => by
      rcases z.1 with (r | r) | r
      · exact nRn r
      · rw [en0] at r; cases r
      · rw [g1 n _ nm en0] at r; cases r
    refine ⟨_, _, E, fun b => F b ∨ b = a ∨ b = n, .ref a0, _, nx, p, S4, ?_, tk, en.from kk, ex, fun d' R' H' σ' ρ' F' v' S' T' k hn => kn d' R' H' σ' ρ' F' v' S' T' (kk.trans k) hn, hw⟩
    have off : MqL (Al (Nw (Nw R H) H1) H2) (upd (upd H2 a (.lst [.int n1, .int n2, .ref n])) a0 (.lst (vs ++ [.ref a]))) G vs ds := qL.off (G := fun b => b = a0) (fun b r => hR b r) (fun b h => upd_ne h) fun b g => (nn b g).2
    have ha4 : (upd (upd H2 a (.lst [.int n1, .int n2, .ref n])) a0 (.lst (vs ++ [.ref a]))) a = some (.lst [.int n1, .int n2, .ref n]) := by rw [upd_ne (Ne.symm a0a), upd_same]
    have na0 : n ≠ a0 := fun z => nFn (z ▸ fa)
    have hn4 : (upd (upd H2 a (.lst [.int n1, .int n2, .ref n])) a0 (.lst (vs ++ [.ref a]))) n = some (.lst (ns.map V.int)) := by rw [upd_ne na0, upd_ne na, en2, hus]
    have new : Mq (Al (Nw (Nw R H) H1) H2) (upd (upd H2 a (.lst [.int n1, .int n2, .ref n])) a0 (.lst (vs ++ [.ref a]))) (fun b => b = a ∨ b = n) (.ref a) (.lst [.int n1, .int n2, .lst (ns.map D.int)]) :=
      .lst (G := fun b => b = n) (.inl rfl) ha4 (.cons (F1 := fun _ => False) (F2 := fun b => b = n) (.int _) (.cons (F1 := fun _ => False) (F2 := fun b => b = n) (.int _) (.cons (F1 := fun b => b = n) (F2 := fun _ => False) (.lst (G := fun _ => False) rfl hn4 (mq_ints ns) fun _ z => z.elim) .nil (fun _ z => z) (fun _ z => z.elim) fun _ _ z => z) (fun _ z => z.elim) (fun _ z => z) fun _ z => z.elim) (fun _ z => z.elim) (fun _ z => z) fun _ z => z.elim) fun b z => ⟨.inr z, by subst z; exact na⟩
    exact {
      at_ := T3.at_
      no := T3.no
      q := .lst (G := fun b => G b ∨ (b = a ∨ b = n)) (.inl fa) upd_same (MqL.snoc new (fun b g z => by
          have := (nn b g).1
          rcases z with z | z
          · exact aF (z ▸ this)
          · exact nFn (z ▸ this)) off) fun b z => by
        rcases z with z | z | z
        · exact ⟨.inl (nn b z).1, (nn b z).2⟩
        · exact ⟨.inr (.inl z), by subst z; exact Ne.symm a0a⟩
        · exact ⟨.inr (.inr z), by subst z; exact na0⟩
      nR := fun b z r => by
        rcases z with z | z | z
        · exact T3.nR b z r
        · subst z; exact r.2 ha
        · subst z; exact nRn2 r
      n0 := fun b z => by
        rcases z with z | z | z
        · exact T3.n0 b z
        · subst z; exact none_back S2.ok S2.gr ha
        · subst z; exact n0n
      al := fun b z => by
        by_cases hb : b = a0
        · subst hb; rw [upd_same]; exact fun z => nomatch z
        · rcases z with z | z | z
          · rw [upd_ne hb]; exact T3.al b z
          · subst z; rw [ha4]; exact fun z => nomatch z
          · subst z; rw [hn4]; exact fun z => nomatch z
      sp := fun k es b h1 h2 z => by
        obtain ⟨hk, h1'⟩ := back_set h1
        rcases z with z | z | z
        · exact T3.sp k es b h1 h2 z
        · subst z
          obtain ⟨b', ws, x1, x2, x3, x4, x5⟩ := S2.lst k es h1'
          rw [h2] at x1
          cases x1
          rw [ha] at x4
          cases x4
        · subst z
          exact S.sep j k _ _ b hk hρ h1' sj h2
      so := fun k b kx fs h1 z => by
        obtain ⟨hk, h1'⟩ := back_set h1
        rcases z with z | z | z
        · exact T3.so k b kx fs h1 z
        · subst z
          obtain ⟨dx, ws, x1, x2, x3, x4, x5⟩ := S2.ob k b kx fs h1'
          rw [ha] at x4
          cases x4
        · subst z
          obtain ⟨dx, ws, x1, x2, x3, x4, x5⟩ := S2.ob k b kx fs h1'
          rw [en2] at x4
          cases x4 })⟩
end
end Vl
end
section
set_option maxHeartbeats 4000000
namespace Vl
open PySem PySem.Spec PyProof.Rows L2
variable {cls : Nat → Addr}
/-! ### texts: cut, times, turned about -/
theorem cut_list (z : Str) (lo hi : Option Int) : (cutS z lo hi).cps.toList = (z.cps.toList.drop (HT.sIx z.length 0 lo)).take (HT.sIx z.length z.length hi - HT.sIx z.length 0 lo) := by
  unfold cutS
  simp
theorem cut_pre (z : Str) {k : Nat} : (cutS z none (some (k : Int))).cps.toList = z.cps.toList.take k := by
  rw [cut_list, HT.sIx_none, HT.sIx_nat]
  simp
  have : z.cps.toList.length = z.length := rfl
  rw [show z.length = z.cps.size from rfl, Nat.min_self]
theorem cut_suf (z : Str) {k : Nat} : (cutS z (some (k : Int)) none).cps.toList = z.cps.toList.drop k := by
  have zl : z.cps.toList.length = z.length := rfl
  rw [cut_list, HT.sIx_none, HT.sIx_nat]
  by_cases h : k ≤ z.length
  · rw [Nat.min_eq_left h, List.take_of_length_le (by rw [List.length_drop]; omega)]
  · rw [Nat.min_eq_right (by omega), List.drop_eq_nil_of_le (show z.cps.toList.length ≤ k by omega), List.drop_eq_nil_of_le (show z.cps.toList.length ≤ z.length by omega)]
    simp
theorem len_list (z : Str) : z.length = z.cps.toList.length := rfl
theorem mul_mem {z : Str} {k : Int} {n : Nat} (h : n ∈ (Txt.mul z k).cps.toList) : n ∈ z.cps.toList := by
  unfold Txt.mul at h
  split at h
  · exact absurd h (by show n ∉ ([] : List Nat); simp)
  · split at h
    · exact h
    · have key : ∀ (m : Nat) (acc : Array Nat), n ∈ ((List.replicate m z.cps).foldl (· ++ ·) acc).toList → n ∈ acc.toList ∨ n ∈ z.cps.toList := by
        intro m
        induction m with
        | zero => intro acc h; exact .inl h
        | succ m ih =>
          intro acc h
          rw [List.replicate_succ, List.foldl_cons] at h
          rcases ih _ h with h | h
          · rw [Array.toList_append, List.mem_append] at h
            exact h
          · exact .inr h
      rcases key _ _ h with h | h
      · simp at h
      · exact h
theorem mul_len (z : Str) (k : Nat) : (Txt.mul z (k : Int)).length = z.length * k := by
  have := len_mul z (k : Int)
  rw [if_neg (by simp)] at this
  exact_mod_cast this
theorem mulOk_of {z : Str} {k : Nat} (h1 : z.length ≤ 1000) (h2 : k ≤ 1000) : PySem.MulOk z (k : Int) := by
  refine ⟨by simp; omega, fun h _ hh => ?_, fun _ _ => ?_⟩
  · have : (2 ^ 63 - 1 : Int) / (k : Int) ≥ 1000 := by
      have kp : (0 : Int) < k := by omega
      rw [ge_iff_le, Int.le_ediv_iff_mul_le kp]
      have : (k : Int) ≤ 1000 := by exact_mod_cast h2
      omega
    omega
  · unfold Builtin.Str.tooLong
    rw [decide_eq_false_iff_not, sizeLine_eq]
    have : z.length * ((k : Int)).toNat ≤ 1000 * 1000 := Nat.mul_le_mul h1 (by simpa using h2)
    omega
section
variable {X : Cx}
def tRevS2 (te : TE) : TE := fun σ H Q => te σ H fun x H1 => ∃ a b : Nat, x = .str ⟨#[a, b]⟩ ∧ Q (.str ⟨#[b, a]⟩) H1
theorem pe_revS2 {e : Expr} {te : TE} {k : Nat} {p1 p2 p3 pos : Pos} (he : PE X e te) : PE X (.Subscript e (.Slice none none (some (.UnaryOp .USub (.Constant (.int 1) k p1) p2)) p3) pos) (tRevS2 te) := by
  refine ⟨fun pins s σ H Q I h => ?_⟩
  refine Subscript_ (thn (he.run pins s σ H _ I h) fun v s1 ⟨x, H1, I1, r1, q1⟩ => ?_)
  obtain ⟨a, b, ex, q⟩ := q1
  subst ex
  obtain ⟨t, rfl⟩ := r1
  have hst : PO X (some (.UnaryOp .USub (.Constant (.int 1) k p1) p2)) (tPart (tUn (rU fun i => .int (-i)) (tC (.int 1)))) := po_some (pe_un un_neg pe_int)
  refine wpAny_Slice (thn (po_none.run pins s1 σ H1 (fun o H2 => o = none ∧ H2 = H1) I1 ⟨rfl, rfl⟩) fun vl s2 ⟨l, H2, I2, pl, el, e2⟩ => ?_)
  subst el e2
  refine thn (po_none.run pins s2 σ H2 (fun o H3 => o = none ∧ H3 = H2) I2 ⟨rfl, rfl⟩) fun vu s3 ⟨u, H3, I3, pu, eu, e3⟩ => ?_
  subst eu e3
  refine thn (hst.run pins s3 σ H3 (fun o H4 => o = some (-1) ∧ H4 = H3) I3 ⟨1, rfl, -1, rfl, rfl, rfl⟩) fun vs s4 ⟨o, H4, I4, ps, eo, e4⟩ => ?_
  subst eo e4
  have I5 : Inv X pins σ H4 { s4 with heap := s4.heap.push { cls := .type "slice", data := .fields #[vl, vu, vs] } } := I4.kept (t' := s4.toks) fun b ob q => Heap.get?_push_of_some _ q
  show wpAny (model X.prog X.w) X.A (subscriptTail e (.Slice none none (some (.UnaryOp .USub (.Constant (.int 1) k p1) p2)) p3) (.str ⟨#[a, b]⟩ t) (.ref s4.heap.objs.size)) (EP X pins σ Q) X.xe { s4 with heap := s4.heap.push { cls := .type "slice", data := .fields #[vl, vu, vs] } }
  refine tail_any (ops := [.str ⟨#[a, b]⟩ t, .ref s4.heap.objs.size]) (typeIs_str _ _ _) F.slot_str_getitem.lookup ?_ (by with_unfolding_all rfl)
  obtain ⟨l, rfl, el⟩ := IsPart.raw pl
  obtain ⟨u, rfl, eu⟩ := IsPart.raw pu
  obtain ⟨st, rfl, es⟩ := IsPart.raw ps
  have el : l = none := by cases l with
    | none => rfl
    | some p => cases el
  have eu : u = none := by cases u with
    | none => rfl
    | some p => cases eu
  obtain ⟨tk, es⟩ : ∃ tk, st = some (-1, tk) := by
    cases st with
    | none => cases es
    | some p => obtain ⟨i, tk⟩ := p; cases es; exact ⟨tk, rfl⟩
  subst el eu es
  refine wpAny_getItem_str_slice (l := none) (u := none) (st := some (-1, tk)) ⟨_, Heap.get?_push_size _ rfl, rfl, rfl⟩ rfl ?_
  have pk : slicePicked ⟨#[a, b]⟩ (none : Option (Int × Tok)) none (some (-1, tk)) = [1, 0] := by
    show Builtin.Str.strSliceIndices none none (-1) 2 = _
    decide +kernel
  have e : (⟨((slicePicked ⟨#[a, b]⟩ (none : Option (Int × Tok)) none (some (-1, tk))).filterMap ((⟨#[a, b]⟩ : Str).cps[·]?)).toArray⟩ : Str) = ⟨#[b, a]⟩ := by rw [pk]; rfl
  unfold sliceMade
  rw [if_neg (show ¬ ((Option.map (·.1) (some ((-1 : Int), tk))).getD 1 == 1 && (slicePicked ⟨#[a, b]⟩ (none : Option (Int × Tok)) none (some (-1, tk))).length == (⟨#[a, b]⟩ : Str).length) = true from fun h => by rw [pk] at h; exact Bool.noConfusion h), e]
  refine ⟨?_, .str _, H4, I5.tok _, ⟨_, rfl⟩, q⟩
  show 2 ≤ _
  rw [sizeLine_eq]
  omega
end
section
variable {c : Cy cls} {ρ : Rho}
theorem we_revS2 {e : Expr} {k : Nat} {p1 p2 p3 pos : Pos} {P : D → Prop} {ex : Xd → Prop} (h : WE c e ρ (fun d => ∃ a b : Nat, d = .str ⟨#[a, b]⟩ ∧ P (.str ⟨#[b, a]⟩)) ex) : WE c (.Subscript e (.Slice none none (some (.UnaryOp .USub (.Constant (.int 1) k p1) p2)) p3) pos) ρ P ex :=
  we_of (pe_revS2 (peU c e)) fun σ H R E S p x => tU.mk h S p x fun v H1 ⟨d, g, ok, q, a, b, e, hp⟩ => by
    subst e
    cases q
    exact ⟨a, b, rfl, _, g, ok, .str _, hp⟩
end
end Vl
end
section
set_option maxHeartbeats 4000000
namespace Vl
open PySem PySem.Spec PyProof.Rows L2
variable {cls : Nat → Addr}
section
variable {c : Cy cls} {ρ : Rho}
/-- C.f, a constant read off the class -/
theorem we_cval {e : Expr} {f : Str} {pos : Pos} {k : Nat} {mc : Value} {v : V} {u : Value} {y : D} {P : D → Prop} {ex : Xd → Prop} (rd : ClX.CRead c.X.K (cls k) mc) (cv : ClX.CVal c.X.K (cls k) mc f v u) (hq : ∀ R H, Dq c.W R H v y)
    (h : WE c e ρ (fun d => d = .cl k ∧ P y) ex) (hb : attributeBase e f c.X.env (eval e c.X.env) = eval e c.X.env := by rfl) : WE c (.Attribute e f pos) ρ P ex :=
  we_of (ClX.pe_cval (peU c e) hb) fun σ H R E S p x => tU.mk h S p x fun w H1 ⟨d, g, ok, q, e1, hp⟩ => by
    subst e1
    cases q
    exact ⟨_, mc, v, u, rfl, rd, cv, y, g, ok, hq _ _, hp⟩
end
end Vl
end
section
set_option maxHeartbeats 4000000
namespace Vl
open PySem PySem.Spec PyProof.Rows L2
variable {cls : Nat → Addr}
section
variable {c : Cy cls} {ρ : Rho}
/-- list + list -/
theorem we_addL {a b : Expr} {pos : Pos} {P : D → Prop} {ex : Xd → Prop} (h : WE c a ρ (fun x => WE c b ρ (fun y => ∃ xs ys, x = .lst xs ∧ y = .lst ys ∧ xs.length + ys.length ≤ 1000000 ∧ P (.lst (xs ++ ys))) ex) ex) : WE c (.BinOp a .Add b pos) ρ P ex :=
  we_bin (F := fun x y P => ∃ xs ys, x = .lst xs ∧ y = .lst ys ∧ xs.length + ys.length ≤ 1000000 ∧ P (.lst (xs ++ ys))) (pe_op op_cat (peU c a) (peU c b)) (fun R H vx vy x y P nd ok qx qy f Q k => by
    obtain ⟨xs, ys, rfl, rfl, hl, h⟩ := f
    cases qx with
    | lst r1 e1 q1 =>
    cases qy with
    | lst r2 e2 q2 =>
    exact ⟨_, _, _, _, rfl, rfl, e1, e2, by rw [q1.length, q2.length, sizeLine_eq]; omega, fun p hp => k _ _ (Fin.new ok hp (.lst (.inr hp) upd_same (DqL.up (c := c) hp (q1.append q2))) h)⟩) h
/-- tuple + tuple, neither empty -/
theorem we_addT {a b : Expr} {pos : Pos} {P : D → Prop} {ex : Xd → Prop} (h : WE c a ρ (fun x => WE c b ρ (fun y => ∃ xs ys, x = .tup xs ∧ y = .tup ys ∧ xs.length + ys.length ≤ 1000000 ∧ P (.tup (xs ++ ys))) ex) ex) : WE c (.BinOp a .Add b pos) ρ P ex :=
  we_bin (F := fun x y P => ∃ xs ys, x = .tup xs ∧ y = .tup ys ∧ xs.length + ys.length ≤ 1000000 ∧ P (.tup (xs ++ ys))) (pe_op op_catA (peU c a) (peU c b)) (fun R H vx vy x y P nd ok qx qy f Q k => by
    obtain ⟨xs, ys, rfl, rfl, hl, h⟩ := f
    cases qx with
    | tup r1 e1 q1 =>
    cases qy with
    | tup r2 e2 q2 =>
    refine ⟨_, _, _, _, rfl, rfl, sq_t e1, sq_t e2, by rw [q1.length, q2.length, sizeLine_eq]; omega, fun z => ?_, fun _ z => ?_, fun _ _ p hp => k _ _ (Fin.new ok hp (.tup (.inr hp) upd_same (DqL.up (c := c) hp (q1.append q2))) h)⟩
    · subst z
      cases q1
      exact k _ _ (Fin.here ok nd (.tup r2 e2 q2) h)
    · subst z
      cases q2
      rw [List.append_nil] at h
      exact k _ _ (Fin.here ok nd (.tup r1 e1 q1) h)) h
theorem DqL.rep {W : Wd cls} {R : Addr → Prop} {H : Hp} {vs : List V} {ds : List D} (q : DqL W R H vs ds) : ∀ n : Nat, DqL W R H (List.replicate n vs).flatten (List.replicate n ds).flatten
  | 0 => .nil
  | n + 1 => by
    rw [List.replicate_succ, List.replicate_succ, List.flatten_cons, List.flatten_cons]
    exact q.append (DqL.rep q n)
/-- list * number -/
theorem we_mulL {a b : Expr} {pos : Pos} {P : D → Prop} {ex : Xd → Prop} (h : WE c a ρ (fun x => WE c b ρ (fun y => ∃ xs, ∃ n : Nat, x = .lst xs ∧ y = .int (n : Nat) ∧ n ≤ 1000 ∧ xs.length ≤ 1000 ∧ P (.lst (List.replicate n xs).flatten)) ex) ex) : WE c (.BinOp a .Mult b pos) ρ P ex :=
  we_bin (F := fun x y P => ∃ xs, ∃ n : Nat, x = .lst xs ∧ y = .int (n : Nat) ∧ n ≤ 1000 ∧ xs.length ≤ 1000 ∧ P (.lst (List.replicate n xs).flatten)) (pe_op op_rep (peU c a) (peU c b)) (fun R H vx vy x y P nd ok qx qy f Q k => by
    obtain ⟨xs, n, rfl, rfl, hn, hl, h⟩ := f
    cases qx with
    | lst r1 e1 q1 =>
    cases qy
    refine ⟨_, _, _, rfl, rfl, e1, by omega, by omega, ?_, fun p hp => k _ _ (Fin.new ok hp (.lst (.inr hp) upd_same (DqL.up (c := c) hp (DqL.rep q1 n))) h)⟩
    rw [q1.length, sizeLine_eq]
    have : xs.length * (n : Int).toNat ≤ 1000 * 1000 := Nat.mul_le_mul hl (by simpa using hn)
    omega) h
/-- tuple * number -/
theorem we_mulT {a b : Expr} {pos : Pos} {P : D → Prop} {ex : Xd → Prop} (h : WE c a ρ (fun x => WE c b ρ (fun y => ∃ xs, ∃ n : Nat, x = .tup xs ∧ y = .int (n : Nat) ∧ 2 ≤ n ∧ n ≤ 1000 ∧ xs ≠ [] ∧ xs.length ≤ 1000 ∧ P (.tup (List.replicate n xs).flatten)) ex) ex) : WE c (.BinOp a .Mult b pos) ρ P ex :=
  we_bin (F := fun x y P => ∃ xs, ∃ n : Nat, x = .tup xs ∧ y = .int (n : Nat) ∧ 2 ≤ n ∧ n ≤ 1000 ∧ xs ≠ [] ∧ xs.length ≤ 1000 ∧ P (.tup (List.replicate n xs).flatten)) (pe_op op_repT (peU c a) (peU c b)) (fun R H vx vy x y P nd ok qx qy f Q k => by
    obtain ⟨xs, n, rfl, rfl, h2, hn, hx, hl, h⟩ := f
    cases qx with
    | tup r1 e1 q1 =>
    cases qy
    refine ⟨_, _, _, rfl, rfl, sq_t e1, fun z => ?_, by omega, by omega, by rw [q1.length]; exact hl, fun p hp => k _ _ (Fin.new ok hp (.tup (.inr hp) upd_same (DqL.up (c := c) hp (DqL.rep q1 n))) h)⟩
    subst z
    cases q1
    exact hx rfl) h
end
end Vl
end
namespace K01
section
set_option maxHeartbeats 0
open PySem PySem.Spec PyProof.Rows L2 Vl
def top (i : Nat) : Stmt := PySem.Challenge.pw_tailheard_k01_drills_led.main.body.getD i (.Pass ⟨0, 0, 0, 0⟩)
abbrev SMALL : Str := "abcdefghijklmnopqrstuvwxyz"
abbrev errs : List Nat := [2, 3, 4, 5]
/-! ### the head: what the hook looks at -/
abbrev Fg := PySem.W.Frag
/-- where a def stands, its names, its text -/
structure FD where
  ad : Fg → Addr
  x : Str
  qual : Str
  st : Stmt
def FD.val (d : FD) : He.FnV := some (d.x, d.qual, defArgs d.st, .stmts (defBody d.st), defScope d.st, mainGlobals, [], .none, builtinsNs)
def FD.obs (K : Fg) (d : FD) : He.FnV := match K.lookup (d.ad K) with
  | some ⟨_, _, .func fd, _⟩ => some (fd.name, fd.qualname, fd.params, fd.body, fd.scope, fd.globals, fd.closure, fd.defaults, fd.builtins)
  | _ => none
def FD.ok (K : Fg) (d : FD) : Bool := PySem.W.keepIn K (.ref (d.ad K)) && (match K.lookup (d.ad K) with
  | some ⟨_, _, .func fd, _⟩ => PySem.W.codeIn K fd.code d.qual
  | _ => false)
theorem FD.fn {K : Fg} {d : FD} (e : d.obs K = d.val) (c : d.ok K = true) : ∃ fd, Fun K d.x d.qual d.st (d.ad K) fd := by
  obtain ⟨kp, c2⟩ := He.ba c
  unfold FD.obs at e
  cases q : K.lookup (d.ad K) with
  | none =>
    rw [q] at c2
    cases c2
  | some o =>
    obtain ⟨oc, od, dt, osl⟩ := o
    rw [q] at c2 e
    cases dt with
    | func fd =>
      obtain ⟨n1, n2, n3, n4, n5, n6, n7, n8, n9, n10, n11, n12, n13, n14, n15⟩ := fd
      have e2 : (some (n1, n2, n3, n4, n5, n6, n7, n8, n15) : He.FnV) = some (d.x, d.qual, defArgs d.st, .stmts (defBody d.st), defScope d.st, mainGlobals, [], .none, builtinsNs) := e
      simp only [Option.some.injEq, Prod.mk.injEq] at e2
      obtain ⟨h1, h2, h3, h4, h5, h6, h7, h8, h9⟩ := e2
      subst h1 h2 h3 h4 h5 h6 h7 h8 h9
      exact ⟨_, ⟨oc, od, n9, n10, n11, n12, n13, n14, osl, rfl, q, c2⟩, kp⟩
    | _ => cases c2
/-- the hook: the defs, and whatever else is said of the heap's part -/
abbrev AlK : Type := Bool × List He.FnV
def obsK (ex : Fg → Bool) (fn : List FD) (K : Fg) : AlK := (ex K && fn.all fun d => d.ok K, fn.map fun d => d.obs K)
def valK (fn : List FD) : AlK := (true, fn.map FD.val)
def SaysK (ex : Fg → Bool) (fn : List FD) (K : Fg) : Prop := obsK ex fn K = valK fn
def obsKG (n : Nat) (ex : Fg → Bool) (fn : List FD) (g : Addr → Option Obj) : AlK := obsK ex fn (He.frG g (cStatics :: He.asG g n))
def hookK (n : Nat) (ex : Fg → Bool) (fn : List FD) : PySem.W.Hook where
  α := AlK
  obs := fun s => obsKG n ex fn s.heap.get?
  val := fun _ => valK fn
  says := fun _ h => ∃ K : PySem.W.Frag, K.In h ∧ SaysK ex fn K
  of := fun _ _ e => ⟨_, He.frG_in, e⟩
  keeps := fun _ _ _ ⟨K, hK, c⟩ k => ⟨K, PySem.W.Frag.In.keeps hK k, c⟩
theorem obsKG_eq {n : Nat} {ex : Fg → Bool} {fn : List FD} {g : Addr → Option Obj} {s : Shared} (h : ∀ a, g a = s.heap.get? a) : obsKG n ex fn g = (hookK n ex fn).obs s := by
  have e : g = s.heap.get? := funext h
  rw [e] <;> rfl
theorem SaysK.exs {ex : Fg → Bool} {fn : List FD} {K : Fg} (c : SaysK ex fn K) : ex K = true := (He.ba (show (ex K && fn.all fun d => d.ok K) = true from congrArg (fun z : AlK => z.1) c)).1
theorem SaysK.fn {ex : Fg → Bool} {fn : List FD} {K : Fg} (c : SaysK ex fn K) (i : Nat) {d : FD} (h : fn[i]? = some d) : ∃ fd, Fun K d.x d.qual d.st (d.ad K) fd := by
  have c2 := (He.ba (show (ex K && fn.all fun d => d.ok K) = true from congrArg (fun z : AlK => z.1) c)).2
  have e : fn.map (fun d => d.obs K) = fn.map FD.val := congrArg (fun z : AlK => z.2) c
  have e2 : (fn.map fun d => d.obs K)[i]? = (fn.map FD.val)[i]? := by rw [e]
  rw [List.getElem?_map, List.getElem?_map, h] at e2
  exact FD.fn (Option.some.inj e2) (List.all_eq_true.mp c2 d (List.mem_of_getElem? h))
/-! ### an error class, looked at -/
def oexB (K : Fg) (C : Addr) : Bool := (match K.lookup C with
  | some ⟨.type n, _, .cls cd, sl⟩ => (match cd.mro, sl.toList with
    | .ref C' :: bm, [_, _, _, _, some (.builtin z), _] => decide (n = "type") && (decide (C' = C) && (decide (z = "ValueError.__new__") && (!cd.hasDel && (cd.hasDict && PySem.HandSPX.refsVE bm))))
    | _, _ => false)
  | _ => false)
theorem oexB_ok {K : Fg} {C : Addr} (q : oexB K C = true) : ∃ nm q N bs bm sn sub ab col dd k0 k1 k2 k3 k5, K.lookup C = some (excClassObj nm q C N bs bm true sn sub ab col dd k0 k1 k2 k3 k5 "ValueError.__new__") ∧ PySem.HandSPX.refsVE bm = true := by
  unfold oexB at q
  split at q
  · rename_i n dd cd sl ho
    split at q
    · rename_i C' bm k0 k1 k2 k3 z k5 hm hs
      simp only [Bool.and_eq_true, decide_eq_true_eq, Bool.not_eq_true'] at q
      obtain ⟨rfl, rfl, rfl, hdel, hd, hb⟩ := q
      obtain ⟨nm, bs, mro, ns, qn, hdc, sn, sub, ab, col, del⟩ := cd
      dsimp only at hm hdel hd
      subst hm hdel hd
      have hsl : sl = #[k0, k1, k2, k3, some (.builtin "ValueError.__new__"), k5] := by
        obtain ⟨l⟩ := sl
        simp only at hs
        rw [hs]
      subst hsl
      exact ⟨nm, qn, ns, bs, bm, sn, sub, ab, col, dd, k0, k1, k2, k3, k5, ho, hb⟩
    · cases q
  · cases q
/-- the classes by their numbers -/
def clsK (K : Fg) : Nat → Addr := fun k => if k = 25 then He.ga K "Drill" else if k = 5 then He.ga K "NoStanding" else if k = 4 then He.ga K "BadCalling" else if k = 3 then He.ga K "BadStanding" else if k = 2 then He.ga K "BadWords" else He.ga K "TailError"
abbrev fi_ (K : Fg) (v : Value) (f : Str) (r : Option Value) : Bool := He.eqO (PySem.W.findIn K v f) (some r)
abbrev sp_ (K : Fg) (v : Value) (f : Str) (r : Option Value) : Bool := He.eqO (PySem.W.specialIn K v f) (some r)
abbrev ini (K : Fg) (k : Nat) : Addr := He.ma K (clsK K k) "__init__"
def erB (K : Fg) (k : Nat) (f : Str) : Bool := oexB K (clsK K k) && (fi_ K (.ref (clsK K k)) "__setattr__" (some (.builtin "object.__setattr__")) && (decide (PySem.W.subIn K (.ref (clsK K k)) (.type "BaseException") = some true) && (decide (PySem.W.typeIn K (.ref (clsK K k)) = some (.type "type")) &&
  (PySem.W.keepIn K (.ref (clsK K k)) && (fi_ K (.ref (clsK K k)) "__init__" (some (.ref (ini K k))) && (decide (PySem.W.typeIn K (.ref (ini K k)) = some (.type "function")) && (fi_ K (.ref (clsK K k)) f none && (fi_ K (.ref (clsK K k)) "__class__" (some (.builtin "object.__class__")) &&
  (L2.xfB K (clsK K k) && (decide (PySem.W.mroIn K (clsK K k) (.type "object") = some true) && (decide (PySem.W.kitOne K (.ref (clsK K k)) (.type "ValueError") = some true) && decide (PySem.W.exmOne K (.ref (clsK K k)) (.ref (clsK K 1)) = some true))))))))))))
structure ErV (K : Fg) (k : Nat) (f : Str) : Prop where
  o : OexC K (clsK K k)
  ini : PySem.W.findIn K (.ref (clsK K k)) "__init__" = some (some (.ref (ini K k)))
  ty : PySem.W.typeIn K (.ref (K01.ini K k)) = some (.type "function")
  fl : PySem.W.findIn K (.ref (clsK K k)) f = some none
  cl : PySem.W.findIn K (.ref (clsK K k)) "__class__" = some (some (.builtin "object.__class__"))
  xf : XfC K (clsK K k)
  mro : PySem.W.mroIn K (clsK K k) (.type "object") = some true
  kv : PySem.W.kitOne K (.ref (clsK K k)) (.type "ValueError") = some true
  em : PySem.W.exmOne K (.ref (clsK K k)) (.ref (clsK K 1)) = some true
theorem erB_ok {K : Fg} {k : Nat} {f : Str} (h : erB K k f = true) : ErV K k f := by
  obtain ⟨h1, h⟩ := He.ba h
  obtain ⟨h2, h⟩ := He.ba h
  obtain ⟨h3, h⟩ := He.ba h
  obtain ⟨h4, h⟩ := He.ba h
  obtain ⟨h5, h⟩ := He.ba h
  obtain ⟨h6, h⟩ := He.ba h
  obtain ⟨h7, h⟩ := He.ba h
  obtain ⟨h8, h⟩ := He.ba h
  obtain ⟨h9, h⟩ := He.ba h
  obtain ⟨h10, h⟩ := He.ba h
  obtain ⟨h11, h⟩ := He.ba h
  obtain ⟨h12, h13⟩ := He.ba h
  exact ⟨⟨oexB_ok h1, He.eqO_ok h2, of_decide_eq_true h3, of_decide_eq_true h4, h5⟩, He.eqO_ok h6, of_decide_eq_true h7, He.eqO_ok h8, He.eqO_ok h9, L2.xfB_ok h10, of_decide_eq_true h11, of_decide_eq_true h12, of_decide_eq_true h13⟩
/-! ### all that is looked at -/
def gls : List Str := ["BadWords", "BadStanding", "BadCalling", "NoStanding", "TailError", "Drill"]
/-- the property's record, its getter -/
abbrev stP (K : Fg) : Addr := He.ma K (clsK K 25) "is_steady"
def stG (K : Fg) : Addr := match PySem.W.recIn K (stP K) "property" with
  | some (.ref g :: _) => g
  | _ => 0
abbrev mAd (m : Str) (K : Fg) : Addr := He.ma K (clsK K 25) m
abbrev rC (K : Fg) : Value := .ref (clsK K 25)
def meB (K : Fg) (m : Str) : Bool := fi_ K (rC K) m (some (.ref (mAd m K))) && (PySem.W.isFn K (.ref (mAd m K)) && (PySem.W.keepIn K (.ref (mAd m K)) && PySem.W.fnIn K (mAd m K)))
theorem meB_ok {K : Fg} {m : Str} (h : meB K m = true) : Meth K (clsK K 25) m (mAd m K) ∧ PySem.W.fnIn K (mAd m K) = true := by
  obtain ⟨h1, h⟩ := He.ba h
  obtain ⟨h2, h⟩ := He.ba h
  obtain ⟨h3, h4⟩ := He.ba h
  exact ⟨⟨He.eqO_ok h1, h2, h3⟩, h4⟩
def meths : List Str := ["__len__", "__getitem__", "__iter__", "__eq__", "__call__", "walk", "check_standing"]
/-- REST, as it stands in the class -/
def restV (K : Fg) : Value := match PySem.W.findIn K (rC K) "REST" with
  | some (some v) => v
  | _ => .none
def clB (K : Fg) : Bool := PySem.W.plainGet K (clsK K 25) Str.empty && (PySem.W.hasDictIn K (clsK K 25) && (PySem.W.plainOver K (clsK K 25) && (fi_ K (rC K) "__setattr__" (some (.builtin "object.__setattr__")) && (fi_ K (rC K) "words" none && fi_ K (rC K) "standings" none))))
def inB_ (K : Fg) : Bool := fi_ K (rC K) "__class__" (some (.builtin "object.__class__")) && (sp_ K (.builtin "object.__class__") "__get__" (some (.builtin "getset_descriptor.__get__")) && (decide (PySem.W.takesIn K (.builtin "object.__class__") = some true) && (decide (PySem.W.mroIn K (clsK K 25) (.type "object") = some true) &&
  (decide (PySem.W.kitOne K (rC K) (rC K) = some true) && ["NoneType", "bool", "int", "str", "list", "tuple"].all fun n => decide (PySem.W.kitOne K (.type n) (rC K) = some false)))))
def rdB (K : Fg) : Bool := PySem.W.readsIn K (clsK K 25) (.type "type") && (sp_ K (rC K) "__getattribute__" (some (.builtin "type.__getattribute__")) && ((match PySem.W.findCls K (rC K) (.type "type") "REST" with
  | some (.val u) => decide (u = restV K)
  | _ => false) && (fi_ K (rC K) "REST" (some (restV K)) && ((match restV K with
  | .int 0 _ => true
  | _ => false) && sp_ K (restV K) "__get__" none))))
def nfB (K : Fg) : Bool := PySem.W.notFirst K (clsK K 25) (rC K) && (PySem.W.notFirst K (clsK K 25) (.type "list") && PySem.W.notFirst K (clsK K 25) (.type "int"))
def prB (K : Fg) : Bool := fi_ K (rC K) "is_steady" (some (.ref (stP K))) && (sp_ K (.ref (stP K)) "__get__" (some (.builtin "property.__get__")) && (decide (PySem.W.takesIn K (.ref (stP K)) = some true) && (match PySem.W.recIn K (stP K) "property" with
  | some (.ref g :: _) => true
  | _ => false)))
def mkB (K : Fg) : Bool := PySem.W.makesIn K (clsK K 25) && (fi_ K (rC K) "__init__" (some (.ref (ini K 25))) && (PySem.W.isFn K (.ref (ini K 25)) && PySem.W.keepIn K (rC K)))
theorem prB_ok {K : Fg} (h : prB K = true) : PropOf K (clsK K 25) "is_steady" (stP K) (stG K) := by
  obtain ⟨h1, h⟩ := He.ba h
  obtain ⟨h2, h⟩ := He.ba h
  obtain ⟨h3, h4⟩ := He.ba h
  refine ⟨He.eqO_ok h1, He.eqO_ok h2, of_decide_eq_true h3, ?_⟩
  unfold stG
  cases q : PySem.W.recIn K (stP K) "property" with
  | none => rw [q] at h4; cases h4
  | some l =>
    rw [q] at h4
    cases l with
    | nil => cases h4
    | cons v r => cases v <;> first | exact ⟨_, rfl⟩ | cases h4
theorem mkB_ok {K : Fg} (h : mkB K = true) : Mk K (clsK K 25) (ini K 25) := by
  obtain ⟨h1, h⟩ := He.ba h
  obtain ⟨h2, h⟩ := He.ba h
  obtain ⟨h3, h4⟩ := He.ba h
  exact ⟨h1, He.eqO_ok h2, h3, h4⟩
def fn0 : List FD := [⟨(fun K => He.ga K "is_integer"), "is_integer", "is_integer", top 9⟩,
  ⟨(fun K => He.ga K "in_bounds"), "in_bounds", "in_bounds", top 10⟩,
  ⟨(fun K => He.ga K "is_tuple"), "is_tuple", "is_tuple", top 11⟩,
  ⟨(fun K => He.ga K "is_rising"), "is_rising", "is_rising", top 12⟩,
  ⟨(fun K => He.ga K "frozen"), "frozen", "frozen", top 13⟩,
  ⟨(fun K => He.ga K "misplaced"), "misplaced", "misplaced", top 14⟩,
  ⟨(fun K => He.ga K "is_text"), "is_text", "is_text", top 15⟩,
  ⟨(fun K => He.ga K "are_words"), "are_words", "are_words", top 16⟩,
  ⟨(fun K => He.ga K "check_words"), "check_words", "check_words", top 17⟩,
  ⟨(fun K => He.ga K "check_calling"), "check_calling", "check_calling", top 18⟩,
  ⟨(fun K => He.ga K "is_standing"), "is_standing", "is_standing", top 21⟩,
  ⟨(fun K => He.ga K "is_rest"), "is_rest", "is_rest", top 22⟩,
  ⟨(fun K => He.ga K "wrong_standing"), "wrong_standing", "wrong_standing", top 23⟩,
  ⟨(fun K => He.ga K "led"), "led", "led", top 24⟩,
  ⟨(fun K => He.ga K "_law_draw"), "_law_draw", "_law_draw", top 27⟩,
  ⟨(fun K => He.ga K "_law_mix"), "_law_mix", "_law_mix", top 28⟩,
  ⟨(fun K => He.ga K "_law_pick"), "_law_pick", "_law_pick", top 29⟩,
  ⟨(fun K => He.ga K "_law_listed"), "_law_listed", "_law_listed", top 30⟩,
  ⟨(fun K => He.ga K "_law_tupled"), "_law_tupled", "_law_tupled", top 31⟩,
  ⟨(fun K => He.ga K "_law_words"), "_law_words", "_law_words", top 32⟩]
def fn1 : List FD := [⟨(fun K => He.ga K "_law_same"), "_law_same", "_law_same", top 33⟩,
  ⟨(fun K => He.ga K "_law_rows"), "_law_rows", "_law_rows", top 34⟩,
  ⟨(fun K => He.ga K "_law_handed"), "_law_handed", "_law_handed", top 35⟩,
  ⟨(fun K => He.ga K "_law_spoil"), "_law_spoil", "_law_spoil", top 36⟩,
  ⟨(fun K => He.ga K "_law_went"), "_law_went", "_law_went", top 37⟩,
  ⟨(fun K => He.ga K "_law_walks"), "_law_walks", "_law_walks", top 38⟩,
  ⟨(fun K => He.ga K "_law_shown"), "_law_shown", "_law_shown", top 39⟩,
  ⟨(fun K => He.ga K "_law_calling"), "_law_calling", "_law_calling", top 40⟩,
  ⟨(fun K => He.ga K "_law_told"), "_law_told", "_law_told", top 41⟩,
  ⟨(fun K => He.ga K "_law_making"), "_law_making", "_law_making", top 42⟩,
  ⟨(fun K => He.ga K "_law_asking"), "_law_asking", "_law_asking", top 43⟩,
  ⟨(fun K => He.ga K "_law_bad_words"), "_law_bad_words", "_law_bad_words", top 44⟩,
  ⟨(fun K => He.ga K "_law_bad_standing"), "_law_bad_standing", "_law_bad_standing", top 45⟩,
  ⟨(fun K => He.ga K "_law_bad_standings"), "_law_bad_standings", "_law_bad_standings", top 46⟩,
  ⟨(fun K => He.ga K "_law_bad_calling"), "_law_bad_calling", "_law_bad_calling", top 47⟩,
  ⟨(fun K => He.ga K "_law_refused"), "_law_refused", "_law_refused", top 48⟩,
  ⟨(fun K => He.ga K "_law_equals"), "_law_equals", "_law_equals", top 49⟩,
  ⟨(fun K => He.ga K "law"), "law", "law", top 50⟩,
  ⟨(fun K => ini K 25), "__init__", "Drill.__init__", inClass (top 25) 1⟩,
  ⟨(mAd "__len__"), "__len__", "Drill.__len__", inClass (top 25) 2⟩]
def fn2 : List FD := [⟨(mAd "__getitem__"), "__getitem__", "Drill.__getitem__", inClass (top 25) 3⟩,
  ⟨(mAd "__iter__"), "__iter__", "Drill.__iter__", inClass (top 25) 4⟩,
  ⟨(mAd "__eq__"), "__eq__", "Drill.__eq__", inClass (top 25) 5⟩,
  ⟨(mAd "__call__"), "__call__", "Drill.__call__", inClass (top 25) 6⟩,
  ⟨stG, "is_steady", "Drill.is_steady", inClass (top 25) 7⟩,
  ⟨(mAd "walk"), "walk", "Drill.walk", inClass (top 25) 8⟩,
  ⟨(mAd "check_standing"), "check_standing", "Drill.check_standing", inClass (top 25) 9⟩,
  ⟨(fun K => ini K 2), "__init__", "BadWords.__init__", inClass (top 2) 0⟩,
  ⟨(fun K => ini K 3), "__init__", "BadStanding.__init__", inClass (top 3) 0⟩,
  ⟨(fun K => ini K 4), "__init__", "BadCalling.__init__", inClass (top 4) 0⟩,
  ⟨(fun K => ini K 5), "__init__", "NoStanding.__init__", inClass (top 5) 0⟩]
def fnK : List FD := fn0 ++ fn1 ++ fn2
def glA : List Str := ["is_integer", "in_bounds", "is_tuple", "is_rising", "frozen", "misplaced", "is_text", "are_words", "check_words", "check_calling", "is_standing", "is_rest", "wrong_standing", "led", "_law_draw", "_law_mix", "_law_pick", "_law_listed", "_law_tupled", "_law_words", "_law_same", "_law_rows", "_law_handed", "_law_spoil", "_law_went", "_law_walks", "_law_shown", "_law_calling", "_law_told", "_law_making"]
def glB : List Str := ["_law_asking", "_law_bad_words", "_law_bad_standing", "_law_bad_standings", "_law_bad_calling", "_law_refused", "_law_equals", "law", "Drill", "BadWords", "BadStanding", "BadCalling", "NoStanding", "TailError"]
def exK (K : Fg) : Bool := (bltNames.all fun x => He.eqO (PySem.W.nsIn K mainGlobals x) (some none)) && (He.eqO (PySem.W.nsIn K mainGlobals "iter") (some none) && ((glA.all fun x => (He.Fa.glo x).ok K) && ((glB.all fun x => (He.Fa.glo x).ok K) &&
  ((He.Fa.int "MOST_STANDINGS" 6).ok K && ((He.Fa.int "MOST_BEATS" 400).ok K && ((He.Fa.str "SMALL" SMALL).ok K && (erB K 2 "words" && (erB K 3 "number" && (erB K 4 "number" && (erB K 5 "standing" &&
  ((errs.all fun i => errs.all fun j => decide (PySem.W.kitOne K (.ref (clsK K i)) (.ref (clsK K j)) = some (i == j))) && (clB K && (inB_ K && (rdB K && (nfB K && (prB K && (mkB K && meths.all fun m => meB K m)))))))))))))))))
def nmA : List Str := ["__name__", "TailError", "BadWords", "BadStanding", "BadCalling", "NoStanding", "SMALL", "MOST_BEATS", "is_integer", "in_bounds", "is_tuple", "is_rising", "frozen", "misplaced", "is_text", "are_words", "check_words", "check_calling", "MOST_STANDINGS", "is_standing", "is_rest", "wrong_standing", "led", "Drill", "_law_draw", "_law_mix", "_law_pick", "_law_listed", "_law_tupled", "_law_words"]
def nmB : List Str := ["_law_same", "_law_rows", "_law_handed", "_law_spoil", "_law_went", "_law_walks", "_law_shown", "_law_calling", "_law_told", "_law_making", "_law_asking", "_law_bad_words", "_law_bad_standing", "_law_bad_standings", "_law_bad_calling", "_law_refused", "_law_equals"]
abbrev nms : List Str := nmA ++ nmB
abbrev RR : PySem.W.OpenRow := PySem.W.OpenLaw.row PySem.Challenge.rw_tailheard_k01_drills_led
abbrev hkR : PySem.W.Hook := hookK 5 exK fnK
def obR (s : PySem.W.SharedT) : AlK := obsKG 5 exK fnK (HandSHeadRun.getT s)
theorem obR_eq (s : PySem.W.SharedT) : obR s = hkR.obs s.abs := obsKG_eq (HandSHeadRun.getT_eq s)
theorem runR (w : World) : HandSHeadRun.RunEq RR (PySem.W.view RR.prog [50]) hkR obR 6000 nms w := by
  intro os
  kernel_rfl
end
set_option maxHeartbeats 4000000
open PySem PySem.Spec PyProof.Rows L2 Vl
abbrev s_is_integer : Stmt := top 9
abbrev s_in_bounds : Stmt := top 10
abbrev s_is_tuple : Stmt := top 11
abbrev s_is_rising : Stmt := top 12
abbrev s_frozen : Stmt := top 13
abbrev s_misplaced : Stmt := top 14
abbrev s_is_text : Stmt := top 15
abbrev s_are_words : Stmt := top 16
abbrev s_check_words : Stmt := top 17
abbrev s_check_calling : Stmt := top 18
theorem sc_is_integer : FnScope ["thing"] ["thing"] (defScope s_is_integer) := ⟨rfl, rfl, rfl, by decide +kernel, rfl, by decide +kernel, by decide +kernel⟩
theorem sc_in_bounds : FnScope ["thing", "least", "most"] ["thing", "least", "most"] (defScope s_in_bounds) := ⟨rfl, rfl, rfl, by decide +kernel, rfl, by decide +kernel, by decide +kernel⟩
theorem sc_is_tuple : FnScope ["thing", "least", "most"] ["thing", "least", "most"] (defScope s_is_tuple) := ⟨rfl, rfl, rfl, by decide +kernel, rfl, by decide +kernel, by decide +kernel⟩
theorem sc_is_rising : FnScope ["row", "at"] ["row"] (defScope s_is_rising) := ⟨rfl, rfl, rfl, by decide +kernel, rfl, by decide +kernel, by decide +kernel⟩
theorem sc_frozen : FnScope ["thing", "part"] ["thing"] (defScope s_frozen) := ⟨rfl, rfl, rfl, by decide +kernel, rfl, by decide +kernel, by decide +kernel⟩
theorem sc_misplaced : FnScope ["text", "letters", "least", "most", "at", "letter"] ["text", "letters", "least", "most"] (defScope s_misplaced) := ⟨rfl, rfl, rfl, by decide +kernel, rfl, by decide +kernel, by decide +kernel⟩
theorem sc_is_text : FnScope ["thing", "letters", "least", "most"] ["thing", "letters", "least", "most"] (defScope s_is_text) := ⟨rfl, rfl, rfl, by decide +kernel, rfl, by decide +kernel, by decide +kernel⟩
theorem sc_are_words : FnScope ["thing"] ["thing"] (defScope s_are_words) := ⟨rfl, rfl, rfl, by decide +kernel, rfl, by decide +kernel, by decide +kernel⟩
theorem sc_check_words : FnScope ["words"] ["words"] (defScope s_check_words) := ⟨rfl, rfl, rfl, by decide +kernel, rfl, by decide +kernel, by decide +kernel⟩
theorem sc_check_calling : FnScope ["words", "calling", "wrong"] ["words", "calling"] (defScope s_check_calling) := ⟨rfl, rfl, rfl, by decide +kernel, rfl, by decide +kernel, by decide +kernel⟩
variable {cls : Nat → Addr} {P : Program} {w : World} {K : PySem.W.Frag} {mg : Str → Option Value} {base : Heap}
local macro_rules | `(tactic| walk_at "vn") => `(tactic| first
  | refine we_val (i := 0) rfl rfl ?_ | refine we_val (i := 1) rfl rfl ?_ | refine we_val (i := 2) rfl rfl ?_ | refine we_val (i := 3) rfl rfl ?_ | refine we_val (i := 4) rfl rfl ?_
  | refine we_val (i := 5) rfl rfl ?_ | refine we_val (i := 6) rfl rfl ?_ | refine we_val (i := 7) rfl rfl ?_ | refine we_val (i := 8) rfl rfl ?_ | refine we_val (i := 9) rfl rfl ?_
  | refine we_val (i := 10) rfl rfl ?_ | refine we_val (i := 11) rfl rfl ?_ | refine we_val (i := 12) rfl rfl ?_ | refine we_val (i := 13) rfl rfl ?_ | refine we_val (i := 14) rfl rfl ?_)
/-- one step: operators -/
local macro_rules | `(tactic| walk_at "v") => `(tactic| first
  | (refine we_int ?_) | (refine we_str ?_) | (refine we_bl ?_) | (refine we_non ?_)
  | (refine we_isA (by assumption) (by decide) ?_) | (refine we_isA2 (by assumption) (by decide) (by decide) ?_)
  | (refine we_len (by assumption) ?_) | (refine we_all (by assumption) ?_) | (refine we_sum (by assumption) ?_) | (refine we_int1 (by assumption) ?_) | (refine we_abs (by assumption) ?_) | (refine we_tupleOf (by assumption) ?_)
  | (refine we_mul ?_) | (refine we_mod ?_) | (refine we_fdiv ?_) | (refine we_pow ?_) | (refine we_neg ?_) | (refine we_sub ?_)
  | (refine we_and ?_) | (refine we_or ?_) | (refine we_not ?_) | (refine we_one ?_)
  | (refine we_leLe ?_) | (refine wt_leLe ?_)
  | (refine wt_not ?_) | (refine we_tup ?_) | (refine we_lst ?_)
  | walk_at "vn")
section
set_option maxHeartbeats 4000000

def fs_is_integer : FS := fun ds rt _ => ∃ d, ds = [d] ∧ dat d = true ∧ rt (.bl (isA "int" d && !isA "bool" d))
theorem ok_is_integer {f : Addr} {fd : FuncData} (nb : NB mg) (F : Fun K "is_integer" "is_integer" s_is_integer f fd) : FnOk P w K mg base (L2N.CX P w) 1 f fd ["thing"] (spOf cls fs_is_integer) := by
  refine def_ok F sc_is_integer (fun ds rt ex h => ?_) (fun cdv A outer s H E W R ds rt ex hr h => ?_)
  · obtain ⟨d, rfl, _⟩ := h
    rfl
  · obtain ⟨d, rfl, hd, k⟩ := h
    refine wss_one (ws_ret ?_)
    repeat walk_at "v"
    refine ⟨hd, _, rfl, fun e => ?_, fun e => ?_⟩
    · repeat walk_at "v"
      refine ⟨hd, _, rfl, ?_⟩
      rw [e] at k
      exact k
    · rw [e] at k
      exact k
/-- an integer from least to most -/
def inB (d : D) (a b : Int) : Bool := match d with
  | .int i => decide (a ≤ i) && decide (i ≤ b)
  | _ => false
def fs_in_bounds : FS := fun ds rt _ => ∃ d a b, ds = [d, .int a, .int b] ∧ dat d = true ∧ rt (.bl (inB d a b))
theorem ok_in_bounds {f : Addr} {fd : FuncData} (nb : NB mg) (d1 : Df P w K mg base cls "is_integer" 1 ["thing"] fs_is_integer) (F : Fun K "in_bounds" "in_bounds" s_in_bounds f fd) : FnOk P w K mg base (L2N.CX P w) 2 f fd ["thing", "least", "most"] (spOf cls fs_in_bounds) := by
  refine def_ok F sc_in_bounds (fun ds rt ex h => ?_) (fun cdv A outer s H E W R ds rt ex hr h => ?_)
  · obtain ⟨d, a, b, rfl, _⟩ := h
    rfl
  · obtain ⟨d, a, b, rfl, hd, k⟩ := h
    refine wss_one (ws_ret ?_)
    refine we_and (we_call d1 hr ?_)
    repeat walk_at "v"
    refine ⟨d, rfl, hd, _, rfl, fun e => ?_, fun e => ?_⟩
    · cases d <;> simp [isA] at e
      rename_i i
      repeat walk_at "v"
      refine ⟨_, _, rfl, rfl, _, rfl, fun e1 => ?_, fun e1 => ?_⟩
      · repeat walk_at "v"
        refine ⟨_, _, rfl, rfl, ?_⟩
        have e1 : decide (a ≤ i) = true := e1
        simp only [inB, e1, Bool.true_and] at k
        exact k
      · have e1 : decide (a ≤ i) = false := e1
        simp only [inB, e1, Bool.false_and] at k
        exact k
    · cases d <;> first | exact k | (simp [isA] at e)
/-- a tuple with a to b items -/
def tupB (d : D) (a b : Int) : Bool := match d with
  | .tup xs => decide (a ≤ (xs.length : Int)) && decide ((xs.length : Int) ≤ b)
  | _ => false
def fs_is_tuple : FS := fun ds rt _ => ∃ d a b, ds = [d, .int a, .int b] ∧ dat d = true ∧ rt (.bl (tupB d a b))
theorem ok_is_tuple {f : Addr} {fd : FuncData} (nb : NB mg) (F : Fun K "is_tuple" "is_tuple" s_is_tuple f fd) : FnOk P w K mg base (L2N.CX P w) 1 f fd ["thing", "least", "most"] (spOf cls fs_is_tuple) := by
  refine def_ok F sc_is_tuple (fun ds rt ex h => ?_) (fun cdv A outer s H E W R ds rt ex hr h => ?_)
  · obtain ⟨d, a, b, rfl, _⟩ := h
    rfl
  · obtain ⟨d, a, b, rfl, hd, k⟩ := h
    refine wss_one (ws_ret ?_)
    repeat walk_at "v"
    refine ⟨hd, _, rfl, fun e => ?_, fun e => ?_⟩
    · cases d <;> simp [isA] at e
      rename_i xs
      repeat walk_at "v"
      refine ⟨_, rfl, _, _, rfl, rfl, _, rfl, fun e1 => ?_, fun e1 => ?_⟩
      · repeat walk_at "v"
        refine ⟨_, _, rfl, rfl, ?_⟩
        have e1 : decide (a ≤ (xs.length : Int)) = true := e1
        simp only [tupB, e1, Bool.true_and] at k
        exact k
      · have e1 : decide (a ≤ (xs.length : Int)) = false := e1
        simp only [tupB, e1, Bool.false_and] at k
        exact k
    · cases d <;> first | exact k | (simp [isA] at e)
end
section
set_option maxHeartbeats 4000000
open PySem PySem.Spec PyProof.Rows L2 Vl
variable {cls : Nat → Addr} {P : Program} {w : World} {K : PySem.W.Frag} {mg : Str → Option Value} {base : Heap}
/-! ### is_rising -/
def ltAt (l : List Nat) (i : Nat) : Bool := match l[i]?, l[i + 1]? with
  | some a, some b => decide ([a] < [b])
  | _, _ => false
def riseB (z : Str) : Bool := ((List.range (z.length - 1)).map (ltAt z.cps.toList)).all id
def fs_is_rising : FS := fun ds rt _ => ∃ z : Str, ds = [.str z] ∧ 1 ≤ z.length ∧ z.length ≤ 1000000 ∧ rt (.bl (riseB z))
theorem ok_is_rising {f : Addr} {fd : FuncData} (nb : NB mg) (F : Fun K "is_rising" "is_rising" s_is_rising f fd) : FnOk P w K mg base (L2N.CX P w) 1 f fd ["row"] (spOf cls fs_is_rising) := by
  refine def_ok F sc_is_rising (fun ds rt ex h => ?_) (fun cdv A outer s H E W R ds rt ex hr h => ?_)
  · obtain ⟨d, rfl, _⟩ := h
    rfl
  · obtain ⟨z, rfl, h1, h2, k⟩ := h
    have hz : z.length ≤ sizeLine := Nat.le_trans h2 (by rw [sizeLine_eq]; omega)
    have zl : z.cps.toList.length = z.length := rfl
    refine wss_one (ws_ret ?_)
    repeat walk_at "v"
    have hN := sc_is_rising.nd
    refine we_lc 1 hN (LC.map (wi_range1 (nb _ (by decide)) ?_))
    repeat walk_at "v"
    refine ⟨z.length, len_str h2, ?_⟩
    repeat walk_at "v"
    refine ⟨_, _, rfl, rfl, (z.length : Int) - 1, rfl, by omega, by omega, ?_⟩
    have tn : ((z.length : Int) - 1).toNat = z.length - 1 := by omega
    rw [tn]
    refine ⟨by rw [rangeD_length]; omega, fun i _ y => y = .bl (ltAt z.cps.toList i), fun i d hi => ?_, fun acc e1 e2 => ?_⟩
    · obtain ⟨hi, rfl⟩ := rangeD_get hi
      have a1 : z.cps.toList[i]? = some (z.cps.toList[i]'(by omega)) := List.getElem?_eq_getElem (by omega)
      have a2 : z.cps.toList[i + 1]? = some (z.cps.toList[i + 1]'(by omega)) := List.getElem?_eq_getElem (by omega)
      refine ⟨_, rfl, fun s0 H0 C cl fp => ?_⟩
      refine we_ltS ?_
      refine we_ix ?_
      repeat walk_at "v"
      refine ⟨_, _, rfl, by rw [Int.zero_add]; exact item_str h2 a1, ?_⟩
      refine we_ix ?_
      walk_at "v"
      refine we_add ?_
      repeat walk_at "v"
      refine ⟨_, _, rfl, rfl, _, _, rfl, by rw [Int.zero_add]; exact item_str h2 a2, ?_⟩
      refine ⟨_, _, rfl, rfl, ?_⟩
      simp only [ltAt, a1, a2]
    · have e := acc_range e1 e2
      exact ⟨(List.range (z.length - 1)).map (ltAt z.cps.toList), by rw [e, List.map_map]; rfl, k⟩
end
section
set_option maxHeartbeats 4000000
open PySem PySem.Spec PyProof.Rows L2 Vl
variable {cls : Nat → Addr} {P : Program} {w : World} {K : PySem.W.Frag} {mg : Str → Option Value} {base : Heap}
/-! ### frozen -/
def fs_frozen (n : Nat) : FS := fun ds rt _ => ∃ d, ds = [d] ∧ okD n d ∧ rt (tupled d)
theorem ok_frozen {f : Addr} {fd : FuncData} (nb : NB mg) (F : Fun K "frozen" "frozen" s_frozen f fd) (hm : mg "frozen" = some (.ref f)) (hb : Binds K fd ["thing"] []) : ∀ n, FnOk P w K mg base (L2N.CX P w) (n + 1) f fd ["thing"] (spOf cls (fs_frozen n)) := by
  intro n
  induction n with
  | zero =>
    refine def_ok F sc_frozen (fun ds rt ex h => ?_) (fun cdv A outer s H E W R ds rt ex hr h => ?_)
    · obtain ⟨d, rfl, _⟩ := h
      rfl
    · obtain ⟨d, rfl, hd, k⟩ := h
      have hd : atomD d = true := hd
      refine wss_cons (ws_if (wt_val ?_))
      repeat walk_at "v"
      refine ⟨okD_dat (n := 0) hd, _, rfl, fun e => ?_, fun e => ?_⟩
      · cases d <;> first | exact Bool.noConfusion hd | exact Bool.noConfusion e
      · refine wss_nil (wss_one (ws_ret ?_))
        repeat walk_at "v"
        rw [show tupled d = d from remk_atom hd] at k
        exact k
  | succ n ih =>
    refine def_ok F sc_frozen (fun ds rt ex h => ?_) (fun cdv A outer s H E W R ds rt ex hr h => ?_)
    · obtain ⟨d, rfl, _⟩ := h
      rfl
    · obtain ⟨d, rfl, hd, k⟩ := h
      have dn : Df P w K mg base cls "frozen" (n + 1) ["thing"] (fs_frozen n) := ⟨f, fd, ih, hm, F.kp, hb⟩
      have hN := sc_frozen.nd
      refine wss_cons (ws_if (wt_val ?_))
      repeat walk_at "v"
      refine ⟨okD_dat hd, _, rfl, fun e => ?_, fun e => ?_⟩
      · refine wss_one (ws_ret ?_)
        repeat walk_at "v"
        refine we_lc 1 hN (LC.map ?_)
        have key : ∀ xs : List D, (d = .lst xs ∨ d = .tup xs) → xs.length ≤ 1000000 ∧ ∀ x ∈ xs, okD n x := fun xs e => by
          rcases hd with hd | ⟨ys, hd, hl, hx⟩
          · rcases e with e | e <;> subst e <;> exact Bool.noConfusion hd
          · have : xs = ys := by rcases e with e | e <;> rcases hd with hd | hd <;> rw [e] at hd <;> cases hd <;> rfl
            subst this
            exact ⟨hl, hx⟩
        have elt : ∀ (xs : List D), (∀ x ∈ xs, okD n x) → ∀ (i : Nat) x, xs[i]? = some x → okD n x := fun xs h i x e => h x (List.mem_of_getElem? e)
        cases d <;> first | exact Bool.noConfusion e | skip
        · rename_i xs
          obtain ⟨hl, hx⟩ := key xs (.inl rfl)
          refine wi_list ?_
          repeat walk_at "v"
          refine ⟨xs, rfl, hl, fun i x y => y = tupled x, fun i x hi => ⟨_, rfl, fun s0 H0 C cl fp => ?_⟩, fun acc e1 e2 => ?_⟩
          · refine we_call dn hr ?_
            walk_at "v"
            exact ⟨x, rfl, elt xs hx i x hi, rfl⟩
          · rw [tupled_lst] at k
            exact ⟨_, .inl rfl, by rw [acc_map e1 e2]; exact k⟩
        · rename_i xs
          obtain ⟨hl, hx⟩ := key xs (.inr rfl)
          refine wi_tup ?_
          repeat walk_at "v"
          refine ⟨xs, rfl, hl, fun i x y => y = tupled x, fun i x hi => ⟨_, rfl, fun s0 H0 C cl fp => ?_⟩, fun acc e1 e2 => ?_⟩
          · refine we_call dn hr ?_
            walk_at "v"
            exact ⟨x, rfl, elt xs hx i x hi, rfl⟩
          · rw [tupled_tup] at k
            exact ⟨_, .inl rfl, by rw [acc_map e1 e2]; exact k⟩
      · have ha : atomD d = true := by
          rcases hd with hd | ⟨ys, hd | hd, _⟩
          · exact hd
          · subst hd; exact Bool.noConfusion e
          · subst hd; exact Bool.noConfusion e
        refine wss_nil (wss_one (ws_ret ?_))
        repeat walk_at "v"
        rw [show tupled d = d from remk_atom ha] at k
        exact k
end
section
set_option maxHeartbeats 4000000
open PySem PySem.Spec PyProof.Rows L2 Vl
variable {cls : Nat → Addr} {P : Program} {w : World} {K : PySem.W.Frag} {mg : Str → Option Value} {base : Heap}
/-! ### misplaced -/
def offAt (z L : Str) : Option Nat := z.cps.toList.findIdx? fun n => !decide (n ∈ L.cps.toList)
def mispD (d : D) (L : Str) (a b : Int) : D := match d with
  | .str z => if a ≤ (z.length : Int) ∧ (z.length : Int) ≤ b then (match offAt z L with | some i => .int (i : Nat) | none => .non) else .int (-1)
  | _ => .int (-1)
theorem mispD_str {z L : Str} {a b : Int} : mispD (.str z) L a b = if a ≤ (z.length : Int) ∧ (z.length : Int) ≤ b then (match offAt z L with | some i => .int (i : Nat) | none => .non) else .int (-1) := rfl
def txtOk (d : D) : Prop := dat d = true ∧ ∀ z, d = .str z → z.length ≤ 1000000
def fs_misplaced : FS := fun ds rt _ => ∃ d L a b, ds = [d, .str L, .int a, .int b] ∧ txtOk d ∧ rt (mispD d L a b)
theorem find_none {α : Type} {p : α → Bool} {l : List α} (h : ∀ (i : Nat) x, l[i]? = some x → p x = false) : l.findIdx? p = none := by
  rw [List.findIdx?_eq_none_iff]
  intro x hx
  obtain ⟨i, hi⟩ := List.getElem?_of_mem hx
  exact h i x hi
theorem find_some {α : Type} {p : α → Bool} {l : List α} {i : Nat} {x : α} (h1 : ∀ (j : Nat) y, j < i → l[j]? = some y → p y = false) (h2 : l[i]? = some x) (h3 : p x = true) : l.findIdx? p = some i := by
  rw [List.findIdx?_eq_some_iff_getElem]
  obtain ⟨hi, e⟩ := List.getElem?_eq_some_iff.mp h2
  refine ⟨hi, by rw [e]; exact h3, fun j hj => ?_⟩
  rw [h1 j _ hj (List.getElem?_eq_getElem (by omega))]
  decide
theorem ok_misplaced {f : Addr} {fd : FuncData} (nb : NB mg) (F : Fun K "misplaced" "misplaced" s_misplaced f fd) : FnOk P w K mg base (L2N.CX P w) 1 f fd ["text", "letters", "least", "most"] (spOf cls fs_misplaced) := by
  refine def_ok F sc_misplaced (fun ds rt ex h => ?_) (fun cdv A outer s H E W R ds rt ex hr h => ?_)
  · obtain ⟨d, L, a, b, rfl, _⟩ := h
    rfl
  · obtain ⟨d, L, a, b, rfl, ⟨hd, hz⟩, k⟩ := h
    have hN := sc_misplaced.nd
    refine wss_cons (ws_if (wt_wp (wp_or (wt_not (wt_val ?_)))))
    repeat walk_at "v"
    have bad : (∀ z : Str, d = .str z → ¬ (a ≤ (z.length : Int) ∧ (z.length : Int) ≤ b)) → rt (.int (-1)) := fun h => by
      cases d <;> first | exact k | skip
      rename_i z
      rw [mispD_str, if_neg (h z rfl)] at k
      exact k
    refine ⟨hd, _, rfl, fun e => ?_, fun e => ?_⟩
    · refine ⟨fun _ => wss_one (ws_ret ?_), fun z => Bool.noConfusion z⟩
      repeat walk_at "v"
      exact ⟨_, rfl, bad fun z e2 => by subst e2; exact Bool.noConfusion e⟩
    · cases d <;> first | exact Bool.noConfusion e | skip
      rename_i z
      have hl := hz z rfl
      refine wp_or1 (wt_not ?_)
      repeat walk_at "v"
      refine ⟨z.length, len_str hl, _, _, rfl, rfl, _, rfl, fun e1 => ?_, fun e1 => ?_⟩
      · repeat walk_at "v"
        refine ⟨_, _, rfl, rfl, _, rfl, fun e2 => ?_, fun e2 => ?_⟩
        · refine wss_one (ws_ret ?_)
          repeat walk_at "v"
          refine ⟨_, rfl, bad fun z' e3 hh => ?_⟩
          cases e3
          have : decide ((z.length : Int) ≤ b) = false := by simpa using e2
          exact absurd hh.2 (of_decide_eq_false this)
        · have c1 : a ≤ (z.length : Int) := of_decide_eq_true e1
          have c2 : (z.length : Int) ≤ b := by
            have : decide ((z.length : Int) ≤ b) = true := by simpa using e2
            exact of_decide_eq_true this
          rw [mispD_str, if_pos ⟨c1, c2⟩] at k
          refine wss_nil (wss_cons (ws_for rfl (wi_enumS (nb _ (by decide)) ?_)))
          repeat walk_at "v"
          refine ⟨z, rfl, fun i ρ' => (∀ (j : Nat) n, j < i → z.cps.toList[j]? = some n → n ∈ L.cps.toList) ∧ ∃ o1 o2, ρ' = [some (.val (.str z)), some (.val (.str L)), some (.val (.int a)), some (.val (.int b)), o1, o2], ⟨fun j n h => absurd h (Nat.not_lt_zero _), none, none, rfl⟩, fun i d ρ' hi hI => ?_, fun ρ' hI => ?_⟩
          · obtain ⟨x, hx, rfl⟩ := enum_get hi
            obtain ⟨n, hn, rfl⟩ := signs_get hx
            obtain ⟨hI, o1, o2, rfl⟩ := hI
            refine wg_tup rfl ⟨_, rfl, rfl, wg_name 4 hN rfl (wg_name 5 hN rfl ?_)⟩
            refine wss_one (ws_if (wt_notIn ?_))
            repeat walk_at "v"
            refine ⟨n, L, rfl, rfl, _, rfl, fun e3 => ?_, fun e3 => ?_⟩
            · refine wss_one (ws_ret ?_)
              repeat walk_at "v"
              have off : offAt z L = some i := find_some (fun j y hj hy => by simp [hI j y hj hy]) hn (by simpa using e3)
              rw [off] at k
              exact k
            · refine wss_nil ⟨fun j m hj hm => ?_, _, _, rfl⟩
              by_cases hji : j < i
              · exact hI j m hji hm
              · have : j = i := by omega
                subst this
                rw [hn] at hm
                cases hm
                simpa using e3
          · obtain ⟨hI, o1, o2, rfl⟩ := hI
            refine wss_one (ws_ret ?_)
            repeat walk_at "v"
            have off : offAt z L = none := find_none fun j y hy => by
              have hj : j < z.cps.toList.length := (List.getElem?_eq_some_iff.mp hy).1
              have := hI j y (by rw [enumD_length, signs_len]; exact hj) hy
              simp [this]
            rw [off] at k
            exact k
      · refine ⟨fun _ => wss_one (ws_ret ?_), fun z => Bool.noConfusion z⟩
        repeat walk_at "v"
        refine ⟨_, rfl, bad fun z' e3 hh => ?_⟩
        cases e3
        exact absurd hh.1 (of_decide_eq_false e1)
end
section
set_option maxHeartbeats 4000000
open PySem PySem.Spec PyProof.Rows L2 Vl
variable {cls : Nat → Addr} {P : Program} {w : World} {K : PySem.W.Frag} {mg : Str → Option Value} {base : Heap}
def fs_is_text : FS := fun ds rt _ => ∃ d L a b, ds = [d, .str L, .int a, .int b] ∧ txtOk d ∧ rt (.bl (isNon (mispD d L a b)))
theorem ok_is_text {f : Addr} {fd : FuncData} (d1 : Df P w K mg base cls "misplaced" 1 ["text", "letters", "least", "most"] fs_misplaced) (F : Fun K "is_text" "is_text" s_is_text f fd) : FnOk P w K mg base (L2N.CX P w) 2 f fd ["thing", "letters", "least", "most"] (spOf cls fs_is_text) := by
  refine def_ok F sc_is_text (fun ds rt ex h => ?_) (fun cdv A outer s H E W R ds rt ex hr h => ?_)
  · obtain ⟨d, L, a, b, rfl, _⟩ := h
    rfl
  · obtain ⟨d, L, a, b, rfl, hd, k⟩ := h
    refine wss_one (ws_ret (we_isN (we_call d1 hr ?_)))
    repeat walk_at "v"
    refine ⟨d, L, a, b, rfl, hd, ?_⟩
    repeat walk_at "v"
    exact ⟨rfl, k⟩
/-- words: 1 to 4 letters, rising -/
def wordsB (d : D) : Bool := match d with
  | .str z => decide (1 ≤ z.length ∧ z.length ≤ 4) && ((offAt z SMALL).isNone && riseB z)
  | _ => false
theorem misp_words {d : D} (h : isNon (mispD d SMALL 1 4) = true) : ∃ z : Str, d = .str z ∧ 1 ≤ z.length ∧ z.length ≤ 4 ∧ (offAt z SMALL).isNone = true := by
  cases d <;> first | exact Bool.noConfusion h | skip
  rename_i z
  rw [mispD_str] at h
  by_cases c : (1 : Int) ≤ z.length ∧ (z.length : Int) ≤ 4
  · rw [if_pos c] at h
    refine ⟨z, rfl, by omega, by omega, ?_⟩
    cases e : offAt z SMALL with
    | none => rfl
    | some i => rw [e] at h; exact Bool.noConfusion h
  · rw [if_neg c] at h
    exact Bool.noConfusion h
def fs_are_words : FS := fun ds rt _ => ∃ d, ds = [d] ∧ txtOk d ∧ rt (.bl (wordsB d))
theorem ok_are_words {f : Addr} {fd : FuncData} {t : Tok} (hS : mg "SMALL" = some (.str SMALL t)) (d1 : Df P w K mg base cls "is_text" 2 ["thing", "letters", "least", "most"] fs_is_text) (d2 : Df P w K mg base cls "is_rising" 1 ["row"] fs_is_rising) (F : Fun K "are_words" "are_words" s_are_words f fd) :
    FnOk P w K mg base (L2N.CX P w) 3 f fd ["thing"] (spOf cls fs_are_words) := by
  refine def_ok F sc_are_words (fun ds rt ex h => ?_) (fun cdv A outer s H E W R ds rt ex hr h => ?_)
  · obtain ⟨d, rfl, _⟩ := h
    rfl
  · obtain ⟨d, rfl, hd, k⟩ := h
    refine wss_one (ws_ret (we_and (we_call d1 hr ?_)))
    walk_at "v"
    refine we_gstr hS ?_
    repeat walk_at "v"
    refine ⟨d, _, _, _, rfl, hd, _, rfl, fun e => ?_, fun e => ?_⟩
    · obtain ⟨z, rfl, h1, h2, h3⟩ := misp_words e
      refine we_one (we_call d2 (hr.mono (by decide)) ?_)
      repeat walk_at "v"
      refine ⟨z, rfl, h1, by omega, ?_⟩
      unfold wordsB at k
      simp only [h1, h2, h3, and_self, decide_true, Bool.true_and] at k
      exact k
    · have wb : wordsB d = false := by
        cases d <;> first | rfl | skip
        rename_i z
        rw [mispD_str] at e
        unfold wordsB
        by_cases c : (1 : Int) ≤ z.length ∧ (z.length : Int) ≤ 4
        · rw [if_pos c] at e
          cases eo : offAt z SMALL with
          | none => rw [eo] at e; exact Bool.noConfusion e
          | some i => simp [eo]
        · have : ¬ (1 ≤ z.length ∧ z.length ≤ 4) := by omega
          simp [this]
      rw [wb] at k
      exact k
def fs_check_words : FS := fun ds rt ex => ∃ d, ds = [d] ∧ txtOk d ∧ (wordsB d = true → rt .non) ∧ (wordsB d = false → ex ⟨2, [("words", d)]⟩)
theorem ok_check_words {f : Addr} {fd : FuncData} (d1 : Df P w K mg base cls "are_words" 3 ["thing"] fs_are_words) (x1 : Er P w K mg base cls "BadWords" 2 ["words"]) (F : Fun K "check_words" "check_words" s_check_words f fd) :
    FnOk P w K mg base (L2N.CX P w) 4 f fd ["words"] (spOf cls fs_check_words) := by
  refine def_ok F sc_check_words (fun ds rt ex h => ?_) (fun cdv A outer s H E W R ds rt ex hr h => ?_)
  · obtain ⟨d, rfl, _⟩ := h
    rfl
  · obtain ⟨d, rfl, hd, k1, k2⟩ := h
    refine wss_one (ws_if (wt_not (wt_val (we_call d1 hr ?_))))
    repeat walk_at "v"
    refine ⟨d, rfl, hd, _, rfl, fun e => ?_, fun e => ?_⟩
    · refine wss_one (ws_raise (we_mkx x1 (hr.mono (by decide)) ?_))
      repeat walk_at "v"
      exact k2 (by simpa using e)
    · exact wss_nil (k1 (by simpa using e))
/-- what a calling's judge tells -/
def fs_check_calling : FS := fun ds rt ex => ∃ z d, ds = [.str z, d] ∧ z.length ≤ 1000 ∧ txtOk d ∧ (mispD d (("." : Str) ++ z) 0 400 = .non → rt .non) ∧ (∀ y, mispD d (("." : Str) ++ z) 0 400 = y → isNon y = false → ex ⟨4, [("number", y)]⟩)
theorem ok_check_calling {f : Addr} {fd : FuncData} {t : Tok} (hS : mg "MOST_BEATS" = some (.int 400 t)) (d1 : Df P w K mg base cls "misplaced" 1 ["text", "letters", "least", "most"] fs_misplaced) (x1 : Er P w K mg base cls "BadCalling" 4 ["number"]) (F : Fun K "check_calling" "check_calling" s_check_calling f fd) :
    FnOk P w K mg base (L2N.CX P w) 3 f fd ["words", "calling"] (spOf cls fs_check_calling) := by
  refine def_ok F sc_check_calling (fun ds rt ex h => ?_) (fun cdv A outer s H E W R ds rt ex hr h => ?_)
  · obtain ⟨z, d, rfl, _⟩ := h
    rfl
  · obtain ⟨z, d, rfl, hz, hd, k1, k2⟩ := h
    have hN := sc_check_calling.nd
    refine wss_cons (ws_set 2 hN rfl (we_call d1 (hr.mono (by decide)) ?_))
    walk_at "v"
    refine we_addS ?_
    repeat walk_at "v"
    refine ⟨_, _, rfl, rfl, ?_, ?_⟩
    · have : ("." : Str).length = 1 := rfl
      rw [this, sizeLine_eq]
      omega
    repeat walk_at "v"
    refine we_gint hS ?_
    refine ⟨d, _, _, _, rfl, hd, ?_⟩
    refine wss_one (ws_if (wt_notN ?_))
    repeat walk_at "v"
    refine ⟨rfl, _, rfl, fun e => ?_, fun e => ?_⟩
    · refine wss_one (ws_raise (we_mkx x1 (hr.mono (by decide)) ?_))
      repeat walk_at "v"
      exact k2 _ rfl (by simpa using e)
    · refine wss_nil (k1 ?_)
      cases em : mispD d (("." : Str) ++ z) 0 400 <;> first | rfl | (rw [em] at e; exact Bool.noConfusion e)
end
section
set_option maxHeartbeats 4000000
open PySem PySem.Spec PyProof.Rows L2 Vl
variable {cls : Nat → Addr} {P : Program} {w : World} {K : PySem.W.Frag} {mg : Str → Option Value} {base : Heap}
abbrev s_is_standing : Stmt := top 21
abbrev s_is_rest : Stmt := top 22
abbrev s_wrong_standing : Stmt := top 23
abbrev s_led : Stmt := top 24
theorem sc_is_standing : FnScope ["row", "signs", "many", "stride", "body", "nexts", "onto"] ["row", "signs", "many"] (defScope s_is_standing) := ⟨rfl, rfl, rfl, by decide +kernel, rfl, by decide +kernel, by decide +kernel⟩
theorem sc_is_rest : FnScope ["row"] ["row"] (defScope s_is_rest) := ⟨rfl, rfl, rfl, by decide +kernel, rfl, by decide +kernel, by decide +kernel⟩
theorem sc_wrong_standing : FnScope ["words", "rows", "at", "row"] ["words", "rows"] (defScope s_wrong_standing) := ⟨rfl, rfl, rfl, by decide +kernel, rfl, by decide +kernel, by decide +kernel⟩
theorem sc_led : FnScope ["words", "standings", "standing", "signs", "places", "found", "now", "sign"] ["words", "standings", "standing", "signs"] (defScope s_led) := ⟨rfl, rfl, rfl, by decide +kernel, rfl, by decide +kernel, by decide +kernel⟩
/-! ### rows -/
abbrev Row := Int × Int × List Int
def rowT (r : Row) : D := .tup [.int r.1, .int r.2.1, .tup (r.2.2.map D.int)]
def rowL (r : Row) : D := .lst [.int r.1, .int r.2.1, .lst (r.2.2.map D.int)]
def rowOk (s m : Nat) (r : Row) : Prop := (-3 ≤ r.1 ∧ r.1 ≤ 3) ∧ (1 ≤ r.2.1 ∧ r.2.1 ≤ 12) ∧ r.2.2.length = s ∧ ∀ x ∈ r.2.2, 0 ≤ x ∧ x < m
def nextsB (c : D) (s m : Int) : Bool := match c with
  | .tup xs => (decide (s ≤ (xs.length : Int)) && decide ((xs.length : Int) ≤ s)) && (xs.map fun x => inB x 0 (m - 1)).all id
  | _ => false
def standB (d : D) (s m : Int) : Bool := match d with
  | .tup [a, b, c] => (inB a (-3) 3 && inB b 1 12) && nextsB c s m
  | _ => false
theorem inB_int {d : D} {a b : Int} (h : inB d a b = true) : ∃ i, d = .int i ∧ a ≤ i ∧ i ≤ b := by
  cases d <;> first | exact Bool.noConfusion h | skip
  rename_i i
  have h : (decide (a ≤ i) && decide (i ≤ b)) = true := h
  simp at h
  exact ⟨i, rfl, h.1, h.2⟩
theorem ints_of {xs : List D} {a b : Int} (h : ∀ x ∈ xs, inB x a b = true) : ∃ ns : List Int, xs = ns.map D.int ∧ ∀ n ∈ ns, a ≤ n ∧ n ≤ b := by
  induction xs with
  | nil => exact ⟨[], rfl, fun n h => by simp at h⟩
  | cons x xs ih =>
    obtain ⟨ns, e, hn⟩ := ih fun y hy => h y (List.mem_cons_of_mem _ hy)
    obtain ⟨i, ei, h1, h2⟩ := inB_int (h x List.mem_cons_self)
    refine ⟨i :: ns, by rw [e, ei]; rfl, fun n hm => ?_⟩
    rcases List.mem_cons.mp hm with z | z
    · rw [z]; exact ⟨h1, h2⟩
    · exact hn n z
theorem standB_row {d : D} {s m : Nat} (h : standB d (s : Int) (m : Int) = true) : ∃ r, d = rowT r ∧ rowOk s m r := by
  unfold standB at h
  split at h
  · rename_i a b c
    simp only [Bool.and_eq_true] at h
    obtain ⟨⟨h1, h2⟩, h3⟩ := h
    obtain ⟨i, rfl, i1, i2⟩ := inB_int h1
    obtain ⟨j, rfl, j1, j2⟩ := inB_int h2
    unfold nextsB at h3
    split at h3
    · rename_i xs
      simp only [Bool.and_eq_true, decide_eq_true_eq, List.all_map, List.all_eq_true, Function.comp] at h3
      obtain ⟨⟨l1, l2⟩, hx⟩ := h3
      obtain ⟨ns, rfl, hn⟩ := ints_of fun x hx' => hx x hx'
      refine ⟨(i, j, ns), rfl, ⟨i1, i2⟩, ⟨j1, j2⟩, ?_, fun n hm => ?_⟩
      · rw [List.length_map] at l1 l2
        show ns.length = s
        omega
      · have := hn n hm
        omega
    · exact Bool.noConfusion h3
  · exact Bool.noConfusion h
theorem inB_of {i a b : Int} (h1 : a ≤ i) (h2 : i ≤ b) : inB (.int i) a b = true := by
  show (decide (a ≤ i) && decide (i ≤ b)) = true
  simp [h1, h2]
theorem standB_of {s m : Nat} {r : Row} (h : rowOk s m r) : standB (rowT r) (s : Int) (m : Int) = true := by
  obtain ⟨h1, h2, h3, h4⟩ := h
  show ((inB (.int r.1) (-3) 3 && inB (.int r.2.1) 1 12) && nextsB (.tup (r.2.2.map D.int)) s m) = true
  rw [inB_of h1.1 h1.2, inB_of h2.1 h2.2]
  unfold nextsB
  simp only [List.length_map, h3, Bool.true_and, Int.le_refl, decide_true, List.all_map, List.all_eq_true, Function.comp]
  intro x hx
  have := h4 x hx
  exact inB_of this.1 (by omega)
/-! ### is_standing -/
def fs_is_standing : FS := fun ds rt _ => ∃ d s m, ds = [d, .int s, .int m] ∧ okX d ∧ rt (.bl (standB d s m))
theorem ok_is_standing {f : Addr} {fd : FuncData} (nb : NB mg) (d1 : Df P w K mg base cls "is_tuple" 1 ["thing", "least", "most"] fs_is_tuple) (d2 : Df P w K mg base cls "in_bounds" 2 ["thing", "least", "most"] fs_in_bounds) (F : Fun K "is_standing" "is_standing" s_is_standing f fd) :
    FnOk P w K mg base (L2N.CX P w) 3 f fd ["row", "signs", "many"] (spOf cls fs_is_standing) := by
  refine def_ok F sc_is_standing (fun ds rt ex h => ?_) (fun cdv A outer s H E W R ds rt ex hr h => ?_)
  · obtain ⟨d, _, _, rfl, _⟩ := h
    rfl
  · obtain ⟨d, s', m, rfl, hd, k⟩ := h
    have hN := sc_is_standing.nd
    refine wss_cons (ws_if (wt_not (wt_val (we_call d1 (hr.mono (by decide)) ?_))))
    repeat walk_at "v"
    refine ⟨d, _, _, rfl, okX_dat hd, _, rfl, fun e => ?_, fun e => ?_⟩
    · refine wss_one (ws_ret ?_)
      repeat walk_at "v"
      have : standB d s' m = false := by
        unfold standB
        split
        · exact Bool.noConfusion (show (!tupB (.tup [_, _, _]) 3 3) = true from e)
        · rfl
      rw [this] at k
      exact k
    · have : ∃ a b c, d = .tup [a, b, c] := by
        cases d <;> first | exact Bool.noConfusion e | skip
        rename_i xs
        have e : (decide ((3 : Int) ≤ (xs.length : Int)) && decide ((xs.length : Int) ≤ 3)) = true := by simpa [tupB] using e
        simp at e
        match xs, e with
        | [a, b, c], _ => exact ⟨a, b, c, rfl⟩
        | [], e => simp at e
        | [_], e => simp at e
        | [_, _], e => simp at e
        | _ :: _ :: _ :: _ :: _, e => simp at e; omega
      obtain ⟨a, b, cc, rfl⟩ := this
      obtain ⟨hlen, hx⟩ := okX_seq (.inr rfl) hd
      have oa := hx a (by simp)
      have ob := hx b (by simp)
      have oc := hx cc (by simp)
      refine wss_nil (wss_cons (ws_asg ?_))
      repeat walk_at "v"
      refine wg_tup rfl ⟨_, rfl, rfl, wg_name 3 hN rfl (wg_name 4 hN rfl (wg_name 5 hN rfl ?_))⟩
      have sb : standB (.tup [a, b, cc]) s' m = ((inB a (-3) 3 && inB b 1 12) && nextsB cc s' m) := rfl
      rw [sb] at k
      refine wss_cons (ws_if (wt_wp (wp_or (wt_not (wt_val (we_call d2 (hr.mono (by decide)) ?_))))))
      repeat walk_at "v"
      refine ⟨_, rfl, ?_⟩
      repeat walk_at "v"
      refine ⟨a, _, _, rfl, okX_dat oa, _, rfl, fun e1 => ?_, fun e1 => ?_⟩
      · refine ⟨fun _ => wss_one (ws_ret ?_), fun z => Bool.noConfusion z⟩
        repeat walk_at "v"
        have e1 : inB a (-3) 3 = false := by simpa using e1
        rw [e1] at k
        exact k
      · have e1 : inB a (-3) 3 = true := by simpa using e1
        rw [e1] at k
        refine wp_or1 (wt_not (wt_val (we_call d2 (hr.mono (by decide)) ?_)))
        repeat walk_at "v"
        refine ⟨b, _, _, rfl, okX_dat ob, _, rfl, fun e2 => ?_, fun e2 => ?_⟩
        · refine wss_one (ws_ret ?_)
          repeat walk_at "v"
          have e2 : inB b 1 12 = false := by simpa using e2
          rw [e2] at k
          exact k
        · have e2 : inB b 1 12 = true := by simpa using e2
          rw [e2] at k
          refine wss_nil (wss_one (ws_ret (we_and (we_call d1 (hr.mono (by decide)) ?_))))
          repeat walk_at "v"
          refine ⟨cc, _, _, rfl, okX_dat oc, _, rfl, fun e3 => ?_, fun e3 => ?_⟩
          · cases cc <;> first | exact Bool.noConfusion e3 | skip
            rename_i xs
            obtain ⟨hl, hxs⟩ := okX_seq (.inr rfl) oc
            have e3 : (decide (s' ≤ (xs.length : Int)) && decide ((xs.length : Int) ≤ s')) = true := e3
            refine we_one (we_all nb (we_lc 6 hN (LC.map (wi_tup ?_))))
            repeat walk_at "v"
            refine ⟨xs, rfl, hl, fun i x y => y = .bl (inB x 0 (m - 1)), fun i x hi => ⟨_, rfl, fun s0 H0 C cl fp => ?_⟩, fun acc q1 q2 => ?_⟩
            · refine we_call d2 (hr.mono (by decide)) ?_
              repeat walk_at "v"
              exact ⟨_, _, rfl, rfl, x, _, _, rfl, okX_dat (hxs x (List.mem_of_getElem? hi)), rfl⟩
            · refine ⟨xs.map fun x => inB x 0 (m - 1), by rw [acc_map q1 q2, List.map_map]; rfl, ?_⟩
              unfold nextsB at k
              simp only [e3, Bool.true_and] at k
              exact k
          · have : nextsB cc s' m = false := by
              unfold nextsB
              split
              · rename_i xs
                have e3 : (decide (s' ≤ (xs.length : Int)) && decide ((xs.length : Int) ≤ s')) = false := e3
                rw [e3]
                rfl
              · rfl
            rw [this] at k
            exact k
end
section
set_option maxHeartbeats 4000000
open PySem PySem.Spec PyProof.Rows L2 Vl
variable {cls : Nat → Addr} {P : Program} {w : World} {K : PySem.W.Frag} {mg : Str → Option Value} {base : Heap}
/-! ### is_rest -/
def restR (r : Row) : Bool := decide (r.1 = 0) && decide (r.2.2[0]? = some 0)
def fs_is_rest : FS := fun ds rt _ => ∃ r : Row, ds = [rowT r] ∧ 1 ≤ r.2.2.length ∧ rt (.bl (restR r))
theorem eq_int {i j : Int} {P : D → Prop} (h : P (.bl (decide (i = j)))) : FEq (.int i) (.int j) P := ⟨.int i, .int j, rfl, rfl, rfl, by
  have e : (decide (V.int i = V.int j)) = decide (i = j) := by
    by_cases c : i = j
    · subst c; simp
    · rw [decide_eq_false c, decide_eq_false]
      intro z
      cases z
      exact c rfl
  rw [e]
  exact h⟩
theorem ok_is_rest {f : Addr} {fd : FuncData} (F : Fun K "is_rest" "is_rest" s_is_rest f fd) : FnOk P w K mg base (L2N.CX P w) 1 f fd ["row"] (spOf cls fs_is_rest) := by
  refine def_ok F sc_is_rest (fun ds rt ex h => ?_) (fun cdv A outer s H E W R ds rt ex hr h => ?_)
  · obtain ⟨r, rfl, _⟩ := h
    rfl
  · obtain ⟨⟨a, b, ns⟩, rfl, hl, k⟩ := h
    match ns, hl with
    | n :: ns, _ =>
      refine wss_one (ws_ret (we_and (we_eq (we_ix ?_))))
      repeat walk_at "v"
      refine ⟨_, _, rfl, item_tup (i := 0) rfl, ?_⟩
      repeat walk_at "v"
      refine eq_int ⟨_, rfl, fun e => ?_, fun e => ?_⟩
      · refine we_one (we_eq (we_ix (we_ix ?_)))
        repeat walk_at "v"
        refine ⟨_, _, rfl, item_tup (i := 2) rfl, ?_⟩
        repeat walk_at "v"
        refine ⟨_, _, rfl, item_tup (i := 0) rfl, ?_⟩
        repeat walk_at "v"
        refine eq_int ?_
        have : restR (a, b, n :: ns) = decide (n = 0) := by
          unfold restR
          simp only [e, Bool.true_and, List.getElem?_cons_zero, Option.some.injEq]
        rw [this] at k
        exact k
      · have : restR (a, b, n :: ns) = false := by
          unfold restR
          simp only [e, Bool.false_and]
        rw [this] at k
        exact k
/-! ### wrong_standing -/
/-- is the row wrong at its place? s signs, m rows -/
def badAt (s m : Nat) (i : Nat) (d : D) : Bool := !standB d s m || (i == 0 && (match d with
  | .tup [.int a, _, .tup (.int n :: _)] => !(decide (a = 0) && decide (n = 0))
  | _ => true))
def wrongD (s : Nat) (d : D) : D := match d with
  | .tup xs => if 1 ≤ xs.length ∧ xs.length ≤ 6 then (match xs.zipIdx.findIdx? (fun p => badAt s xs.length p.2 p.1) with | some i => .int (i : Nat) | none => .non) else .int (-1)
  | _ => .int (-1)
theorem wrongD_tup {s : Nat} {xs : List D} : wrongD s (.tup xs) = if 1 ≤ xs.length ∧ xs.length ≤ 6 then (match xs.zipIdx.findIdx? (fun p => badAt s xs.length p.2 p.1) with | some i => .int (i : Nat) | none => .non) else .int (-1) := rfl
def fs_wrong : FS := fun ds rt _ => ∃ z d, ds = [.str z, d] ∧ z.length ≤ 1000 ∧ okX d ∧ rt (wrongD (z.length + 1) d)
theorem zip_at {xs : List D} {i : Nat} {p : D × Nat} (h : xs.zipIdx[i]? = some p) : xs[i]? = some p.1 ∧ p.2 = i := by
  rw [List.getElem?_zipIdx] at h
  cases e : xs[i]? with
  | none => rw [e] at h; cases h
  | some x =>
    rw [e] at h
    cases h
    exact ⟨rfl, by simp⟩
theorem ok_wrong {f : Addr} {fd : FuncData} {t : Tok} (nb : NB mg) (hS : mg "MOST_STANDINGS" = some (.int 6 t)) (d1 : Df P w K mg base cls "is_tuple" 1 ["thing", "least", "most"] fs_is_tuple) (d2 : Df P w K mg base cls "is_standing" 3 ["row", "signs", "many"] fs_is_standing)
    (d3 : Df P w K mg base cls "is_rest" 1 ["row"] fs_is_rest) (F : Fun K "wrong_standing" "wrong_standing" s_wrong_standing f fd) : FnOk P w K mg base (L2N.CX P w) 4 f fd ["words", "rows"] (spOf cls fs_wrong) := by
  refine def_ok F sc_wrong_standing (fun ds rt ex h => ?_) (fun cdv A outer s H E W R ds rt ex hr h => ?_)
  · obtain ⟨z, d, rfl, _⟩ := h
    rfl
  · obtain ⟨z, d, rfl, hz, hd, k⟩ := h
    have hN := sc_wrong_standing.nd
    refine wss_cons (ws_if (wt_not (wt_val (we_call d1 (hr.mono (by decide)) ?_))))
    repeat walk_at "v"
    refine we_gint hS ?_
    refine ⟨d, _, _, rfl, okX_dat hd, _, rfl, fun e => ?_, fun e => ?_⟩
    · refine wss_one (ws_ret ?_)
      repeat walk_at "v"
      refine ⟨_, rfl, ?_⟩
      have : wrongD (z.length + 1) d = .int (-1) := by
        cases d <;> first | rfl | skip
        rename_i xs
        have e : (!(decide ((1 : Int) ≤ (xs.length : Int)) && decide ((xs.length : Int) ≤ 6))) = true := e
        rw [wrongD_tup, if_neg]
        intro hc
        simp at e
        omega
      rw [this] at k
      exact k
    · cases d <;> first | exact Bool.noConfusion e | skip
      rename_i xs
      have e : (!(decide ((1 : Int) ≤ (xs.length : Int)) && decide ((xs.length : Int) ≤ 6))) = false := e
      simp at e
      obtain ⟨l1, l2⟩ : 1 ≤ xs.length ∧ xs.length ≤ 6 := ⟨by omega, by omega⟩
      rw [wrongD_tup, if_pos ⟨l1, l2⟩] at k
      obtain ⟨_, hx⟩ := okX_seq (.inr rfl) hd
      refine wss_nil (wss_cons (ws_for rfl (wi_enumT (nb _ (by decide)) ?_)))
      repeat walk_at "v"
      refine ⟨xs, rfl, fun i ρ' => (∀ (j : Nat) x, j < i → xs[j]? = some x → badAt (z.length + 1) xs.length j x = false) ∧ ∃ o1 o2, ρ' = [some (.val (.str z)), some (.val (.tup xs)), o1, o2], ⟨fun j n h => absurd h (Nat.not_lt_zero _), none, none, rfl⟩, fun i d ρ' hi hI => ?_, fun ρ' hI => ?_⟩
      · obtain ⟨x, hxi, rfl⟩ := enum_get hi
        obtain ⟨hI, o1, o2, rfl⟩ := hI
        have ok := hx x (List.mem_of_getElem? hxi)
        have bad : badAt (z.length + 1) xs.length i x = true → rt (.int (i : Nat)) := fun b => by
          have fi : xs.zipIdx.findIdx? (fun p => badAt (z.length + 1) xs.length p.2 p.1) = some i := find_some (x := (x, i)) (fun j p hj hp => by
            obtain ⟨h1, h2⟩ := zip_at hp
            rw [h2]
            exact hI j _ hj h1) (by rw [List.getElem?_zipIdx, hxi]; simp) b
          rw [fi] at k
          exact k
        have good : badAt (z.length + 1) xs.length i x = false → ∀ (j : Nat) y, j < i + 1 → xs[j]? = some y → badAt (z.length + 1) xs.length j y = false := fun b j y hj hy => by
          by_cases hji : j < i
          · exact hI j y hji hy
          · have : j = i := by omega
            subst this
            rw [hxi] at hy
            cases hy
            exact b
        refine wg_tup rfl ⟨_, rfl, rfl, wg_name 2 hN rfl (wg_name 3 hN rfl ?_)⟩
        refine wss_one (ws_if (wt_wp (wp_or (wt_not (wt_val (we_call d2 (hr.mono (by decide)) ?_))))))
        walk_at "v"
        refine we_add ?_
        repeat walk_at "v"
        refine ⟨z.length, len_str (by omega), ?_⟩
        repeat walk_at "v"
        refine ⟨_, _, rfl, rfl, ?_⟩
        repeat walk_at "v"
        refine ⟨xs.length, rfl, x, _, _, rfl, ok, _, rfl, fun e1 => ?_, fun e1 => ?_⟩
        · refine ⟨fun _ => wss_one (ws_ret ?_), fun z => Bool.noConfusion z⟩
          repeat walk_at "v"
          refine bad ?_
          unfold badAt
          have e1 : standB x ((z.length + 1 : Nat) : Int) (xs.length : Int) = false := by
            have : ((z.length : Int) + 1) = ((z.length + 1 : Nat) : Int) := by omega
            rw [← this]
            simpa using e1
          rw [e1]
          rfl
        · have e1 : standB x ((z.length + 1 : Nat) : Int) (xs.length : Int) = true := by
            have : ((z.length : Int) + 1) = ((z.length + 1 : Nat) : Int) := by omega
            rw [← this]
            simpa using e1
          obtain ⟨⟨a, b, ns⟩, rfl, ro⟩ := standB_row e1
          have nl : ns.length = z.length + 1 := ro.2.2.1
          refine wp_or1 (wt_wp (wp_and (wt_eq ?_)))
          repeat walk_at "v"
          refine eq_int ⟨_, rfl, fun e2 => ?_, fun e2 => ?_⟩
          · have i0 : i = 0 := by
              have := of_decide_eq_true e2
              omega
            refine wp_and1 (wt_not (wt_val (we_call d3 (hr.mono (by decide)) ?_)))
            repeat walk_at "v"
            have bd : badAt (z.length + 1) xs.length i (rowT (a, b, ns)) = !restR (a, b, ns) := by
              unfold badAt
              rw [e1, i0]
              match ns, nl with
              | n :: ns, _ => simp [rowT, restR]
            refine ⟨(a, b, ns), rfl, by show 1 ≤ ns.length; omega, _, rfl, fun e3 => ?_, fun e3 => ?_⟩
            · refine wss_one (ws_ret ?_)
              repeat walk_at "v"
              exact bad (by rw [bd]; exact e3)
            · exact wss_nil ⟨good (by rw [bd]; exact e3), _, _, rfl⟩
          · refine ⟨fun z => Bool.noConfusion z, fun _ => wss_nil ⟨good ?_, _, _, rfl⟩⟩
            have i0 : (i == 0) = false := by
              have := of_decide_eq_false e2
              simp
              omega
            unfold badAt
            rw [e1, i0]
            rfl
      · obtain ⟨hI, o1, o2, rfl⟩ := hI
        refine wss_one (ws_ret ?_)
        repeat walk_at "v"
        have fi : xs.zipIdx.findIdx? (fun p => badAt (z.length + 1) xs.length p.2 p.1) = none := find_none fun j p hp => by
          obtain ⟨h1, h2⟩ := zip_at hp
          rw [h2]
          refine hI j _ ?_ h1
          rw [enumD_length]
          exact (List.getElem?_eq_some_iff.mp h1).1
        rw [fi] at k
        exact k
end
section
set_option maxHeartbeats 4000000
open PySem PySem.Spec PyProof.Rows L2 Vl
variable {cls : Nat → Addr} {P : Program} {w : World} {K : PySem.W.Frag} {mg : Str → Option Value} {base : Heap}
/-! ### led -/
abbrev dot (z : Str) : Str := ("." : Str) ++ z
theorem dot_len {z : Str} : (dot z).length = z.length + 1 := by
  show (("." : Str) ++ z).length = _
  rw [PySem.Str.length_append]
  have : ("." : Str).length = 1 := rfl
  omega
def goodRows (z : Str) (rows : List Row) : Prop := ∀ r ∈ rows, rowOk (z.length + 1) rows.length r
def nextOf (z : Str) (rows : List Row) (now n : Nat) : Nat := (((rows[now]?).bind fun r => r.2.2[(dot z).cps.toList.idxOf n]?).getD 0).toNat
def goTo (z : Str) (rows : List Row) (now : Nat) (l : List Nat) : Nat := l.foldl (nextOf z rows) now
def ledL (z : Str) (rows : List Row) : Nat → List Nat → List Nat
  | _, [] => []
  | now, n :: l => nextOf z rows now n :: ledL z rows (nextOf z rows now n) l
theorem ledL_snoc (z : Str) (rows : List Row) : ∀ (l : List Nat) (now n : Nat), ledL z rows now (l ++ [n]) = ledL z rows now l ++ [nextOf z rows (goTo z rows now l) n]
  | [], now, n => rfl
  | a :: l, now, n => by
    show nextOf z rows now a :: ledL z rows (nextOf z rows now a) (l ++ [n]) = _
    rw [ledL_snoc z rows l]
    rfl
theorem ledL_len (z : Str) (rows : List Row) : ∀ (l : List Nat) (now : Nat), (ledL z rows now l).length = l.length
  | [], _ => rfl
  | a :: l, now => by
    show (ledL z rows (nextOf z rows now a) l).length + 1 = _
    rw [ledL_len z rows l]
    rfl
theorem goTo_snoc (z : Str) (rows : List Row) (l : List Nat) (now n : Nat) : goTo z rows now (l ++ [n]) = nextOf z rows (goTo z rows now l) n := by
  unfold goTo
  rw [List.foldl_append]
  rfl
/-- a step of a good drill -/
theorem step_ok {z : Str} {rows : List Row} {now n : Nat} (g : goodRows z rows) (hn : now < rows.length) (hs : n ∈ (dot z).cps.toList) :
    nextOf z rows now n < rows.length ∧ ∃ r, rows[now]? = some r ∧ r.2.2[(dot z).cps.toList.idxOf n]? = some ((nextOf z rows now n : Nat) : Int) := by
  have e := List.getElem?_eq_getElem hn
  obtain ⟨_, _, l, b⟩ := g _ (List.getElem_mem hn)
  have hi : (dot z).cps.toList.idxOf n < rows[now].2.2.length := by
    have h1 := List.idxOf_lt_length_of_mem hs
    have h2 : (dot z).cps.toList.length = (dot z).length := rfl
    rw [h2, dot_len] at h1
    rw [l]
    exact h1
  have e2 := List.getElem?_eq_getElem hi
  obtain ⟨b1, b2⟩ := b _ (List.getElem_mem hi)
  have nx : nextOf z rows now n = (rows[now].2.2[(dot z).cps.toList.idxOf n]).toNat := by
    unfold nextOf
    rw [e]
    show ((rows[now].2.2[(dot z).cps.toList.idxOf n]?).getD 0).toNat = _
    rw [e2]
    rfl
  refine ⟨by rw [nx]; omega, _, e, ?_⟩
  rw [e2, nx]
  congr 1
  omega
theorem goTo_lt {z : Str} {rows : List Row} (g : goodRows z rows) : ∀ (l : List Nat) (now : Nat), now < rows.length → (∀ n ∈ l, n ∈ (dot z).cps.toList) → goTo z rows now l < rows.length
  | [], _, h, _ => h
  | a :: l, now, h, hs => goTo_lt g l _ (step_ok g h (hs a List.mem_cons_self)).1 fun n m => hs n (List.mem_cons_of_mem _ m)
def intsD (l : List Nat) : List D := l.map fun m => .int (m : Nat)
def fs_led : FS := fun ds rt _ => ∃ z rows now c, ds = [.str z, .tup (rows.map rowT), .int (now : Nat), .str c] ∧ z.length ≤ 1000 ∧ goodRows z rows ∧ now < rows.length ∧ (∀ n ∈ c.cps.toList, n ∈ (dot z).cps.toList) ∧ c.length ≤ 1000 ∧ rt (.lst (intsD (ledL z rows now c.cps.toList)))
theorem ok_led {f : Addr} {fd : FuncData} (F : Fun K "led" "led" s_led f fd) : FnOk P w K mg base (L2N.CX P w) 1 f fd ["words", "standings", "standing", "signs"] (spOf cls fs_led) := by
  refine def_ok F sc_led (fun ds rt ex h => ?_) (fun cdv A outer s H E W R ds rt ex hr h => ?_)
  · obtain ⟨_, _, _, _, rfl, _⟩ := h
    rfl
  · obtain ⟨z, rows, now, c, rfl, hz, g, hn, hc, hl, k⟩ := h
    have hN := sc_led.nd
    refine wss_cons (ws_set 4 hN rfl ?_)
    refine we_addS ?_
    repeat walk_at "v"
    refine ⟨_, _, rfl, rfl, ?_, ?_⟩
    · have : ("." : Str).length = 1 := rfl
      rw [this, sizeLine_eq]
      omega
    refine wss_cons (ws_own 5 hN rfl ?_)
    refine wss_cons (ws_set 6 hN rfl ?_)
    repeat walk_at "v"
    refine wss_cons (ws_for rfl (wi_str ?_))
    repeat walk_at "v"
    refine ⟨c, rfl, fun i ρ' => ∃ o7, ρ' = [some (.val (.str z)), some (.val (.tup (rows.map rowT))), some (.val (.int (now : Nat))), some (.val (.str c)), some (.val (.str (dot z))), some (.lst (intsD (ledL z rows now (c.cps.toList.take i)))), some (.val (.int (goTo z rows now (c.cps.toList.take i) : Nat))), o7], ⟨none, rfl⟩, fun i d ρ' hi hI => ?_, fun ρ' hI => ?_⟩
    · obtain ⟨n, hni, rfl⟩ := signs_get hi
      obtain ⟨o7, rfl⟩ := hI
      have tk : c.cps.toList.take (i + 1) = c.cps.toList.take i ++ [n] := by
        rw [List.take_succ, hni]
        rfl
      have st := goTo_lt g (c.cps.toList.take i) now hn fun m hm => hc m (List.mem_of_mem_take hm)
      have sg := hc n (List.mem_of_getElem? hni)
      obtain ⟨lt, r, er, en⟩ := step_ok g st sg
      refine wg_name 7 hN rfl ?_
      refine wss_cons (ws_set 6 hN rfl (we_ix (we_ix (we_ix ?_))))
      repeat walk_at "v"
      refine ⟨_, _, rfl, item_tup (i := goTo z rows now (c.cps.toList.take i)) (by rw [List.getElem?_map, er]; rfl), ?_⟩
      repeat walk_at "v"
      refine ⟨_, _, rfl, item_tup (i := 2) rfl, ?_⟩
      refine we_sindex ?_
      repeat walk_at "v"
      obtain ⟨rest, eo⟩ := occ_one sg
      refine ⟨_, rfl, ?_⟩
      repeat walk_at "v"
      refine ⟨_, _, _, rfl, eo, _, _, rfl, item_tup (by rw [List.getElem?_map, en]; rfl), ?_⟩
      refine wss_one (ws_app 5 rfl rfl ?_ ?_)
      · unfold intsD
        rw [List.length_map, ledL_len, List.length_take, sizeLine_eq]
        have : c.cps.toList.length = c.length := rfl
        omega
      · repeat walk_at "v"
        refine ⟨some (.val (.str ⟨#[n]⟩)), ?_⟩
        rw [tk, ledL_snoc, goTo_snoc]
        unfold intsD
        rw [List.map_append]
        rfl
    · obtain ⟨o7, rfl⟩ := hI
      have : c.cps.toList.take (Vl.signs c).length = c.cps.toList := by
        rw [signs_len]
        exact List.take_of_length_le (Nat.le_refl _)
      rw [this]
      refine wss_pub 5 rfl (wss_one (ws_ret ?_))
      repeat walk_at "v"
      exact k
end
section
set_option maxHeartbeats 4000000
open PySem PySem.Spec PyProof.Rows L2 Vl
variable {cls : Nat → Addr} {P : Program} {w : World} {K : PySem.W.Frag} {mg : Str → Option Value} {base : Heap}
abbrev m_init : Stmt := inClass (top 25) 1
abbrev m_len : Stmt := inClass (top 25) 2
abbrev m_get : Stmt := inClass (top 25) 3
abbrev m_iter : Stmt := inClass (top 25) 4
abbrev m_eq : Stmt := inClass (top 25) 5
abbrev m_call : Stmt := inClass (top 25) 6
abbrev m_steady : Stmt := inClass (top 25) 7
abbrev m_walk : Stmt := inClass (top 25) 8
abbrev m_check : Stmt := inClass (top 25) 9
theorem sc_init : FnScope ["self", "words", "standings", "rows", "wrong"] ["self", "words", "standings"] (defScope m_init) := ⟨rfl, rfl, rfl, by decide +kernel, rfl, by decide +kernel, by decide +kernel⟩
theorem sc_len : FnScope ["self"] ["self"] (defScope m_len) := ⟨rfl, rfl, rfl, by decide +kernel, rfl, by decide +kernel, by decide +kernel⟩
theorem sc_get : FnScope ["self", "standing"] ["self", "standing"] (defScope m_get) := ⟨rfl, rfl, rfl, by decide +kernel, rfl, by decide +kernel, by decide +kernel⟩
theorem sc_iter : FnScope ["self"] ["self"] (defScope m_iter) := ⟨rfl, rfl, rfl, by decide +kernel, rfl, by decide +kernel, by decide +kernel⟩
theorem sc_eq : FnScope ["self", "other"] ["self", "other"] (defScope m_eq) := ⟨rfl, rfl, rfl, by decide +kernel, rfl, by decide +kernel, by decide +kernel⟩
theorem sc_call : FnScope ["self", "standing", "calling", "found"] ["self", "standing", "calling"] (defScope m_call) := ⟨rfl, rfl, rfl, by decide +kernel, rfl, by decide +kernel, by decide +kernel⟩
theorem sc_steady : FnScope ["self", "at", "row"] ["self"] (defScope m_steady) := ⟨rfl, rfl, rfl, by decide +kernel, rfl, by decide +kernel, by decide +kernel⟩
theorem sc_walk : FnScope ["self", "standing", "calling", "found", "onto"] ["self", "standing", "calling"] (defScope m_walk) := ⟨rfl, rfl, rfl, by decide +kernel, rfl, by decide +kernel, by decide +kernel⟩
theorem sc_check : FnScope ["self", "standing"] ["self", "standing"] (defScope m_check) := ⟨rfl, rfl, rfl, by decide +kernel, rfl, by decide +kernel, by decide +kernel⟩
/-- what the text says of the class -/
structure DrC (K : PySem.W.Frag) (C : Addr) : Prop where
  cl : Cls K C
  nW : NoAttr K C "words"
  nS : NoAttr K C "standings"
/-- a drill -/
def drO (z : Str) (d : D) : D := .obj 25 [("words", .str z), ("standings", d)]
abbrev dril (z : Str) (rows : List Row) : D := drO z (.tup (rows.map rowT))
/-! ### check_standing -/
def fs_check : FS := fun ds rt ex => ∃ z rows d, ds = [dril z rows, d] ∧ dat d = true ∧ (inB d 0 ((rows.length : Int) - 1) = true → rt .non) ∧ (inB d 0 ((rows.length : Int) - 1) = false → ex ⟨5, [("standing", d)]⟩)
theorem ok_check {f : Addr} {fd : FuncData} (nb : NB mg) (T : DrC K (cls 25)) (d1 : Df P w K mg base cls "in_bounds" 2 ["thing", "least", "most"] fs_in_bounds) (x1 : Er P w K mg base cls "NoStanding" 5 ["standing"]) (F : Fun K "check_standing" "Drill.check_standing" m_check f fd) :
    FnOk P w K mg base (L2N.CX P w) 3 f fd ["self", "standing"] (spOf cls fs_check) := by
  refine def_ok F sc_check (fun ds rt ex h => ?_) (fun cdv A outer s H E W R ds rt ex hr h => ?_)
  · obtain ⟨_, _, _, rfl, _⟩ := h
    rfl
  · obtain ⟨z, rows, d, rfl, hd, k1, k2⟩ := h
    refine wss_one (ws_if (wt_not (wt_val (we_call d1 hr ?_))))
    repeat walk_at "v"
    refine we_fld T.cl T.nS ?_
    repeat walk_at "v"
    refine ⟨_, _, rfl, rfl, _, rfl, ?_⟩
    repeat walk_at "v"
    refine ⟨_, _, rfl, rfl, d, _, _, rfl, hd, _, rfl, fun e => ?_, fun e => ?_⟩
    · refine wss_one (ws_raise (we_mkx x1 hr ?_))
      repeat walk_at "v"
      rw [List.length_map] at e
      exact k2 (by simpa using e)
    · rw [List.length_map] at e
      exact wss_nil (k1 (by simpa using e))
/-! ### __len__, [ ] -/
def fs_len : FS := fun ds rt _ => ∃ z rows, ds = [dril z rows] ∧ rt (.int (rows.length : Nat))
theorem ok_len {f : Addr} {fd : FuncData} (nb : NB mg) (T : DrC K (cls 25)) (F : Fun K "__len__" "Drill.__len__" m_len f fd) : FnOk P w K mg base (L2N.CX P w) 1 f fd ["self"] (spOf cls fs_len) := by
  refine def_ok F sc_len (fun ds rt ex h => ?_) (fun cdv A outer s H E W R ds rt ex hr h => ?_)
  · obtain ⟨_, _, rfl, _⟩ := h
    rfl
  · obtain ⟨z, rows, rfl, k⟩ := h
    refine wss_one (ws_ret ?_)
    walk_at "v"
    refine we_fld T.cl T.nS ?_
    repeat walk_at "v"
    refine ⟨_, _, rfl, rfl, _, rfl, ?_⟩
    rw [List.length_map]
    exact k
def fs_get : FS := fun ds rt ex => ∃ z rows d, ds = [dril z rows, d] ∧ dat d = true ∧ (∀ (i : Nat) r, d = .int (i : Nat) → rows[i]? = some r → rt (rowT r)) ∧ (inB d 0 ((rows.length : Int) - 1) = false → ex ⟨5, [("standing", d)]⟩)
theorem in_rows {d : D} {rows : List Row} (e : inB d 0 ((rows.length : Int) - 1) = true) : ∃ (i : Nat) (r : Row), d = .int (i : Nat) ∧ rows[i]? = some r ∧ i < rows.length := by
  obtain ⟨i, rfl, h1, h2⟩ := inB_int e
  have h : i.toNat < rows.length := by omega
  exact ⟨i.toNat, rows[i.toNat], by rw [Int.toNat_of_nonneg h1], List.getElem?_eq_getElem h, h⟩
theorem ok_get {f : Addr} {fd : FuncData} (T : DrC K (cls 25)) (d1 : Dm P w K mg base cls 25 "check_standing" 3 ["self", "standing"] fs_check) (F : Fun K "__getitem__" "Drill.__getitem__" m_get f fd) : FnOk P w K mg base (L2N.CX P w) 4 f fd ["self", "standing"] (spOf cls fs_get) := by
  refine def_ok F sc_get (fun ds rt ex h => ?_) (fun cdv A outer s H E W R ds rt ex hr h => ?_)
  · obtain ⟨_, _, _, rfl, _⟩ := h
    rfl
  · obtain ⟨z, rows, d, rfl, hd, k1, k2⟩ := h
    refine wss_cons (ws_expr (we_meth T.cl d1 hr ?_))
    repeat walk_at "v"
    refine ⟨_, rfl, rfl, ?_⟩
    repeat walk_at "v"
    refine ⟨z, rows, d, rfl, hd, fun e => ?_, k2⟩
    obtain ⟨i, r, rfl, er, _⟩ := in_rows e
    refine wss_one (ws_ret (we_ix (we_fld T.cl T.nS ?_)))
    repeat walk_at "v"
    refine ⟨_, _, rfl, rfl, ?_⟩
    repeat walk_at "v"
    exact ⟨_, _, rfl, item_tup (by rw [List.getElem?_map, er]; rfl), k1 i r rfl er⟩
/-! ### the call, walk -/
def callB (z : Str) (d : D) : D := mispD d (dot z) 0 400
theorem callB_non {z : Str} {d : D} (h : callB z d = .non) : ∃ c : Str, d = .str c ∧ c.length ≤ 400 ∧ ∀ n ∈ c.cps.toList, n ∈ (dot z).cps.toList := by
  unfold callB at h
  cases d <;> first | cases h | skip
  rename_i c
  rw [mispD_str] at h
  by_cases cc : (0 : Int) ≤ c.length ∧ (c.length : Int) ≤ 400
  · rw [if_pos cc] at h
    refine ⟨c, rfl, by omega, fun n hn => ?_⟩
    cases e : offAt c (dot z) with
    | some i => rw [e] at h; cases h
    | none =>
      unfold offAt at e
      rw [List.findIdx?_eq_none_iff] at e
      simpa using e n hn
  · rw [if_neg cc] at h
    cases h
/-- what a going through gives, with P; what it raises -/
@[irreducible] def fs_go (res : Str → List Row → Nat → Str → D) : FS := fun ds rt ex => ∃ z rows d dc, ds = [dril z rows, d, dc] ∧ z.length ≤ 1000 ∧ goodRows z rows ∧ dat d = true ∧ txtOk dc ∧ (inB d 0 ((rows.length : Int) - 1) = false → ex ⟨5, [("standing", d)]⟩) ∧
  (inB d 0 ((rows.length : Int) - 1) = true → ∀ y, callB z dc = y → isNon y = false → ex ⟨4, [("number", y)]⟩) ∧ (∀ (i : Nat) c, d = .int (i : Nat) → i < rows.length → dc = .str c → callB z dc = .non → rt (res z rows i c))
def goD (z : Str) (rows : List Row) (i : Nat) (c : Str) : D := .int (goTo z rows i c.cps.toList : Nat)
def paceL (rows : List Row) (l : List Nat) : List Int := l.map fun m => ((rows[m]?).map (·.1)).getD 0
def walkD (z : Str) (rows : List Row) (i : Nat) (c : Str) : D := .int ((paceL rows (ledL z rows i c.cps.toList)).sum)
theorem ledL_last (z : Str) (rows : List Row) : ∀ (l : List Nat) (now : Nat), l ≠ [] → (ledL z rows now l).getLast? = some (goTo z rows now l)
  | [], _, h => absurd rfl h
  | [a], now, _ => rfl
  | a :: b :: l, now, _ => by
    have z1 : ledL z rows now (a :: b :: l) = nextOf z rows now a :: ledL z rows (nextOf z rows now a) (b :: l) := rfl
    rw [z1]
    have z2 : ∃ x xs, ledL z rows (nextOf z rows now a) (b :: l) = x :: xs := ⟨_, _, rfl⟩
    obtain ⟨x, xs, e⟩ := z2
    rw [e, List.getLast?_cons_cons, ← e, ledL_last z rows (b :: l) _ (by simp)]
    rfl
end
section
set_option maxHeartbeats 4000000
open PySem PySem.Spec PyProof.Rows L2 Vl
variable {cls : Nat → Addr} {P : Program} {w : World} {K : PySem.W.Frag} {mg : Str → Option Value} {base : Heap}
theorem intsD_len {l : List Nat} : (intsD l).length = l.length := List.length_map _
theorem ok_call {f : Addr} {fd : FuncData} (T : DrC K (cls 25)) (d1 : Dm P w K mg base cls 25 "check_standing" 3 ["self", "standing"] fs_check) (d2 : Df P w K mg base cls "check_calling" 3 ["words", "calling"] fs_check_calling)
    (d3 : Df P w K mg base cls "led" 1 ["words", "standings", "standing", "signs"] fs_led) (F : Fun K "__call__" "Drill.__call__" m_call f fd) : FnOk P w K mg base (L2N.CX P w) 4 f fd ["self", "standing", "calling"] (spOf cls (fs_go goD)) := by
  refine def_ok F sc_call (fun ds rt ex h => ?_) (fun cdv A outer s H E W R ds rt ex hr h => ?_)
  · unfold fs_go at h
    obtain ⟨_, _, _, _, rfl, _⟩ := h
    rfl
  · unfold fs_go at h
    obtain ⟨z, rows, d, dc, rfl, hz, g, hd, hc, k1, k2, k3⟩ := h
    have hN := sc_call.nd
    refine wss_cons (ws_expr (we_meth T.cl d1 hr ?_))
    repeat walk_at "v"
    refine ⟨_, rfl, rfl, ?_⟩
    repeat walk_at "v"
    refine ⟨z, rows, d, rfl, hd, fun e => ?_, k1⟩
    obtain ⟨i, r, rfl, er, il⟩ := in_rows e
    refine wss_cons (ws_expr (we_call d2 hr ?_))
    refine we_fld T.cl T.nW ?_
    repeat walk_at "v"
    refine ⟨_, _, rfl, rfl, ?_⟩
    repeat walk_at "v"
    refine ⟨z, dc, rfl, hz, hc, fun e2 => ?_, fun y e2 e3 => k2 e y e2 e3⟩
    obtain ⟨c, rfl, cl, cs⟩ := callB_non e2
    have k := k3 i c rfl il rfl e2
    refine wss_cons (ws_set 3 hN rfl (we_call d3 (hr.mono (by decide)) ?_))
    refine we_fld T.cl T.nW ?_
    repeat walk_at "v"
    refine ⟨_, _, rfl, rfl, ?_⟩
    refine we_fld T.cl T.nS ?_
    repeat walk_at "v"
    refine ⟨_, _, rfl, rfl, ?_⟩
    repeat walk_at "v"
    refine ⟨z, rows, i, c, rfl, hz, g, il, cs, by omega, ?_⟩
    refine wss_cons (ws_if (wt_not (wt_truth ?_)))
    repeat walk_at "v"
    have ll : (ledL z rows i c.cps.toList).length = c.cps.toList.length := ledL_len z rows _ i
    refine ⟨_, rfl, fun e3 => ?_, fun e3 => ?_⟩
    · refine wss_one (ws_ret ?_)
      repeat walk_at "v"
      have e4 : c.cps.toList = [] := by
        cases e5 : c.cps.toList with
        | nil => rfl
        | cons a l => rw [e5] at e3; exact Bool.noConfusion e3
      have : goD z rows i c = .int (i : Nat) := by
        unfold goD
        rw [e4]
        rfl
      rw [this] at k
      exact k
    · have e4 : c.cps.toList ≠ [] := fun e5 => by rw [e5] at e3; exact Bool.noConfusion e3
      have la := ledL_last z rows c.cps.toList i e4
      refine wss_nil (wss_one (ws_ret (we_ix ?_)))
      repeat walk_at "v"
      refine ⟨_, rfl, _, _, rfl, ?_, k⟩
      have e6 : itemD (.lst (intsD (ledL z rows i c.cps.toList))) (-1) = (intsD (ledL z rows i c.cps.toList)).getLast? := by
        have hp : 1 ≤ (intsD (ledL z rows i c.cps.toList)).length := by
          rw [intsD_len, ll]
          exact List.length_pos_iff.mpr e4
        show L2.atI _ (-1) = _
        unfold L2.atI L2.ixN
        rw [if_neg (by omega), if_pos (by omega), List.getLast?_eq_getElem?]
        show _[_]? = _
        congr 1
        omega
      refine e6.trans ?_
      unfold intsD
      rw [List.getLast?_map, la]
      rfl
theorem ok_walk {f : Addr} {fd : FuncData} (nb : NB mg) (T : DrC K (cls 25)) (d1 : Dm P w K mg base cls 25 "check_standing" 3 ["self", "standing"] fs_check) (d2 : Df P w K mg base cls "check_calling" 3 ["words", "calling"] fs_check_calling)
    (d3 : Df P w K mg base cls "led" 1 ["words", "standings", "standing", "signs"] fs_led) (F : Fun K "walk" "Drill.walk" m_walk f fd) : FnOk P w K mg base (L2N.CX P w) 4 f fd ["self", "standing", "calling"] (spOf cls (fs_go walkD)) := by
  refine def_ok F sc_walk (fun ds rt ex h => ?_) (fun cdv A outer s H E W R ds rt ex hr h => ?_)
  · unfold fs_go at h
    obtain ⟨_, _, _, _, rfl, _⟩ := h
    rfl
  · unfold fs_go at h
    obtain ⟨z, rows, d, dc, rfl, hz, g, hd, hc, k1, k2, k3⟩ := h
    have hN := sc_walk.nd
    refine wss_cons (ws_expr (we_meth T.cl d1 hr ?_))
    repeat walk_at "v"
    refine ⟨_, rfl, rfl, ?_⟩
    repeat walk_at "v"
    refine ⟨z, rows, d, rfl, hd, fun e => ?_, k1⟩
    obtain ⟨i, r, rfl, er, il⟩ := in_rows e
    refine wss_cons (ws_expr (we_call d2 hr ?_))
    refine we_fld T.cl T.nW ?_
    repeat walk_at "v"
    refine ⟨_, _, rfl, rfl, ?_⟩
    repeat walk_at "v"
    refine ⟨z, dc, rfl, hz, hc, fun e2 => ?_, fun y e2 e3 => k2 e y e2 e3⟩
    obtain ⟨c, rfl, cl, cs⟩ := callB_non e2
    have k := k3 i c rfl il rfl e2
    refine wss_cons (ws_set 3 hN rfl (we_call d3 (hr.mono (by decide)) ?_))
    refine we_fld T.cl T.nW ?_
    repeat walk_at "v"
    refine ⟨_, _, rfl, rfl, ?_⟩
    refine we_fld T.cl T.nS ?_
    repeat walk_at "v"
    refine ⟨_, _, rfl, rfl, ?_⟩
    repeat walk_at "v"
    refine ⟨z, rows, i, c, rfl, hz, g, il, cs, by omega, ?_⟩
    have ll : (ledL z rows i c.cps.toList).length = c.length := ledL_len z rows _ i
    have lt : ∀ (l : List Nat) (now : Nat), now < rows.length → (∀ n ∈ l, n ∈ (dot z).cps.toList) → ∀ m ∈ ledL z rows now l, m < rows.length := by
      intro l
      induction l with
      | nil => intro now _ _ m hm; exact absurd hm (by simp [ledL])
      | cons a l ih =>
        intro now hn hs m hm
        have st := (step_ok g hn (hs a List.mem_cons_self)).1
        rcases List.mem_cons.mp (show m ∈ nextOf z rows now a :: ledL z rows (nextOf z rows now a) l from hm) with e | e
        · rw [e]; exact st
        · exact ih _ st (fun n hn => hs n (List.mem_cons_of_mem _ hn)) m e
    refine wss_one (ws_ret ?_)
    walk_at "v"
    refine we_lc 4 hN (LC.map (wi_list ?_))
    repeat walk_at "v"
    refine ⟨_, rfl, by rw [intsD_len, ll]; omega, fun j x y => ∃ m : Nat, (ledL z rows i c.cps.toList)[j]? = some m ∧ y = .int (((rows[m]?).map (·.1)).getD 0), fun j x hj => ?_, fun acc a1 a2 => ?_⟩
    · unfold intsD at hj
      rw [List.getElem?_map] at hj
      cases em : (ledL z rows i c.cps.toList)[j]? with
      | none => rw [em] at hj; cases hj
      | some m =>
        rw [em] at hj
        cases hj
        have ml := lt _ _ il cs m (List.mem_of_getElem? em)
        have er := List.getElem?_eq_getElem ml
        refine ⟨_, rfl, fun s0 H0 C cl fp => ?_⟩
        refine we_ix (we_ix (we_fld T.cl T.nS ?_))
        repeat walk_at "v"
        refine ⟨_, _, rfl, rfl, ?_⟩
        repeat walk_at "v"
        refine ⟨_, _, rfl, item_tup (by rw [List.getElem?_map, er]; rfl), ?_⟩
        repeat walk_at "v"
        refine ⟨_, _, rfl, item_tup (i := 0) rfl, m, em, ?_⟩
        rw [er]
        rfl
    · refine ⟨paceL rows (ledL z rows i c.cps.toList), ?_, k⟩
      rw [intsD_len] at a1
      refine congrArg D.lst ?_
      apply List.ext_getElem?
      intro j
      unfold paceL
      rw [List.getElem?_map, List.getElem?_map]
      cases em : (ledL z rows i c.cps.toList)[j]? with
      | none =>
        have := List.getElem?_eq_none_iff.mp em
        rw [List.getElem?_eq_none (by omega)]
        rfl
      | some m =>
        have hj : j < acc.length := by
          have := (List.getElem?_eq_some_iff.mp em).1
          omega
        obtain ⟨m', e1, e2⟩ := a2 j (.int (m : Nat)) _ (by unfold intsD; rw [List.getElem?_map, em]; rfl) (List.getElem?_eq_getElem hj)
        rw [em] at e1
        cases e1
        rw [List.getElem?_eq_getElem hj, e2]
        rfl
end
section
set_option maxHeartbeats 4000000
open PySem PySem.Spec PyProof.Rows L2 Vl
variable {cls : Nat → Addr} {P : Program} {w : World} {K : PySem.W.Frag} {mg : Str → Option Value} {base : Heap}
/-! ### is_steady -/
def steadyB (rows : List Row) : Bool := (rows.zipIdx.map fun p => decide ((p.1.2.2[0]?).getD (-1) = (p.2 : Int))).all id
def fs_steady : FS := fun ds rt _ => ∃ z rows, ds = [dril z rows] ∧ rows.length ≤ 1000 ∧ (∀ r ∈ rows, 1 ≤ r.2.2.length) ∧ rt (.bl (steadyB rows))
theorem ok_steady {f : Addr} {fd : FuncData} (nb : NB mg) (T : DrC K (cls 25)) (F : Fun K "is_steady" "Drill.is_steady" m_steady f fd) : FnOk P w K mg base (L2N.CX P w) 1 f fd ["self"] (spOf cls fs_steady) := by
  refine def_ok F sc_steady (fun ds rt ex h => ?_) (fun cdv A outer s H E W R ds rt ex hr h => ?_)
  · obtain ⟨_, _, rfl, _⟩ := h
    rfl
  · obtain ⟨z, rows, rfl, hl, h1, k⟩ := h
    have hN := sc_steady.nd
    refine wss_one (ws_ret ?_)
    walk_at "v"
    refine we_lc2 1 2 hN (LC.map (wi_enumT (nb _ (by decide)) ?_))
    refine we_fld T.cl T.nS ?_
    repeat walk_at "v"
    refine ⟨_, _, rfl, rfl, _, rfl, by rw [enumD_length, List.length_map]; omega, fun j x y => ∃ r, rows[j]? = some r ∧ y = .bl (decide ((r.2.2[0]?).getD (-1) = (j : Int))), fun j x hj => ?_, fun acc a1 a2 => ?_⟩
    · obtain ⟨x', hx, rfl⟩ := enum_get hj
      rw [List.getElem?_map] at hx
      cases er : rows[j]? with
      | none => rw [er] at hx; cases hx
      | some r =>
        rw [er] at hx
        cases hx
        have hr1 := h1 r (List.mem_of_getElem? er)
        have e0 := List.getElem?_eq_getElem (show 0 < r.2.2.length by omega)
        refine ⟨_, ⟨_, _, rfl, rfl⟩, fun s0 H0 C cl fp => ?_⟩
        refine we_eq (we_ix (we_ix ?_))
        repeat walk_at "v"
        refine ⟨_, _, rfl, item_tup (i := 2) rfl, ?_⟩
        repeat walk_at "v"
        refine ⟨_, _, rfl, item_tup (i := 0) (by rw [List.getElem?_map, e0]; rfl), ?_⟩
        repeat walk_at "v"
        refine eq_int ⟨r, er, ?_⟩
        rw [e0]
        rfl
    · refine ⟨rows.zipIdx.map fun p : Row × Nat => decide ((p.1.2.2[0]?).getD (-1) = (p.2 : Int)), congrArg D.lst ?_, k⟩
      rw [enumD_length, List.length_map] at a1
      apply List.ext_getElem?
      intro j
      rw [List.getElem?_map, List.getElem?_map, List.getElem?_zipIdx]
      cases er : rows[j]? with
      | none =>
        have := List.getElem?_eq_none_iff.mp er
        rw [List.getElem?_eq_none (by omega)]
        rfl
      | some r =>
        have hj : j < acc.length := by
          have := (List.getElem?_eq_some_iff.mp er).1
          omega
        obtain ⟨r', e1, e2⟩ := a2 j (.tup [.int (j : Nat), rowT r]) _ (by rw [enumD_get, List.getElem?_map, er]; rfl) (List.getElem?_eq_getElem hj)
        rw [er] at e1
        cases e1
        rw [List.getElem?_eq_getElem hj, e2]
        simp
/-! ### __init__ -/
@[irreducible] def fi_init : FI := fun ds rt ex => ∃ dw d, ds = [dw, d] ∧ txtOk dw ∧ okD 6 d ∧ (wordsB dw = false → ex ⟨2, [("words", dw)]⟩) ∧
  (∀ z, dw = .str z → wordsB dw = true → (wrongD (z.length + 1) (tupled d) = .non → rt [("words", dw), ("standings", tupled d)]) ∧ (∀ y, wrongD (z.length + 1) (tupled d) = y → isNon y = false → ex ⟨3, [("number", y)]⟩))
theorem words_str {d : D} (h : wordsB d = true) : ∃ z : Str, d = .str z ∧ 1 ≤ z.length ∧ z.length ≤ 4 := by
  cases d <;> first | exact Bool.noConfusion h | skip
  rename_i z
  have h : (decide (1 ≤ z.length ∧ z.length ≤ 4) && ((offAt z SMALL).isNone && riseB z)) = true := h
  simp only [Bool.and_eq_true, decide_eq_true_eq] at h
  exact ⟨z, rfl, h.1.1, h.1.2⟩
theorem ok_init {f : Addr} {fd : FuncData} (T : DrC K (cls 25)) (d1 : Df P w K mg base cls "check_words" 4 ["words"] fs_check_words) (d2 : Df P w K mg base cls "frozen" 7 ["thing"] (fs_frozen 6)) (d3 : Df P w K mg base cls "wrong_standing" 4 ["words", "rows"] fs_wrong)
    (x1 : Er P w K mg base cls "BadStanding" 3 ["number"]) (F : Fun K "__init__" "Drill.__init__" m_init f fd) : FnOk P w K mg base (L2N.CX P w) 8 f fd ["self", "words", "standings"] (spInit cls 25 fi_init) := by
  refine init_ok F sc_init (fun ds rt ex h => ?_) (fun cdv A outer s H E W R Hb a ds rt ex hr h => ?_)
  · unfold fi_init at h
    obtain ⟨_, _, rfl, _⟩ := h
    rfl
  · unfold fi_init at h
    obtain ⟨dw, d, rfl, hw, hd, k1, k2⟩ := h
    have hN := sc_init.nd
    refine wss_cons (ws_expr (we_call d1 (hr.mono (by decide)) ?_))
    repeat walk_at "v"
    refine ⟨dw, rfl, hw, fun e => ?_, k1⟩
    obtain ⟨z, rfl, z1, z4⟩ := words_str e
    obtain ⟨k2, k3⟩ := k2 z rfl e
    refine wss_cons (ws_set 3 hN rfl (we_call d2 hr ?_))
    repeat walk_at "v"
    refine ⟨d, rfl, hd, ?_⟩
    refine wss_cons (ws_set 4 hN rfl (we_call d3 (hr.mono (by decide)) ?_))
    repeat walk_at "v"
    refine ⟨z, _, rfl, by omega, ⟨6, okD_remk hd⟩, ?_⟩
    refine wss_cons (ws_if (wt_notN ?_))
    repeat walk_at "v"
    refine ⟨rfl, _, rfl, fun e1 => ?_, fun e1 => ?_⟩
    · refine wss_one (ws_raise (we_mkx x1 (hr.mono (by decide)) ?_))
      repeat walk_at "v"
      exact k3 _ rfl (by simpa using e1)
    · have e2 : wrongD (z.length + 1) (tupled d) = .non := by
        cases em : wrongD (z.length + 1) (tupled d) <;> first | rfl | (rw [em] at e1; exact Bool.noConfusion e1)
      refine wss_nil (wss_cons (ws_fld 0 T.cl T.nW rfl rfl ?_))
      repeat walk_at "v"
      refine wss_one (ws_fld 0 T.cl T.nS rfl rfl (hl := (by decide : 1 < 1000)) ?_)
      repeat walk_at "v"
      exact ⟨_, rfl, k2 e2⟩
/-! ### __eq__ -/
def rowsEq (x y : List Row) : Bool := eqB (.tup (x.map rowT)) (.tup (y.map rowT))
@[irreducible] def fs_eq : FS := fun ds rt _ => ∃ z rows o, ds = [dril z rows, o] ∧ eqOk (.tup (rows.map rowT)) ∧
  ((∃ z' rows', o = dril z' rows' ∧ eqOk (.tup (rows'.map rowT)) ∧ rt (.bl (decide (z = z') && rowsEq rows rows'))) ∨ (dat o = true ∧ (∀ k gs, o ≠ .obj k gs) ∧ rt (.bl false)))
theorem eq_str {i j : Str} {P : D → Prop} (h : P (.bl (decide (i = j)))) : FEq (.str i) (.str j) P := ⟨.str i, .str j, rfl, rfl, rfl, by
  have e : (decide (V.str i = V.str j)) = decide (i = j) := by
    by_cases c : i = j
    · subst c; simp
    · rw [decide_eq_false c, decide_eq_false]
      intro z
      cases z
      exact c rfl
  rw [e]
  exact h⟩
/-- what isinstance(x, Drill) must be told -/
structure DrI (K : PySem.W.Frag) (mg : Str → Option Value) (C : Addr) : Prop where
  nm : mg "Drill" = some (.ref C)
  ins : InsF K C
  yes : PySem.W.kitOne K (.ref C) (.ref C) = some true
  no : ∀ n ∈ ["NoneType", "bool", "int", "str", "list", "tuple"], PySem.W.kitOne K (.type n) (.ref C) = some false
theorem tag_plain {d : D} (h : dat d = true) (h2 : ∀ k gs, d ≠ .obj k gs) : ∃ n ∈ ["NoneType", "bool", "int", "str", "list", "tuple"], tagV cls d = some (.type n) := by
  cases d <;> first | exact Bool.noConfusion h | exact absurd rfl (h2 _ _) | skip
  · exact ⟨"NoneType", by decide, rfl⟩
  · exact ⟨"bool", by decide, rfl⟩
  · exact ⟨"int", by decide, rfl⟩
  · exact ⟨"str", by decide, rfl⟩
  · exact ⟨"list", by decide, rfl⟩
  · exact ⟨"tuple", by decide, rfl⟩
theorem ok_eq {f : Addr} {fd : FuncData} (nb : NB mg) (T : DrC K (cls 25)) (I : DrI K mg (cls 25)) (F : Fun K "__eq__" "Drill.__eq__" m_eq f fd) : FnOk P w K mg base (L2N.CX P w) 1 f fd ["self", "other"] (spOf cls fs_eq) := by
  refine def_ok F sc_eq (fun ds rt ex h => ?_) (fun cdv A outer s H E W R ds rt ex hr h => ?_)
  · unfold fs_eq at h
    obtain ⟨_, _, _, rfl, _⟩ := h
    rfl
  · unfold fs_eq at h
    obtain ⟨z, rows, o, rfl, h1, h2⟩ := h
    refine wss_one (ws_ret (we_and (we_isi nb ?_)))
    repeat walk_at "v"
    refine we_gcl I.nm ?_
    rcases h2 with ⟨z', rows', rfl, h3, k⟩ | ⟨h3, h4, k⟩
    · refine ⟨_, _, true, rfl, rfl, fun k fs e => ?_, I.yes, _, rfl, fun _ => ?_, fun e => Bool.noConfusion e⟩
      · cases e
        exact I.ins
      refine we_and (we_eq (we_fld T.cl T.nW ?_))
      repeat walk_at "v"
      refine ⟨_, _, rfl, rfl, ?_⟩
      refine we_fld T.cl T.nW ?_
      repeat walk_at "v"
      refine ⟨_, _, rfl, rfl, ?_⟩
      refine eq_str ⟨_, rfl, fun e => ?_, fun e => ?_⟩
      · rw [e] at k
        refine we_one (we_eqD (hr.mono (by decide)) ?_)
        refine we_fld T.cl T.nS ?_
        repeat walk_at "v"
        refine ⟨_, _, rfl, rfl, ?_⟩
        refine we_fld T.cl T.nS ?_
        repeat walk_at "v"
        exact ⟨_, _, rfl, rfl, h1, h3, k⟩
      · rw [e] at k
        exact k
    · obtain ⟨n, hn, ht⟩ := tag_plain (cls := cls) h3 h4
      refine ⟨_, _, false, ht, rfl, fun k fs e => absurd e (h4 k fs), I.no n hn, _, rfl, fun e => Bool.noConfusion e, fun _ => k⟩
end
section
set_option maxHeartbeats 4000000
open PySem PySem.Spec PyProof.Rows L2 Vl
variable {cls : Nat → Addr} {P : Program} {w : World} {K : PySem.W.Frag} {mg : Str → Option Value} {base : Heap}
abbrev s_listed : Stmt := top 30
abbrev s_tupled : Stmt := top 31
abbrev s_same : Stmt := top 33
abbrev s_went : Stmt := top 37
theorem sc_listed : FnScope ["_law_thing", "_law_part"] ["_law_thing"] (defScope s_listed) := ⟨rfl, rfl, rfl, by decide +kernel, rfl, by decide +kernel, by decide +kernel⟩
theorem sc_tupled : FnScope ["_law_thing", "_law_part"] ["_law_thing"] (defScope s_tupled) := ⟨rfl, rfl, rfl, by decide +kernel, rfl, by decide +kernel, by decide +kernel⟩
theorem sc_same : FnScope ["_law_one", "_law_two", "_law_at"] ["_law_one", "_law_two"] (defScope s_same) := ⟨rfl, rfl, rfl, by decide +kernel, rfl, by decide +kernel, by decide +kernel⟩
theorem sc_went : FnScope ["_law_rows_here", "_law_words_here", "_law_standing", "_law_calling_here", "_law_paces", "_law_sign"] ["_law_rows_here", "_law_words_here", "_law_standing", "_law_calling_here"] (defScope s_went) := ⟨rfl, rfl, rfl, by decide +kernel, rfl, by decide +kernel, by decide +kernel⟩
/-- by the kind of a plain datum -/
theorem okD_cases {n : Nat} {d : D} (h : okD n d) : (atomD d = true ∧ isA "tuple" d = false ∧ isA "list" d = false) ∨ ∃ m xs, n = m + 1 ∧ (d = .lst xs ∨ d = .tup xs) ∧ xs.length ≤ 1000000 ∧ ∀ x ∈ xs, okD m x := by
  have atom : atomD d = true → isA "tuple" d = false ∧ isA "list" d = false := fun h => by cases d <;> first | exact Bool.noConfusion h | exact ⟨rfl, rfl⟩
  cases n with
  | zero => exact .inl ⟨h, atom h⟩
  | succ n =>
    rcases h with h | ⟨xs, h, hl, hx⟩
    · exact .inl ⟨h, atom h⟩
    · exact .inr ⟨n, xs, rfl, h, hl, hx⟩
/-! ### _law_listed, _law_tupled -/
def fs_listed (n : Nat) : FS := fun ds rt _ => ∃ d, ds = [d] ∧ okD n d ∧ rt (listed d)
theorem ok_listed {f : Addr} {fd : FuncData} (nb : NB mg) (F : Fun K "_law_listed" "_law_listed" s_listed f fd) (hm : mg "_law_listed" = some (.ref f)) (hb : Binds K fd ["_law_thing"] []) : ∀ n, FnOk P w K mg base (L2N.CX P w) (n + 1) f fd ["_law_thing"] (spOf cls (fs_listed n)) := by
  intro n
  induction n using Nat.strongRecOn with
  | _ n ih =>
    refine def_ok F sc_listed (fun ds rt ex h => ?_) (fun cdv A outer s H E W R ds rt ex hr h => ?_)
    · obtain ⟨d, rfl, _⟩ := h
      rfl
    · obtain ⟨d, rfl, hd, k⟩ := h
      have hN := sc_listed.nd
      rcases okD_cases hd with ⟨ha, t1, t2⟩ | ⟨m, xs, rfl, hx, hl, hxs⟩
      · refine wss_cons (ws_if (wt_wp (wp_or (wt_val ?_))))
        repeat walk_at "v"
        refine ⟨okD_dat hd, _, rfl, fun e => ?_, fun e => ?_⟩
        · rw [t1] at e; exact Bool.noConfusion e
        · refine wp_or1 (wt_val ?_)
          repeat walk_at "v"
          refine ⟨okD_dat hd, _, rfl, fun e => ?_, fun e => ?_⟩
          · rw [t2] at e; exact Bool.noConfusion e
          · refine wss_nil (wss_one (ws_ret ?_))
            repeat walk_at "v"
            rw [show listed d = d from remk_atom ha] at k
            exact k
      · have dn : Df P w K mg base cls "_law_listed" (m + 1) ["_law_thing"] (fs_listed m) := ⟨f, fd, ih m (Nat.lt_succ_self m), hm, F.kp, hb⟩
        have ret : ∀ c : Cy cls, True := fun _ => trivial
        rcases hx with hx | hx <;> subst hx
        · refine wss_cons (ws_if (wt_wp (wp_or (wt_val ?_))))
          repeat walk_at "v"
          refine ⟨rfl, _, rfl, fun e => Bool.noConfusion e, fun e => ?_⟩
          refine wp_or1 (wt_val ?_)
          repeat walk_at "v"
          refine ⟨rfl, _, rfl, fun e => ?_, fun e => Bool.noConfusion e⟩
          refine wss_one (ws_ret (we_lc 1 hN (LC.map (wi_list ?_))))
          repeat walk_at "v"
          refine ⟨xs, rfl, hl, fun i x y => y = listed x, fun i x hi => ⟨_, rfl, fun s0 H0 C cl fp => ?_⟩, fun acc e1 e2 => ?_⟩
          · refine we_call dn hr ?_
            walk_at "v"
            exact ⟨x, rfl, hxs x (List.mem_of_getElem? hi), rfl⟩
          · rw [listed_lst] at k
            rw [acc_map e1 e2]
            exact k
        · refine wss_cons (ws_if (wt_wp (wp_or (wt_val ?_))))
          repeat walk_at "v"
          refine ⟨rfl, _, rfl, fun e => ⟨fun _ => ?_, fun z => Bool.noConfusion z⟩, fun e => Bool.noConfusion e⟩
          refine wss_one (ws_ret (we_lc 1 hN (LC.map (wi_tup ?_))))
          repeat walk_at "v"
          refine ⟨xs, rfl, hl, fun i x y => y = listed x, fun i x hi => ⟨_, rfl, fun s0 H0 C cl fp => ?_⟩, fun acc e1 e2 => ?_⟩
          · refine we_call dn hr ?_
            walk_at "v"
            exact ⟨x, rfl, hxs x (List.mem_of_getElem? hi), rfl⟩
          · rw [listed_tup] at k
            rw [acc_map e1 e2]
            exact k
def fs_tupled (n : Nat) : FS := fun ds rt _ => ∃ d, ds = [d] ∧ okD n d ∧ rt (tupled d)
theorem ok_tupled {f : Addr} {fd : FuncData} (nb : NB mg) (F : Fun K "_law_tupled" "_law_tupled" s_tupled f fd) (hm : mg "_law_tupled" = some (.ref f)) (hb : Binds K fd ["_law_thing"] []) : ∀ n, FnOk P w K mg base (L2N.CX P w) (n + 1) f fd ["_law_thing"] (spOf cls (fs_tupled n)) := by
  intro n
  induction n using Nat.strongRecOn with
  | _ n ih =>
    refine def_ok F sc_tupled (fun ds rt ex h => ?_) (fun cdv A outer s H E W R ds rt ex hr h => ?_)
    · obtain ⟨d, rfl, _⟩ := h
      rfl
    · obtain ⟨d, rfl, hd, k⟩ := h
      have hN := sc_tupled.nd
      rcases okD_cases hd with ⟨ha, t1, t2⟩ | ⟨m, xs, rfl, hx, hl, hxs⟩
      · refine wss_cons (ws_if (wt_wp (wp_or (wt_val ?_))))
        repeat walk_at "v"
        refine ⟨okD_dat hd, _, rfl, fun e => ?_, fun e => ?_⟩
        · rw [t1] at e; exact Bool.noConfusion e
        · refine wp_or1 (wt_val ?_)
          repeat walk_at "v"
          refine ⟨okD_dat hd, _, rfl, fun e => ?_, fun e => ?_⟩
          · rw [t2] at e; exact Bool.noConfusion e
          · refine wss_nil (wss_one (ws_ret ?_))
            repeat walk_at "v"
            rw [show tupled d = d from remk_atom ha] at k
            exact k
      · have dn : Df P w K mg base cls "_law_tupled" (m + 1) ["_law_thing"] (fs_tupled m) := ⟨f, fd, ih m (Nat.lt_succ_self m), hm, F.kp, hb⟩
        rcases hx with hx | hx <;> subst hx
        · refine wss_cons (ws_if (wt_wp (wp_or (wt_val ?_))))
          repeat walk_at "v"
          refine ⟨rfl, _, rfl, fun e => Bool.noConfusion e, fun e => ?_⟩
          refine wp_or1 (wt_val ?_)
          repeat walk_at "v"
          refine ⟨rfl, _, rfl, fun e => ?_, fun e => Bool.noConfusion e⟩
          refine wss_one (ws_ret ?_)
          walk_at "v"
          refine we_lc 1 hN (LC.map (wi_list ?_))
          repeat walk_at "v"
          refine ⟨xs, rfl, hl, fun i x y => y = tupled x, fun i x hi => ⟨_, rfl, fun s0 H0 C cl fp => ?_⟩, fun acc e1 e2 => ?_⟩
          · refine we_call dn hr ?_
            walk_at "v"
            exact ⟨x, rfl, hxs x (List.mem_of_getElem? hi), rfl⟩
          · rw [tupled_lst] at k
            exact ⟨_, .inl rfl, by rw [acc_map e1 e2]; exact k⟩
        · refine wss_cons (ws_if (wt_wp (wp_or (wt_val ?_))))
          repeat walk_at "v"
          refine ⟨rfl, _, rfl, fun e => ⟨fun _ => ?_, fun z => Bool.noConfusion z⟩, fun e => Bool.noConfusion e⟩
          refine wss_one (ws_ret ?_)
          walk_at "v"
          refine we_lc 1 hN (LC.map (wi_tup ?_))
          repeat walk_at "v"
          refine ⟨xs, rfl, hl, fun i x y => y = tupled x, fun i x hi => ⟨_, rfl, fun s0 H0 C cl fp => ?_⟩, fun acc e1 e2 => ?_⟩
          · refine we_call dn hr ?_
            walk_at "v"
            exact ⟨x, rfl, hxs x (List.mem_of_getElem? hi), rfl⟩
          · rw [tupled_tup] at k
            exact ⟨_, .inl rfl, by rw [acc_map e1 e2]; exact k⟩
end
section
set_option maxHeartbeats 4000000
open PySem PySem.Spec PyProof.Rows L2 Vl
variable {cls : Nat → Addr} {P : Program} {w : World} {K : PySem.W.Frag} {mg : Str → Option Value} {base : Heap}
/-! ### _law_same, of one datum twice -/
theorem all_true {n : Nat} : ((List.range n).map fun _ => true).all id = true := by
  rw [List.all_map, List.all_eq_true]
  intro x _
  rfl
def fs_same (n : Nat) : FS := fun ds rt _ => ∃ d, ds = [d, d] ∧ okD n d ∧ rt (.bl true)
theorem same_fe {d : D} {P : D → Prop} (h : atomD d = true) (k : P (.bl true)) : FEq d d P := by
  cases d <;> first | exact Bool.noConfusion h | exact ⟨_, _, rfl, rfl, rfl, by simpa using k⟩
theorem ok_same {f : Addr} {fd : FuncData} (nb : NB mg) (F : Fun K "_law_same" "_law_same" s_same f fd) (hm : mg "_law_same" = some (.ref f)) (hb : Binds K fd ["_law_one", "_law_two"] []) : ∀ n, FnOk P w K mg base (L2N.CX P w) (n + 1) f fd ["_law_one", "_law_two"] (spOf cls (fs_same n)) := by
  intro n
  induction n using Nat.strongRecOn with
  | _ n ih =>
    refine def_ok F sc_same (fun ds rt ex h => ?_) (fun cdv A outer s H E W R ds rt ex hr h => ?_)
    · obtain ⟨d, rfl, _⟩ := h
      rfl
    · obtain ⟨d, rfl, hd, k⟩ := h
      have hN := sc_same.nd
      rcases okD_cases hd with ⟨ha, t1, t2⟩ | ⟨m, xs, rfl, hx, hl, hxs⟩
      · refine wss_cons (ws_if (wt_wp (wp_or (wt_wp (wp_and (wt_val ?_))))))
        repeat walk_at "v"
        refine ⟨okD_dat hd, _, rfl, fun e => ?_, fun e => ?_⟩
        · rw [t1] at e; exact Bool.noConfusion e
        · refine ⟨fun z => Bool.noConfusion z, fun _ => ?_⟩
          refine wp_or1 (wt_wp (wp_and (wt_val ?_)))
          repeat walk_at "v"
          refine ⟨okD_dat hd, _, rfl, fun e => ?_, fun e => ?_⟩
          · rw [t2] at e; exact Bool.noConfusion e
          · refine ⟨fun z => Bool.noConfusion z, fun _ => wss_nil (wss_cons (ws_if (wt_ne ?_)))⟩
            repeat walk_at "v"
            refine ⟨okD_dat hd, ?_⟩
            repeat walk_at "v"
            refine ⟨okD_dat hd, .bl _, .bl _, rfl, rfl, rfl, _, rfl, fun e => ?_, fun e => ?_⟩
            · simp at e
            · refine wss_nil (wss_one (ws_ret (we_or (we_and (we_isA2 nb (by decide) (by decide) ?_)))))
              repeat walk_at "v"
              refine ⟨okD_dat hd, _, rfl, fun e2 => ?_, fun e2 => ?_⟩
              · refine we_one (we_eq ?_)
                repeat walk_at "v"
                exact same_fe ha ⟨_, rfl, fun _ => k, fun z => Bool.noConfusion z⟩
              · have dn : d = .non := by
                  cases d <;> first | rfl | exact Bool.noConfusion ha | exact Bool.noConfusion e2
                subst dn
                refine ⟨_, rfl, fun z => Bool.noConfusion z, fun _ => ?_⟩
                refine we_one (we_and (we_isN ?_))
                repeat walk_at "v"
                refine ⟨rfl, _, rfl, fun _ => ?_, fun z => Bool.noConfusion z⟩
                refine we_one (we_isN ?_)
                repeat walk_at "v"
                exact ⟨rfl, k⟩
      · have dn : Df P w K mg base cls "_law_same" (m + 1) ["_law_one", "_law_two"] (fs_same m) := ⟨f, fd, ih m (Nat.lt_succ_self m), hm, F.kp, hb⟩
        have elt : ∀ (j : Nat), j < xs.length → ∃ x, xs[j]? = some x ∧ okD m x := fun j hj => ⟨_, List.getElem?_eq_getElem hj, hxs _ (List.getElem_mem hj)⟩
        have accE : ∀ acc : List D, acc.length = (rangeD 0 xs.length).length → (∀ (i : Nat) d y, (rangeD 0 xs.length)[i]? = some d → acc[i]? = some y → y = .bl true) → ∃ bs : List Bool, D.lst acc = .lst (bs.map D.bl) ∧ rt (.bl (bs.all id)) := fun acc e1 e2 =>
          ⟨(List.range xs.length).map fun _ => true, by rw [acc_range (g := fun _ => .bl true) e1 e2, List.map_map]; rfl, by rw [all_true]; exact k⟩
        rcases hx with hx | hx <;> subst hx
        · refine wss_cons (ws_if (wt_wp (wp_or (wt_wp (wp_and (wt_val ?_))))))
          repeat walk_at "v"
          refine ⟨rfl, _, rfl, fun e => Bool.noConfusion e, fun e => ⟨fun z => Bool.noConfusion z, fun _ => ?_⟩⟩
          refine wp_or1 (wt_wp (wp_and (wt_val ?_)))
          repeat walk_at "v"
          refine ⟨rfl, _, rfl, fun e => ?_, fun e => Bool.noConfusion e⟩
          refine wp_and1 (wt_val ?_)
          repeat walk_at "v"
          refine ⟨rfl, _, rfl, fun e => ?_, fun e => Bool.noConfusion e⟩
          refine wss_one (ws_ret (we_and (we_eq ?_)))
          repeat walk_at "v"
          refine ⟨_, rfl, ?_⟩
          repeat walk_at "v"
          refine ⟨_, rfl, eq_int ⟨_, rfl, fun _ => ?_, fun e => by simp at e⟩⟩
          refine we_one (we_all nb (we_lc 2 hN (LC.map (wi_range1 (nb _ (by decide)) ?_))))
          repeat walk_at "v"
          refine ⟨_, rfl, _, rfl, by omega, by omega, by rw [rangeD_length]; omega, fun i x y => y = .bl true, fun i x hi => ?_, fun acc e1 e2 => accE acc e1 e2⟩
          obtain ⟨hlt, rfl⟩ := rangeD_get hi
          obtain ⟨x, ex', ox⟩ := elt i (by simpa using hlt)
          refine ⟨_, rfl, fun s0 H0 C cl fp => ?_⟩
          refine we_call dn hr ?_
          refine we_ix ?_
          repeat walk_at "v"
          refine ⟨_, _, rfl, by rw [Int.zero_add]; exact item_lst ex', ?_⟩
          refine we_ix ?_
          repeat walk_at "v"
          exact ⟨_, _, rfl, by rw [Int.zero_add]; exact item_lst ex', x, rfl, ox, rfl⟩
        · refine wss_cons (ws_if (wt_wp (wp_or (wt_wp (wp_and (wt_val ?_))))))
          repeat walk_at "v"
          refine ⟨rfl, _, rfl, fun e => ?_, fun e => Bool.noConfusion e⟩
          refine wp_and1 (wt_val ?_)
          repeat walk_at "v"
          refine ⟨rfl, _, rfl, fun e => ⟨fun _ => ?_, fun z => Bool.noConfusion z⟩, fun e => Bool.noConfusion e⟩
          refine wss_one (ws_ret (we_and (we_eq ?_)))
          repeat walk_at "v"
          refine ⟨_, rfl, ?_⟩
          repeat walk_at "v"
          refine ⟨_, rfl, eq_int ⟨_, rfl, fun _ => ?_, fun e => by simp at e⟩⟩
          refine we_one (we_all nb (we_lc 2 hN (LC.map (wi_range1 (nb _ (by decide)) ?_))))
          repeat walk_at "v"
          refine ⟨_, rfl, _, rfl, by omega, by omega, by rw [rangeD_length]; omega, fun i x y => y = .bl true, fun i x hi => ?_, fun acc e1 e2 => accE acc e1 e2⟩
          obtain ⟨hlt, rfl⟩ := rangeD_get hi
          obtain ⟨x, ex', ox⟩ := elt i (by simpa using hlt)
          refine ⟨_, rfl, fun s0 H0 C cl fp => ?_⟩
          refine we_call dn hr ?_
          refine we_ix ?_
          repeat walk_at "v"
          refine ⟨_, _, rfl, by rw [Int.zero_add]; exact item_tup ex', ?_⟩
          refine we_ix ?_
          repeat walk_at "v"
          exact ⟨_, _, rfl, by rw [Int.zero_add]; exact item_tup ex', x, rfl, ox, rfl⟩
/-! ### _law_went -/
theorem paceL_snoc (rows : List Row) (l : List Nat) (m : Nat) : (paceL rows (l ++ [m])).sum = (paceL rows l).sum + ((rows[m]?).map (·.1)).getD 0 := by
  unfold paceL
  rw [List.map_append, List.sum_append]
  simp
def fs_went : FS := fun ds rt _ => ∃ z rows now c, ds = [.lst (rows.map rowL), .str z, .int (now : Nat), .str c] ∧ z.length ≤ 1000 ∧ goodRows z rows ∧ now < rows.length ∧ (∀ n ∈ c.cps.toList, n ∈ (dot z).cps.toList) ∧ c.length ≤ 1000 ∧
  rt (.tup [goD z rows now c, walkD z rows now c])
theorem ok_went {f : Addr} {fd : FuncData} (F : Fun K "_law_went" "_law_went" s_went f fd) : FnOk P w K mg base (L2N.CX P w) 1 f fd ["_law_rows_here", "_law_words_here", "_law_standing", "_law_calling_here"] (spOf cls fs_went) := by
  refine def_ok F sc_went (fun ds rt ex h => ?_) (fun cdv A outer s H E W R ds rt ex hr h => ?_)
  · obtain ⟨_, _, _, _, rfl, _⟩ := h
    rfl
  · obtain ⟨z, rows, now, c, rfl, hz, g, hn, hc, hl, k⟩ := h
    have hN := sc_went.nd
    refine wss_cons (ws_set 4 hN rfl ?_)
    repeat walk_at "v"
    refine wss_cons (ws_for rfl (wi_str ?_))
    repeat walk_at "v"
    refine ⟨c, rfl, fun i ρ' => ∃ o, ρ' = [some (.val (.lst (rows.map rowL))), some (.val (.str z)), some (.val (.int (goTo z rows now (c.cps.toList.take i) : Nat))), some (.val (.str c)), some (.val (.int ((paceL rows (ledL z rows now (c.cps.toList.take i))).sum))), o], ⟨none, rfl⟩, fun i d ρ' hi hI => ?_, fun ρ' hI => ?_⟩
    · obtain ⟨n, hni, rfl⟩ := signs_get hi
      obtain ⟨o, rfl⟩ := hI
      have tk : c.cps.toList.take (i + 1) = c.cps.toList.take i ++ [n] := by
        rw [List.take_succ, hni]
        rfl
      have st := goTo_lt g (c.cps.toList.take i) now hn fun m hm => hc m (List.mem_of_mem_take hm)
      have sg := hc n (List.mem_of_getElem? hni)
      obtain ⟨lt, r, er, en⟩ := step_ok g st sg
      have er2 := List.getElem?_eq_getElem lt
      refine wg_name 5 hN rfl ?_
      refine wss_cons (ws_set 2 hN rfl (we_ix (we_ix (we_ix ?_))))
      repeat walk_at "v"
      refine ⟨_, _, rfl, item_lst (i := goTo z rows now (c.cps.toList.take i)) (by rw [List.getElem?_map, er]; rfl), ?_⟩
      repeat walk_at "v"
      refine ⟨_, _, rfl, item_lst (i := 2) rfl, ?_⟩
      refine we_sindex (we_addS ?_)
      repeat walk_at "v"
      refine ⟨_, _, rfl, rfl, ?_, ?_⟩
      · have : ("." : Str).length = 1 := rfl
        rw [this, sizeLine_eq]
        omega
      obtain ⟨rest, eo⟩ := occ_one sg
      refine ⟨_, rfl, ?_⟩
      repeat walk_at "v"
      refine ⟨_, _, _, rfl, eo, _, _, rfl, item_lst (by rw [List.getElem?_map, en]; rfl), ?_⟩
      refine wss_one (ws_set 4 hN rfl (we_add ?_))
      repeat walk_at "v"
      refine we_ix (we_ix ?_)
      repeat walk_at "v"
      refine ⟨_, _, rfl, item_lst (i := nextOf z rows (goTo z rows now (c.cps.toList.take i)) n) (by rw [List.getElem?_map, er2]; rfl), ?_⟩
      repeat walk_at "v"
      refine ⟨_, _, rfl, item_lst (i := 0) rfl, _, _, rfl, rfl, some (.val (.str ⟨#[n]⟩)), ?_⟩
      rw [tk, ledL_snoc, goTo_snoc, paceL_snoc, er2]
      rfl
    · obtain ⟨o, rfl⟩ := hI
      have : c.cps.toList.take (Vl.signs c).length = c.cps.toList := by
        rw [signs_len]
        exact List.take_of_length_le (Nat.le_refl _)
      rw [this]
      refine wss_one (ws_ret ?_)
      repeat walk_at "v"
      exact k
end
section
set_option maxHeartbeats 4000000
open PySem PySem.Spec PyProof.Rows L2 Vl
variable {cls : Nat → Addr} {P : Program} {w : World} {K : PySem.W.Frag} {mg : Str → Option Value} {base : Heap}
abbrev s_told : Stmt := top 41
abbrev s_making : Stmt := top 42
abbrev s_asking : Stmt := top 43
theorem sc_told : FnScope ["_law_fault", "_law_found"] ["_law_fault"] (defScope s_told) := ⟨rfl, rfl, rfl, by decide +kernel, rfl, by decide +kernel, by decide +kernel⟩
theorem sc_making : FnScope ["_law_words_here", "_law_thing", "_law_fault"] ["_law_words_here", "_law_thing"] (defScope s_making) := ⟨rfl, rfl, rfl, by decide +kernel, rfl, by decide +kernel, by decide +kernel⟩
theorem sc_asking : FnScope ["_law_drill", "_law_way", "_law_standing", "_law_calling_here", "_law_fault"] ["_law_drill", "_law_way", "_law_standing", "_law_calling_here"] (defScope s_asking) := ⟨rfl, rfl, rfl, by decide +kernel, rfl, by decide +kernel, by decide +kernel⟩
/-- the error classes -/
structure ErF (K : PySem.W.Frag) (mg : Str → Option Value) (cls : Nat → Addr) : Prop where
  n2 : mg "BadWords" = some (.ref (cls 2))
  n3 : mg "BadStanding" = some (.ref (cls 3))
  n4 : mg "BadCalling" = some (.ref (cls 4))
  n5 : mg "NoStanding" = some (.ref (cls 5))
  n1 : mg "TailError" = some (.ref (cls 1))
  ec : ∀ k ∈ errs, ExcC K (cls k)
  xf : ∀ k ∈ errs, XfC K (cls k)
  kk : ∀ i ∈ errs, ∀ j ∈ errs, PySem.W.kitOne K (.ref (cls i)) (.ref (cls j)) = some (i == j)
  kv : ∀ i ∈ errs, PySem.W.kitOne K (.ref (cls i)) (.type "ValueError") = some true
  f2 : PySem.W.findIn K (.ref (cls 2)) "words" = some none
  f3 : PySem.W.findIn K (.ref (cls 3)) "number" = some none
  f4 : PySem.W.findIn K (.ref (cls 4)) "number" = some none
  f5 : PySem.W.findIn K (.ref (cls 5)) "standing" = some none
  ex : ∀ k ∈ errs, PySem.W.exmOne K (.ref (cls k)) (.ref (cls 1)) = some true
def errN : Nat → Str
  | 2 => "BadWords"
  | 3 => "BadStanding"
  | 4 => "BadCalling"
  | _ => "NoStanding"
def errF : Nat → Str
  | 2 => "words"
  | 3 => "number"
  | 4 => "number"
  | _ => "standing"
abbrev errX (k : Nat) (d : D) : Xd := ⟨k, [(errF k, d)]⟩
abbrev toldD (k : Nat) (d : D) : D := .tup [.str (errN k), d]
def fx_told : FXd := fun x rt => ∃ k d, k ∈ errs ∧ x = errX k d ∧ rt (toldD k d)
section
variable {c : Cy cls} {ρ : Rho}
/-- isinstance(_law_fault, a class) in the slot 0 -/
theorem fault_is {b : Expr} {pp px pos : Pos} {a dd : Addr} {k : Nat} {d : D} {P : Bool → Prop} {ex : Xd → Prop} (nb : NB c.X.mg) (T : ErF c.X.K c.X.mg cls) (hk : k ∈ errs) (hx : HX c (a, dd, errX k d)) (hN : c.X.N[0]? = some ("_law_fault" : Str)) (hρ : ρ[0]? = some (some (.exc (a, dd, errX k d))))
    (hv : Vis c.X.env.scope "_law_fault") (hg : Gl c.X "isinstance") (h : WE c b ρ (fun t => (∃ j ∈ errs, t = .cl j ∧ P (k == j)) ∨ (t = .ty "ValueError" ∧ P true)) ex)
    (he : starEach [.Name "_law_fault" px, b] c.X.env = (false, eval (.Name "_law_fault" px) c.X.env) :: starEach [b] c.X.env := by rfl) (hs2 : starEach [b] c.X.env = (false, eval b c.X.env) :: starEach [] c.X.env := by rfl) (hpl : (backTo pos (starEach [b] c.X.env)).any (·.1) = false := by rfl) : WE c (.Call (.Name "isinstance" pp) [.Name "_law_fault" px, b] [] pos) ρ (fun x => ∃ v, x = .bl v ∧ P v) ex := by
  have C := T.ec k hk
  refine we_xisi (i := 0) (e := (a, dd, errX k d)) nb hx C hN hρ (WE.mono h fun t ht => ?_) hv (hp := pe_callB (call_xisi hx C) hg (nb _ (by decide)) (by decide +kernel) (pa_cons (pe_var hN hv) (pa_cons (peU _ _) pa_nil hs2) he) (by decide) (by decide) he hpl)
  rcases ht with ⟨j, hj, e, hp⟩ | ⟨e, hp⟩
  · subst e
    exact ⟨_, _, rfl, T.kk k hk j hj, _, rfl, hp⟩
  · subst e
    exact ⟨_, _, rfl, T.kv k hk, _, rfl, hp⟩
end
theorem told_body {f : Addr} {fd : FuncData} (nb : NB mg) (T : ErF K mg cls) (F : Fun K "_law_told" "_law_told" s_told f fd) : FnP P w K mg base (L2N.CX P w) 1 f fd ["_law_fault"] (spTold cls fx_told) := by
  refine told_ok F sc_told fun cdv A outer s H E W R p dd xx rt hf hx => ?_
  obtain ⟨k, d, hk, rfl, hr⟩ := hf
  have hN := sc_told.nd
  refine wss_cons (ws_own 1 hN rfl ?_)
  have m2 : (2 : Nat) ∈ errs := by decide
  have m3 : (3 : Nat) ∈ errs := by decide
  have m4 : (4 : Nat) ∈ errs := by decide
  have m5 : (5 : Nat) ∈ errs := by decide
  have cs : k = 2 ∨ k = 3 ∨ k = 4 ∨ k = 5 := by simpa [errs] using hk
  rcases cs with rfl | rfl | rfl | rfl
  · refine wss_cons (ws_if (wt_val (fault_is nb T hk hx rfl rfl (Or.inl rfl) rfl (we_gcl T.n2 (.inl ⟨2, m2, rfl, fun _ => ?_, fun e => Bool.noConfusion e⟩)))))
    refine wss_one (ws_app 1 rfl rfl (by show 0 < _; rw [sizeLine_eq]; decide) (we_tup ?_))
    refine we_str ?_
    refine we_xfld (i := 0) (e := (p.1, dd, errX 2 d)) hx (T.xf 2 m2) T.f2 rfl rfl rfl ?_
    refine wss_cons (ws_if (wt_val (fault_is nb T hk hx rfl rfl (Or.inl rfl) rfl (we_gcl T.n3 (.inl ⟨3, m3, rfl, fun e => Bool.noConfusion e, fun _ => wss_nil ?_⟩)))))
    refine wss_cons (ws_if (wt_val (fault_is nb T hk hx rfl rfl (Or.inl rfl) rfl (we_gcl T.n5 (.inl ⟨5, m5, rfl, fun e => Bool.noConfusion e, fun _ => wss_nil ?_⟩)))))
    refine wss_cons (ws_if (wt_val (fault_is nb T hk hx rfl rfl (Or.inl rfl) rfl (we_gcl T.n4 (.inl ⟨4, m4, rfl, fun e => Bool.noConfusion e, fun _ => wss_nil ?_⟩)))))
    refine wss_pub 1 rfl (wss_cons (ws_if (wt_wp (wp_or (wt_ne ?_)))))
    repeat walk_at "v"
    refine ⟨1, rfl, ?_⟩
    repeat walk_at "v"
    refine ⟨.int 1, .int 1, rfl, rfl, rfl, _, rfl, fun e => by simp at e, fun _ => ?_⟩
    refine wp_or1 (wt_not (wt_val (fault_is nb T hk hx rfl rfl (Or.inl rfl) rfl (we_ty (n := "ValueError") (nb _ (by decide)) (.inr ⟨rfl, fun e => Bool.noConfusion e, fun _ => ?_⟩)))))
    refine wss_nil (wss_one (ws_ret (we_ix ?_)))
    repeat walk_at "v"
    exact ⟨_, _, rfl, item_lst (i := 0) rfl, hr⟩
  · refine wss_cons (ws_if (wt_val (fault_is nb T hk hx rfl rfl (Or.inl rfl) rfl (we_gcl T.n2 (.inl ⟨2, m2, rfl, fun e => Bool.noConfusion e, fun _ => wss_nil ?_⟩)))))
    refine wss_cons (ws_if (wt_val (fault_is nb T hk hx rfl rfl (Or.inl rfl) rfl (we_gcl T.n3 (.inl ⟨3, m3, rfl, fun _ => ?_, fun e => Bool.noConfusion e⟩)))))
    refine wss_one (ws_app 1 rfl rfl (by show 0 < _; rw [sizeLine_eq]; decide) (we_tup ?_))
    refine we_str ?_
    refine we_xfld (i := 0) (e := (p.1, dd, errX 3 d)) hx (T.xf 3 m3) T.f3 rfl rfl rfl ?_
    refine wss_cons (ws_if (wt_val (fault_is nb T hk hx rfl rfl (Or.inl rfl) rfl (we_gcl T.n5 (.inl ⟨5, m5, rfl, fun e => Bool.noConfusion e, fun _ => wss_nil ?_⟩)))))
    refine wss_cons (ws_if (wt_val (fault_is nb T hk hx rfl rfl (Or.inl rfl) rfl (we_gcl T.n4 (.inl ⟨4, m4, rfl, fun e => Bool.noConfusion e, fun _ => wss_nil ?_⟩)))))
    refine wss_pub 1 rfl (wss_cons (ws_if (wt_wp (wp_or (wt_ne ?_)))))
    repeat walk_at "v"
    refine ⟨1, rfl, ?_⟩
    repeat walk_at "v"
    refine ⟨.int 1, .int 1, rfl, rfl, rfl, _, rfl, fun e => by simp at e, fun _ => ?_⟩
    refine wp_or1 (wt_not (wt_val (fault_is nb T hk hx rfl rfl (Or.inl rfl) rfl (we_ty (n := "ValueError") (nb _ (by decide)) (.inr ⟨rfl, fun e => Bool.noConfusion e, fun _ => ?_⟩)))))
    refine wss_nil (wss_one (ws_ret (we_ix ?_)))
    repeat walk_at "v"
    exact ⟨_, _, rfl, item_lst (i := 0) rfl, hr⟩
  · refine wss_cons (ws_if (wt_val (fault_is nb T hk hx rfl rfl (Or.inl rfl) rfl (we_gcl T.n2 (.inl ⟨2, m2, rfl, fun e => Bool.noConfusion e, fun _ => wss_nil ?_⟩)))))
    refine wss_cons (ws_if (wt_val (fault_is nb T hk hx rfl rfl (Or.inl rfl) rfl (we_gcl T.n3 (.inl ⟨3, m3, rfl, fun e => Bool.noConfusion e, fun _ => wss_nil ?_⟩)))))
    refine wss_cons (ws_if (wt_val (fault_is nb T hk hx rfl rfl (Or.inl rfl) rfl (we_gcl T.n5 (.inl ⟨5, m5, rfl, fun e => Bool.noConfusion e, fun _ => wss_nil ?_⟩)))))
    refine wss_cons (ws_if (wt_val (fault_is nb T hk hx rfl rfl (Or.inl rfl) rfl (we_gcl T.n4 (.inl ⟨4, m4, rfl, fun _ => ?_, fun e => Bool.noConfusion e⟩)))))
    refine wss_one (ws_app 1 rfl rfl (by show 0 < _; rw [sizeLine_eq]; decide) (we_tup ?_))
    refine we_str ?_
    refine we_xfld (i := 0) (e := (p.1, dd, errX 4 d)) hx (T.xf 4 m4) T.f4 rfl rfl rfl ?_
    refine wss_pub 1 rfl (wss_cons (ws_if (wt_wp (wp_or (wt_ne ?_)))))
    repeat walk_at "v"
    refine ⟨1, rfl, ?_⟩
    repeat walk_at "v"
    refine ⟨.int 1, .int 1, rfl, rfl, rfl, _, rfl, fun e => by simp at e, fun _ => ?_⟩
    refine wp_or1 (wt_not (wt_val (fault_is nb T hk hx rfl rfl (Or.inl rfl) rfl (we_ty (n := "ValueError") (nb _ (by decide)) (.inr ⟨rfl, fun e => Bool.noConfusion e, fun _ => ?_⟩)))))
    refine wss_nil (wss_one (ws_ret (we_ix ?_)))
    repeat walk_at "v"
    exact ⟨_, _, rfl, item_lst (i := 0) rfl, hr⟩
  · refine wss_cons (ws_if (wt_val (fault_is nb T hk hx rfl rfl (Or.inl rfl) rfl (we_gcl T.n2 (.inl ⟨2, m2, rfl, fun e => Bool.noConfusion e, fun _ => wss_nil ?_⟩)))))
    refine wss_cons (ws_if (wt_val (fault_is nb T hk hx rfl rfl (Or.inl rfl) rfl (we_gcl T.n3 (.inl ⟨3, m3, rfl, fun e => Bool.noConfusion e, fun _ => wss_nil ?_⟩)))))
    refine wss_cons (ws_if (wt_val (fault_is nb T hk hx rfl rfl (Or.inl rfl) rfl (we_gcl T.n5 (.inl ⟨5, m5, rfl, fun _ => ?_, fun e => Bool.noConfusion e⟩)))))
    refine wss_one (ws_app 1 rfl rfl (by show 0 < _; rw [sizeLine_eq]; decide) (we_tup ?_))
    refine we_str ?_
    refine we_xfld (i := 0) (e := (p.1, dd, errX 5 d)) hx (T.xf 5 m5) T.f5 rfl rfl rfl ?_
    refine wss_cons (ws_if (wt_val (fault_is nb T hk hx rfl rfl (Or.inl rfl) rfl (we_gcl T.n4 (.inl ⟨4, m4, rfl, fun e => Bool.noConfusion e, fun _ => wss_nil ?_⟩)))))
    refine wss_pub 1 rfl (wss_cons (ws_if (wt_wp (wp_or (wt_ne ?_)))))
    repeat walk_at "v"
    refine ⟨1, rfl, ?_⟩
    repeat walk_at "v"
    refine ⟨.int 1, .int 1, rfl, rfl, rfl, _, rfl, fun e => by simp at e, fun _ => ?_⟩
    refine wp_or1 (wt_not (wt_val (fault_is nb T hk hx rfl rfl (Or.inl rfl) rfl (we_ty (n := "ValueError") (nb _ (by decide)) (.inr ⟨rfl, fun e => Bool.noConfusion e, fun _ => ?_⟩)))))
    refine wss_nil (wss_one (ws_ret (we_ix ?_)))
    repeat walk_at "v"
    exact ⟨_, _, rfl, item_lst (i := 0) rfl, hr⟩
end
section
set_option maxHeartbeats 4000000
open PySem PySem.Spec PyProof.Rows L2 Vl
variable {cls : Nat → Addr} {P : Program} {w : World} {K : PySem.W.Frag} {mg : Str → Option Value} {base : Heap}
/-! ### _law_making -/
@[irreducible] def fs_making : FS := fun ds rt _ => ∃ dw d, ds = [dw, d] ∧ txtOk dw ∧ okD 6 d ∧
  ((wordsB dw = false ∧ rt (toldD 2 dw)) ∨ ∃ z, dw = .str z ∧ wordsB dw = true ∧ isNon (wrongD (z.length + 1) (tupled d)) = false ∧ rt (toldD 3 (wrongD (z.length + 1) (tupled d))))
theorem ok_making {f : Addr} {fd : FuncData} (T : ErF K mg cls) (d1 : Dk P w K mg base cls "Drill" 25 8 ["words", "standings"] fi_init) (d2 : Dh P w K mg base cls "_law_told" fx_told) (F : Fun K "_law_making" "_law_making" s_making f fd) :
    FnOk P w K mg base (L2N.CX P w) 10 f fd ["_law_words_here", "_law_thing"] (spOf cls fs_making) := by
  refine def_ok F sc_making (fun ds rt ex h => ?_) (fun cdv A outer s H E W R ds rt ex hr h => ?_)
  · unfold fs_making at h
    obtain ⟨_, _, rfl, _⟩ := h
    rfl
  · unfold fs_making at h
    obtain ⟨dw, d, rfl, hw, hd, k⟩ := h
    have hN := sc_making.nd
    have m2 : (2 : Nat) ∈ errs := by decide
    have m3 : (3 : Nat) ∈ errs := by decide
    refine wss_cons (ws_try 2 (kx := 1) hN rfl T.n1 fun pn xe po => wss_one (ws_expr (we_make d1 hr ?_)))
    repeat walk_at "v"
    unfold fi_init
    refine ⟨dw, d, rfl, hw, hd, fun e => ?_, fun z ez ew => ⟨fun e2 => ?_, fun y ey en => ?_⟩⟩
    · rcases k with ⟨_, k⟩ | ⟨z, _, e', _⟩
      · refine ⟨true, T.ex 2 m2, fun z => Bool.noConfusion z, fun _ a dd oe pn' hx => wss_one (ws_ret ?_)⟩
        exact we_told (i := 2) hx d2 (L2H.roomH_mark (hr.mono (by decide)) _) rfl rfl ⟨2, dw, m2, rfl, k⟩
      · rw [e] at e'
        exact Bool.noConfusion e'
    · rcases k with ⟨e', _⟩ | ⟨z', ez', _, en, _⟩
      · rw [ew] at e'
        exact Bool.noConfusion e'
      · rw [ez] at ez'
        cases ez'
        rw [e2] at en
        exact Bool.noConfusion en
    · rcases k with ⟨e', _⟩ | ⟨z', ez', _, _, k⟩
      · rw [ew] at e'
        exact Bool.noConfusion e'
      · rw [ez] at ez'
        cases ez'
        subst ey
        refine ⟨true, T.ex 3 m3, fun z => Bool.noConfusion z, fun _ a dd oe pn' hx => wss_one (ws_ret ?_)⟩
        exact we_told (i := 2) hx d2 (L2H.roomH_mark (hr.mono (by decide)) _) rfl rfl ⟨3, _, m3, rfl, k⟩
/-! ### _law_asking -/
@[irreducible] def fs_asking : FS := fun ds rt _ => ∃ z rows way d dc, ds = [dril z rows, .int way, d, dc] ∧ z.length ≤ 1000 ∧ goodRows z rows ∧ dat d = true ∧ txtOk dc ∧ (0 ≤ way ∧ way ≤ 2) ∧
  ((inB d 0 ((rows.length : Int) - 1) = false ∧ rt (toldD 5 d)) ∨ (inB d 0 ((rows.length : Int) - 1) = true ∧ 1 ≤ way ∧ isNon (callB z dc) = false ∧ rt (toldD 4 (callB z dc))) ∨
    ∃ i c, d = .int ((i : Nat) : Int) ∧ i < rows.length ∧ dc = .str c ∧ callB z dc = .non ∧ ((way = 1 ∧ rt (.tup [.str "told", goD z rows i c])) ∨ (way = 2 ∧ rt (.tup [.str "told", walkD z rows i c]))))
/-- what the asking wants of a going through -/
theorem asking_go {res : Str → List Row → Nat → Str → D} {z : Str} {rows : List Row} {d dc : D} {rt : D → Prop} {ex : Xd → Prop} {A5 A4 : Prop} {B : Nat → Str → Prop} (hz : z.length ≤ 1000) (g : goodRows z rows) (hd : dat d = true) (hc : txtOk dc)
    (k : (inB d 0 ((rows.length : Int) - 1) = false ∧ A5) ∨ (inB d 0 ((rows.length : Int) - 1) = true ∧ isNon (callB z dc) = false ∧ A4) ∨ ∃ i c, d = .int ((i : Nat) : Int) ∧ i < rows.length ∧ dc = .str c ∧ callB z dc = .non ∧ B i c)
    (k5 : A5 → ex (errX 5 d)) (k4 : A4 → ex (errX 4 (callB z dc))) (kr : ∀ i c, B i c → rt (res z rows i c)) : fs_go res [dril z rows, d, dc] rt ex := by
  unfold fs_go
  refine ⟨z, rows, d, dc, rfl, hz, g, hd, hc, fun e => ?_, fun e y ey en => ?_, fun i c ed il ec ecb => ?_⟩
  · rcases k with ⟨_, k⟩ | ⟨e', _⟩ | ⟨i, c, ed, il, _⟩
    · exact k5 k
    · rw [e] at e'; exact Bool.noConfusion e'
    · subst ed
      have : inB (.int (i : Nat)) 0 ((rows.length : Int) - 1) = true := inB_of (by omega) (by omega)
      rw [e] at this
      exact Bool.noConfusion this
  · subst ey
    rcases k with ⟨e', _⟩ | ⟨_, _, k⟩ | ⟨i, c, ed, il, ec, ecb, _⟩
    · rw [e] at e'; exact Bool.noConfusion e'
    · exact k4 k
    · rw [ecb] at en; exact Bool.noConfusion en
  · subst ed ec
    have : inB (.int (i : Nat)) 0 ((rows.length : Int) - 1) = true := inB_of (by omega) (by omega)
    rcases k with ⟨e', _⟩ | ⟨_, e', _⟩ | ⟨i', c', ed, _, ec, _, k⟩
    · rw [this] at e'; exact Bool.noConfusion e'
    · rw [ecb] at e'; exact Bool.noConfusion e'
    · cases ec
      have : i = i' := by
        have := D.int.inj ed
        omega
      subst this
      exact kr i c k
section
theorem ok_asking {f : Addr} {fd : FuncData} (C : DrC K (cls 25)) (T : ErF K mg cls) (d0 : Dm P w K mg base cls 25 "__getitem__" 4 ["self", "standing"] fs_get) (d1 : Dm P w K mg base cls 25 "__call__" 4 ["self", "standing", "calling"] (fs_go goD))
    (d2 : Dm P w K mg base cls 25 "walk" 4 ["self", "standing", "calling"] (fs_go walkD)) (d3 : Dh P w K mg base cls "_law_told" fx_told) (F : Fun K "_law_asking" "_law_asking" s_asking f fd) :
    FnOk P w K mg base (L2N.CX P w) 6 f fd ["_law_drill", "_law_way", "_law_standing", "_law_calling_here"] (spOf cls fs_asking) := by
  refine def_ok F sc_asking (fun ds rt ex h => ?_) (fun cdv A outer s H E W R ds rt ex hr h => ?_)
  · unfold fs_asking at h
    obtain ⟨_, _, _, _, _, rfl, _⟩ := h
    rfl
  · unfold fs_asking at h
    obtain ⟨z, rows, way, d, dc, rfl, hz, g, hd, hc, ⟨w0, w2⟩, k⟩ := h
    have hN := sc_asking.nd
    have m4 : (4 : Nat) ∈ errs := by decide
    have m5 : (5 : Nat) ∈ errs := by decide
    refine wss_one (ws_try 4 (kx := 1) hN rfl T.n1 fun pn xe po => ?_)
    refine wss_cons (ws_if (wt_eq ?_))
    repeat walk_at "v"
    refine eq_int ⟨_, rfl, fun e => ?_, fun e => ?_⟩
    · have hw0 := of_decide_eq_true e
      refine wss_one (ws_ret (we_tup ?_))
      refine we_str ?_
      refine we_ixO (Dm.obm d0) (hr.mono (by decide)) ?_
      repeat walk_at "v"
      refine ⟨_, rfl, ?_⟩
      repeat walk_at "v"
      refine ⟨z, rows, d, rfl, hd, fun i r ed er => ?_, fun e => ?_⟩
      · exfalso
        subst ed
        have il := (List.getElem?_eq_some_iff.mp er).1
        have : inB (.int (i : Nat)) 0 ((rows.length : Int) - 1) = true := inB_of (by omega) (by omega)
        rcases k with ⟨e', _⟩ | ⟨_, h1, _⟩ | ⟨_, _, _, _, _, _, ⟨h1, _⟩ | ⟨h1, _⟩⟩
        · rw [this] at e'; exact Bool.noConfusion e'
        · omega
        · omega
        · omega
      · rcases k with ⟨_, k⟩ | ⟨e', _⟩ | ⟨i, c, ed, il, _⟩
        · refine ⟨true, T.ex 5 m5, fun z => Bool.noConfusion z, fun _ a dd oe pn' hx => wss_one (ws_ret ?_)⟩
          exact we_told (i := 4) hx d3 (L2H.roomH_mark (hr.mono (by decide)) _) rfl rfl ⟨5, d, m5, rfl, k⟩
        · rw [e] at e'; exact Bool.noConfusion e'
        · subst ed
          have : inB (.int (i : Nat)) 0 ((rows.length : Int) - 1) = true := inB_of (by omega) (by omega)
          rw [e] at this
          exact Bool.noConfusion this
    · have hw1 : 1 ≤ way := by
        have := of_decide_eq_false e
        omega
      refine wss_nil (wss_cons (ws_if (wt_eq ?_)))
      repeat walk_at "v"
      refine eq_int ⟨_, rfl, fun e2 => ?_, fun e2 => ?_⟩
      · have hw := of_decide_eq_true e2
        refine wss_one (ws_ret (we_tup ?_))
        refine we_str ?_
        refine we_callO (Dm.obm d1) (hr.mono (by decide)) ?_
        repeat walk_at "v"
        refine ⟨_, rfl, ?_⟩
        repeat walk_at "v"
        refine asking_go (A5 := rt (toldD 5 d)) (A4 := rt (toldD 4 (callB z dc))) (B := fun i c => rt (.tup [.str "told", goD z rows i c])) hz g hd hc ?_ (fun k => ?_) (fun k => ?_) fun i c k => k
        · rcases k with k | ⟨k1, _, k2, k3⟩ | ⟨i, c, k1, k2, k3, k4, ⟨_, k⟩ | ⟨h, _⟩⟩
          · exact .inl k
          · exact .inr (.inl ⟨k1, k2, k3⟩)
          · exact .inr (.inr ⟨i, c, k1, k2, k3, k4, k⟩)
          · omega
        · refine ⟨true, T.ex 5 m5, fun z => Bool.noConfusion z, fun _ a dd oe pn' hx => wss_one (ws_ret ?_)⟩
          exact we_told (i := 4) hx d3 (L2H.roomH_mark (hr.mono (by decide)) _) rfl rfl ⟨5, d, m5, rfl, k⟩
        · refine ⟨true, T.ex 4 m4, fun z => Bool.noConfusion z, fun _ a dd oe pn' hx => wss_one (ws_ret ?_)⟩
          exact we_told (i := 4) hx d3 (L2H.roomH_mark (hr.mono (by decide)) _) rfl rfl ⟨4, _, m4, rfl, k⟩
      · have hw2 : way = 2 := by
          have := of_decide_eq_false e2
          omega
        refine wss_nil (wss_one (ws_ret (we_tup ?_)))
        refine we_str ?_
        refine we_meth C.cl d2 (hr.mono (by decide)) ?_
        repeat walk_at "v"
        refine ⟨_, rfl, rfl, ?_⟩
        repeat walk_at "v"
        refine asking_go (A5 := rt (toldD 5 d)) (A4 := rt (toldD 4 (callB z dc))) (B := fun i c => rt (.tup [.str "told", walkD z rows i c])) hz g hd hc ?_ (fun k => ?_) (fun k => ?_) fun i c k => k
        · rcases k with k | ⟨k1, _, k2, k3⟩ | ⟨i, c, k1, k2, k3, k4, ⟨h, _⟩ | ⟨_, k⟩⟩
          · exact .inl k
          · exact .inr (.inl ⟨k1, k2, k3⟩)
          · omega
          · exact .inr (.inr ⟨i, c, k1, k2, k3, k4, k⟩)
        · refine ⟨true, T.ex 5 m5, fun z => Bool.noConfusion z, fun _ a dd oe pn' hx => wss_one (ws_ret ?_)⟩
          exact we_told (i := 4) hx d3 (L2H.roomH_mark (hr.mono (by decide)) _) rfl rfl ⟨5, d, m5, rfl, k⟩
        · refine ⟨true, T.ex 4 m4, fun z => Bool.noConfusion z, fun _ a dd oe pn' hx => wss_one (ws_ret ?_)⟩
          exact we_told (i := 4) hx d3 (L2H.roomH_mark (hr.mono (by decide)) _) rfl rfl ⟨4, _, m4, rfl, k⟩
end
end
section
set_option maxHeartbeats 4000000
open PySem PySem.Spec PyProof.Rows L2 Vl
variable {cls : Nat → Addr} {P : Program} {w : World} {K : PySem.W.Frag} {mg : Str → Option Value} {base : Heap}
abbrev s_walks : Stmt := top 38
theorem sc_walks : FnScope ["_law_drill", "_law_words_here", "_law_rows_here", "_law_calling_here", "_law_standing", "_law_after", "_law_paces"] ["_law_drill", "_law_words_here", "_law_rows_here", "_law_calling_here"] (defScope s_walks) := ⟨rfl, rfl, rfl, by decide +kernel, rfl, by decide +kernel, by decide +kernel⟩
theorem callB_good {z c : Str} (hl : c.length ≤ 400) (hc : ∀ n ∈ c.cps.toList, n ∈ (dot z).cps.toList) : callB z (.str c) = .non := by
  unfold callB
  rw [mispD_str, if_pos ⟨by omega, by omega⟩]
  have : offAt c (dot z) = none := by
    unfold offAt
    rw [List.findIdx?_eq_none_iff]
    intro x hx
    simp [hc x hx]
  rw [this]
/-- a going through a good calling from a good standing -/
theorem go_good {res : Str → List Row → Nat → Str → D} {z : Str} {rows : List Row} {i : Nat} {c : Str} {rt : D → Prop} {ex : Xd → Prop} (hz : z.length ≤ 1000) (g : goodRows z rows) (hi : i < rows.length) (hl : c.length ≤ 400) (hc : ∀ n ∈ c.cps.toList, n ∈ (dot z).cps.toList)
    (k : rt (res z rows i c)) : fs_go res [dril z rows, .int (i : Nat), .str c] rt ex := by
  unfold fs_go
  have b : inB (.int (i : Nat)) 0 ((rows.length : Int) - 1) = true := inB_of (by omega) (by omega)
  refine ⟨z, rows, _, _, rfl, hz, g, rfl, ⟨rfl, fun z' e => by cases e; omega⟩, fun e => ?_, fun _ y ey en => ?_, fun i' c' ed il ec ecb => ?_⟩
  · rw [b] at e; exact Bool.noConfusion e
  · rw [callB_good hl hc] at ey
    subst ey
    exact Bool.noConfusion en
  · cases ec
    have : i = i' := by
      have := D.int.inj ed
      omega
    subst this
    exact k
@[irreducible] def fs_walks : FS := fun ds rt _ => ∃ z rows c, ds = [dril z rows, .str z, .lst (rows.map rowL), .str c] ∧ z.length ≤ 1000 ∧ goodRows z rows ∧ rows.length ≤ 1000 ∧ (∀ n ∈ c.cps.toList, n ∈ (dot z).cps.toList) ∧ c.length ≤ 400 ∧ rt (.bl true)
section
theorem ok_walks {f : Addr} {fd : FuncData} (nb : NB mg) (C : DrC K (cls 25)) (d1 : Dm P w K mg base cls 25 "__call__" 4 ["self", "standing", "calling"] (fs_go goD)) (d2 : Dm P w K mg base cls 25 "walk" 4 ["self", "standing", "calling"] (fs_go walkD))
    (d3 : Df P w K mg base cls "_law_went" 1 ["_law_rows_here", "_law_words_here", "_law_standing", "_law_calling_here"] fs_went) (d4 : Df P w K mg base cls "_law_same" 1 ["_law_one", "_law_two"] (fs_same 0)) (F : Fun K "_law_walks" "_law_walks" s_walks f fd) :
    FnOk P w K mg base (L2N.CX P w) 5 f fd ["_law_drill", "_law_words_here", "_law_rows_here", "_law_calling_here"] (spOf cls fs_walks) := by
  refine def_ok F sc_walks (fun ds rt ex h => ?_) (fun cdv A outer s H E W R ds rt ex hr h => ?_)
  · unfold fs_walks at h
    obtain ⟨_, _, _, rfl, _⟩ := h
    rfl
  · unfold fs_walks at h
    obtain ⟨z, rows, c, rfl, hz, g, hrl, hc, hl, k⟩ := h
    have hN := sc_walks.nd
    refine wss_cons (ws_for rfl (wi_range1 (nb _ (by decide)) ?_))
    repeat walk_at "v"
    refine ⟨_, rfl, _, rfl, by first | (simp; done) | (simp; omega), by first | (simp; done) | (simp; omega), fun i ρ' => ∃ o4 o5 o6, ρ' = [some (.val (dril z rows)), some (.val (.str z)), some (.val (.lst (rows.map rowL))), some (.val (.str c)), o4, o5, o6], ⟨none, none, none, rfl⟩, fun i d ρ' hi hI => ?_, fun ρ' hI => ?_⟩
    · obtain ⟨hlt, rfl⟩ := rangeD_get hi
      have hlt : i < rows.length := by simpa using hlt
      obtain ⟨o4, o5, o6, rfl⟩ := hI
      refine wg_name 4 hN rfl ?_
      refine wss_cons (ws_asg (we_call d3 (hr.mono (by decide)) ?_))
      repeat walk_at "v"
      refine ⟨z, rows, i, c, by rw [Int.zero_add], hz, g, hlt, hc, by omega, ?_⟩
      refine wg_tup rfl ⟨_, rfl, rfl, wg_name 5 hN rfl (wg_name 6 hN rfl ?_)⟩
      refine wss_cons (ws_if (wt_not (wt_val (we_call d4 (hr.mono (by decide)) ?_))))
      refine we_callO (Dm.obm d1) (hr.mono (by decide)) ?_
      repeat walk_at "v"
      refine ⟨_, rfl, ?_⟩
      repeat walk_at "v"
      rw [Int.zero_add]
      refine go_good hz g hlt hl hc ?_
      repeat walk_at "v"
      refine ⟨goD z rows i c, rfl, okD_atom rfl, _, rfl, fun e => Bool.noConfusion e, fun _ => wss_nil ?_⟩
      refine wss_cons (ws_if (wt_not (wt_val (we_call d4 (hr.mono (by decide)) ?_))))
      refine we_meth C.cl d2 (hr.mono (by decide)) ?_
      repeat walk_at "v"
      refine ⟨_, rfl, rfl, ?_⟩
      repeat walk_at "v"
      refine go_good hz g hlt hl hc ?_
      repeat walk_at "v"
      refine ⟨walkD z rows i c, rfl, okD_atom rfl, _, rfl, fun e => Bool.noConfusion e, fun _ => wss_nil (wss_nil ⟨_, _, _, rfl⟩)⟩
    · refine wss_one (ws_ret ?_)
      obtain ⟨_, _, _, rfl⟩ := hI
      repeat walk_at "v"
      exact k
end
end
section
set_option maxHeartbeats 4000000
open PySem PySem.Spec PyProof.Rows L2 Vl
variable {cls : Nat → Addr} {P : Program} {w : World} {K : PySem.W.Frag} {mg : Str → Option Value} {base : Heap}
abbrev s_mix : Stmt := top 28
abbrev s_pick : Stmt := top 29
theorem sc_mix : FnScope ["_law_cell", "_law_turn", "_law_one", "_law_two"] ["_law_cell", "_law_turn"] (defScope s_mix) := ⟨rfl, rfl, rfl, by decide +kernel, rfl, by decide +kernel, by decide +kernel⟩
theorem sc_pick : FnScope ["_law_draw_here", "_law_many", "_law_cell", "_law_digit", "_law_found"] ["_law_draw_here", "_law_many"] (defScope s_pick) := ⟨rfl, rfl, rfl, by decide +kernel, rfl, by decide +kernel, by decide +kernel⟩
def fs_mix : FS := fun ds rt _ => ∃ a b : Int, ds = [.int a, .int b] ∧ ∀ r : Int, rt (.int r)
theorem mul_l {i j : Int} (h1 : -1000000007 ≤ i) (h2 : i ≤ 1000000007000) : CMul i j := .inl ⟨by omega, by omega⟩
theorem mul_r {i j : Int} (h1 : -1000000007 ≤ j) (h2 : j ≤ 1000000007000) : CMul i j := .inr ⟨by omega, by omega⟩
theorem fmod_lo (i : Int) {j : Int} (h : 0 < j) : 0 ≤ i.fmod j := by rw [Int.fmod_eq_emod_of_nonneg i (by omega)]; exact Int.emod_nonneg _ (by omega)
theorem fmod_hi (i : Int) {j : Int} (h : 0 < j) : i.fmod j < j := by rw [Int.fmod_eq_emod_of_nonneg i (by omega)]; exact Int.emod_lt_of_pos _ h
theorem ok_mix {f : Addr} {fd : FuncData} (nb : NB mg) (F : Fun K "_law_mix" "_law_mix" s_mix f fd) : FnOk P w K mg base (L2N.CX P w) 1 f fd ["_law_cell", "_law_turn"] (spOf cls fs_mix) := by
  refine def_ok F sc_mix (fun ds rt ex h => ?_) (fun cdv A outer s H E W R ds rt ex hr h => ?_)
  · obtain ⟨_, _, rfl, _⟩ := h
    rfl
  · obtain ⟨a, b, rfl, k⟩ := h
    have hN := sc_mix.nd
    refine wss_cons (ws_set 2 hN rfl (we_mod (we_int1 nb (we_add (we_add (we_mul ?_))))))
    repeat walk_at "v"
    refine ⟨_, _, rfl, rfl, mul_r (by decide) (by decide), ?_⟩
    repeat walk_at "v"
    refine ⟨_, _, rfl, rfl, mul_r (by decide) (by decide), _, _, rfl, rfl, ?_⟩
    repeat walk_at "v"
    refine ⟨_, _, rfl, rfl, _, rfl, ?_⟩
    repeat walk_at "v"
    refine ⟨_, _, rfl, rfl, by decide, ?_⟩
    have o1 := fmod_lo (a * 48271 + b * 69621 + 12345) (j := 2147483647) (by decide)
    have o2 := fmod_hi (a * 48271 + b * 69621 + 12345) (j := 2147483647) (by decide)
    generalize (a * 48271 + b * 69621 + 12345).fmod 2147483647 = one at o1 o2 ⊢
    refine wss_cons (ws_set 3 hN rfl (we_mod (we_int1 nb (we_add (we_add (we_mul ?_))))))
    repeat walk_at "v"
    refine ⟨_, _, rfl, rfl, mul_l (by omega) (by omega), ?_⟩
    repeat walk_at "v"
    refine ⟨_, _, rfl, rfl, mul_r (by decide) (by decide), _, _, rfl, rfl, ?_⟩
    repeat walk_at "v"
    refine ⟨_, _, rfl, rfl, _, rfl, ?_⟩
    repeat walk_at "v"
    refine ⟨_, _, rfl, rfl, by decide, ?_⟩
    have t1 := fmod_lo (one * one + b * 7919 + a) (j := 998244353) (by decide)
    have t2 := fmod_hi (one * one + b * 7919 + a) (j := 998244353) (by decide)
    generalize (one * one + b * 7919 + a).fmod 998244353 = two at t1 t2 ⊢
    refine wss_cons (ws_set 3 hN rfl (we_mod (we_int1 nb (we_add (we_mul ?_)))))
    repeat walk_at "v"
    refine ⟨_, _, rfl, rfl, mul_l (by omega) (by omega), ?_⟩
    repeat walk_at "v"
    refine ⟨_, _, rfl, rfl, _, rfl, ?_⟩
    repeat walk_at "v"
    refine ⟨_, _, rfl, rfl, by decide, ?_⟩
    refine wss_one (ws_ret (we_fdiv ?_))
    repeat walk_at "v"
    exact ⟨_, _, rfl, rfl, ⟨by decide, by decide⟩, k _⟩
end
section
set_option maxHeartbeats 8000000
open PySem PySem.Spec PyProof.Rows L2 Vl
variable {cls : Nat → Addr} {P : Program} {w : World} {K : PySem.W.Frag} {mg : Str → Option Value} {base : Heap}
def ifBody : Stmt → List Stmt
  | .If _ a _ _ => a
  | _ => []
instance : Inhabited Stmt := ⟨.Pass ⟨0, 0, 0, 0⟩⟩
theorem ok_pick {f : Addr} {fd : FuncData} (nb : NB mg) (d1 : Df P w K mg base cls "_law_mix" 1 ["_law_cell", "_law_turn"] fs_mix) (F : Fun K "_law_pick" "_law_pick" s_pick f fd) :
    FnOk P w K mg base (L2N.CX P w) 2 f fd ["_law_draw_here", "_law_many"] (spOf cls fs_pick) := by
  refine draw_ok F sc_pick fun cdv A outer s H E W hk js n hr hlim l5 z0 => ?_
  have hN := sc_pick.nd
  match js, l5, z0 with
  | [i1, i2, i3, i4, i5], _, z0 =>
  have p1 : 0 ≤ i1 := z0 i1 rfl
  refine wd_if (wt_lt ?_)
  repeat walk_at "v"
  refine ⟨_, _, rfl, rfl, _, rfl, fun e => ?_, fun e => ?_⟩
  · refine wd_ws (ws_ret ?_)
    repeat walk_at "v"
    exact ⟨0, rfl, by decide, .inr ⟨of_decide_eq_true e, rfl⟩⟩
  have hn : 2 ≤ n := by
    have := of_decide_eq_false e
    omega
  have md : ∀ i : Int, ∃ r : Int, D.int (i.fmod n) = .int r ∧ 0 ≤ r ∧ (r < n ∨ (n < 2 ∧ r = 0)) := fun i => ⟨_, rfl, fmod_lo i (by omega), .inl (fmod_hi i (by omega))⟩
  have tail : ∀ (j1 j2 j3 j4 j5 : Int) (o : Option Sv), (o = none ∨ ∃ x, o = some (.val (.int x))) → 0 ≤ j1 →
      WD (cyOf P w K mg base ["_law_draw_here", "_law_many", "_law_cell", "_law_digit", "_law_found"] "_law_pick" (defScope s_pick) f cdv A outer s H E W (fun _ => False)) hk [j1, j2, j3, j4, j5] ((defBody s_pick).drop 2)
        [some (.val (.own 3)), some (.val (.int n)), o, none, none] (fun _ _ => False) (fun _ d => ∃ r : Int, d = .int r ∧ 0 ≤ r ∧ (r < n ∨ (n < 2 ∧ r = 0))) := by
    intro j1 j2 j3 j4 j5 o ho q1
    have fl : ∀ o' : Option Sv, (o' = none ∨ ∃ x, o' = some (.val (.int x))) → flatSv o' = true := fun o' h => by
      rcases h with h | ⟨x, h⟩ <;> subst h <;> rfl
    refine wd_if (wt_gt (we_dix (i := 0) rfl rfl ?_))
    repeat walk_at "v"
    refine ⟨1, j2, rfl, rfl, ?_⟩
    repeat walk_at "v"
    refine ⟨_, _, rfl, rfl, _, rfl, fun e1 => ?_, fun e1 => ?_⟩
    · refine wd_ws (ws_set 3 hN rfl (we_mod (we_int1 nb (we_dix (i := 0) rfl rfl ?_))))
      repeat walk_at "v"
      refine ⟨1, j2, rfl, rfl, _, rfl, ?_⟩
      repeat walk_at "v"
      refine ⟨_, _, rfl, rfl, by omega, ?_⟩
      refine wd_set 0 rfl rfl (we_fdiv (we_dix (i := 0) rfl rfl ?_)) (hfl := by
        show ([some (.val (.own 3)), some (.val (.int n)), o, some (.val (.int _)), none] : Rho).all flatSv = true
        rcases ho with rfl | ⟨x, rfl⟩ <;> rfl)
      repeat walk_at "v"
      refine ⟨1, j2, rfl, rfl, ?_⟩
      repeat walk_at "v"
      refine ⟨_, _, rfl, rfl, ⟨by omega, by omega⟩, _, rfl, ?_⟩
      repeat walk_at "v"
      refine ⟨1, rfl, by decide, fun z => absurd z (by decide), rfl, fun z e => by cases e; exact q1, ?_⟩
      refine wd_ws (ws_ret ?_)
      repeat walk_at "v"
      exact md j2
    · refine wd_nil ?_
      refine wd_if (wt_lt (we_dix (i := 0) rfl rfl ?_))
      repeat walk_at "v"
      refine ⟨0, j1, rfl, rfl, ?_⟩
      refine we_dlen (i := 0) nb rfl rfl ?_
      repeat walk_at "v"
      refine ⟨rfl, _, _, rfl, rfl, _, rfl, fun e2 => ?_, fun e2 => ?_⟩
      · have lt : j1 < (W.ns.length : Int) := of_decide_eq_true e2
        have nsk := List.getElem?_eq_getElem (show j1.toNat < W.ns.length by omega)
        refine wd_ws (ws_set 2 hN rfl (we_dcell (i := 0) rfl rfl ?_))
        repeat walk_at "v"
        refine ⟨rfl, we_dix (i := 0) rfl rfl ?_⟩
        repeat walk_at "v"
        refine ⟨0, j1, rfl, rfl, j1.toNat, _, by rw [Int.toNat_of_nonneg q1], nsk, ?_⟩
        refine wd_set 0 rfl rfl (we_add (we_dix (i := 0) rfl rfl ?_))
        repeat walk_at "v"
        refine ⟨2, j3, rfl, rfl, ?_⟩
        repeat walk_at "v"
        refine ⟨_, _, rfl, rfl, _, rfl, ?_⟩
        repeat walk_at "v"
        refine ⟨2, rfl, by decide, fun z => absurd z (by decide), rfl, fun z e => by cases e; exact q1, ?_⟩
        refine wd_ws (ws_set 4 hN rfl (we_mod (we_int1 nb (we_call d1 hr ?_))))
        refine we_add ?_
        repeat walk_at "v"
        refine we_dix (i := 0) rfl rfl ?_
        repeat walk_at "v"
        refine ⟨0, j1, rfl, rfl, _, _, rfl, rfl, mul_l (by decide) (by decide), _, _, rfl, rfl, ?_⟩
        refine we_dix (i := 0) rfl rfl ?_
        repeat walk_at "v"
        refine ⟨2, _, rfl, rfl, _, _, rfl, fun r => ⟨r, rfl, ?_⟩⟩
        repeat walk_at "v"
        refine ⟨_, _, rfl, rfl, by omega, ?_⟩
        refine wd_if (wt_eq (we_dix (i := 0) rfl rfl ?_))
        repeat walk_at "v"
        refine ⟨2, _, rfl, rfl, ?_⟩
        repeat walk_at "v"
        refine eq_int ⟨_, rfl, fun e3 => ?_, fun e3 => ?_⟩
        · refine wd_set 0 rfl rfl ?_
          repeat walk_at "v"
          refine ⟨_, rfl, ?_⟩
          repeat walk_at "v"
          refine ⟨2, rfl, by decide, fun z => absurd z (by decide), rfl, fun z e => by cases e; exact q1, ?_⟩
          refine wd_set 0 rfl rfl (we_add (we_dix (i := 0) rfl rfl ?_))
          repeat walk_at "v"
          refine ⟨0, j1, rfl, rfl, ?_⟩
          repeat walk_at "v"
          refine ⟨_, _, rfl, rfl, _, rfl, ?_⟩
          repeat walk_at "v"
          refine ⟨0, rfl, by decide, fun _ => by omega, rfl, fun z e => by cases e; exact q1, ?_⟩
          refine wd_nil (wd_ws (ws_ret ?_))
          repeat walk_at "v"
          exact md r
        · refine wd_nil (wd_ws (ws_ret ?_))
          repeat walk_at "v"
          exact md r
      · refine wd_nil ?_
        refine wd_set 0 rfl rfl (we_add (we_dix (i := 0) rfl rfl ?_)) (hfl := by
          show ([some (.val (.own 3)), some (.val (.int n)), o, none, none] : Rho).all flatSv = true
          rcases ho with rfl | ⟨x, rfl⟩ <;> rfl)
        repeat walk_at "v"
        refine ⟨3, j4, rfl, rfl, ?_⟩
        repeat walk_at "v"
        refine ⟨_, _, rfl, rfl, _, rfl, ?_⟩
        repeat walk_at "v"
        refine ⟨3, rfl, by decide, fun z => absurd z (by decide), rfl, fun z e => by cases e; exact q1, ?_⟩
        refine wd_ws (ws_ret (we_mod (we_int1 nb (we_call d1 hr ?_))))
        refine we_dix (i := 0) rfl rfl ?_
        repeat walk_at "v"
        refine ⟨4, _, rfl, rfl, ?_⟩
        refine we_add (we_dix (i := 0) rfl rfl ?_)
        repeat walk_at "v"
        refine ⟨3, _, rfl, rfl, ?_⟩
        repeat walk_at "v"
        refine ⟨_, _, rfl, rfl, _, _, rfl, fun r => ⟨r, rfl, ?_⟩⟩
        repeat walk_at "v"
        exact ⟨_, _, rfl, rfl, by omega, md r⟩
  refine wd_nil ?_
  have skip : ∀ js', js' = [i1, i2, i3, i4, i5] → WD (cyOf P w K mg base ["_law_draw_here", "_law_many", "_law_cell", "_law_digit", "_law_found"] "_law_pick" (defScope s_pick) f cdv A outer s H E W (fun _ => False)) hk js' ((defBody s_pick).drop 2)
        [some (.val (.own 3)), some (.val (.int n)), none, none, none] (fun _ _ => False) (fun _ d => ∃ r : Int, d = .int r ∧ 0 ≤ r ∧ (r < n ∨ (n < 2 ∧ r = 0))) := fun js' h => h ▸ tail i1 i2 i3 i4 i5 none (.inl rfl) p1
  refine wd_if (wt_wp (wp_and (wt_eq (we_dix (i := 0) rfl rfl ?_))))
  repeat walk_at "v"
  refine ⟨1, i2, rfl, rfl, ?_⟩
  repeat walk_at "v"
  refine eq_int ⟨_, rfl, fun e1 => ?_, fun e1 => ⟨fun z => Bool.noConfusion z, fun _ => wd_nil (skip _ rfl)⟩⟩
  refine wp_and (wt_lt (we_dix (i := 0) rfl rfl ?_))
  repeat walk_at "v"
  refine ⟨0, i1, rfl, rfl, ?_⟩
  refine we_dlen (i := 0) nb rfl rfl ?_
  repeat walk_at "v"
  refine ⟨rfl, _, _, rfl, rfl, _, rfl, fun e2 => ?_, fun e2 => ⟨fun z => Bool.noConfusion z, fun _ => wd_nil (skip _ rfl)⟩⟩
  have lt : i1 < (W.ns.length : Int) := of_decide_eq_true e2
  have nsk := List.getElem?_eq_getElem (show i1.toNat < W.ns.length by omega)
  refine wp_and1 (wt_eq (we_dix (i := 0) rfl rfl ?_))
  repeat walk_at "v"
  refine ⟨2, i3, rfl, rfl, ?_⟩
  repeat walk_at "v"
  refine eq_int ⟨_, rfl, fun e3 => ?_, fun e3 => wd_nil (skip _ rfl)⟩
  refine wd_ws (ws_set 2 hN rfl (we_dcell (i := 0) rfl rfl ?_))
  repeat walk_at "v"
  refine ⟨rfl, we_dix (i := 0) rfl rfl ?_⟩
  repeat walk_at "v"
  refine ⟨0, i1, rfl, rfl, i1.toNat, _, by rw [Int.toNat_of_nonneg p1], nsk, ?_⟩
  generalize W.ns[i1.toNat]'(by omega) = cell
  have big : ∀ js' ρ', js' = [i1, i2, i3, i4, i5] → ρ' = ([some (.val (.own 3)), some (.val (.int n)), some (.val (.int cell)), none, none] : Rho) → True := fun _ _ _ _ => trivial
  have no : WD (cyOf P w K mg base ["_law_draw_here", "_law_many", "_law_cell", "_law_digit", "_law_found"] "_law_pick" (defScope s_pick) f cdv A outer s H E W (fun _ => False)) hk [i1, i2, i3, i4, i5] ((defBody s_pick).drop 2)
        [some (.val (.own 3)), some (.val (.int n)), some (.val (.int cell)), none, none] (fun _ _ => False) (fun _ d => ∃ r : Int, d = .int r ∧ 0 ≤ r ∧ (r < n ∨ (n < 2 ∧ r = 0))) := tail i1 i2 i3 i4 i5 _ (.inr ⟨cell, rfl⟩) p1
  have yes : ∀ j2 : Int, WD (cyOf P w K mg base ["_law_draw_here", "_law_many", "_law_cell", "_law_digit", "_law_found"] "_law_pick" (defScope s_pick) f cdv A outer s H E W (fun _ => False)) hk [i1 + 1, j2, i3, i4, i5] ((defBody s_pick).drop 2)
        [some (.val (.own 3)), some (.val (.int n)), some (.val (.int cell)), none, none] (fun _ _ => False) (fun _ d => ∃ r : Int, d = .int r ∧ 0 ≤ r ∧ (r < n ∨ (n < 2 ∧ r = 0))) := fun j2 => tail (i1 + 1) j2 i3 i4 i5 _ (.inr ⟨cell, rfl⟩) (by omega)
  refine wd_if (wt_wp (wp_or (wt_ge ?_)))
  repeat walk_at "v"
  refine ⟨_, _, rfl, rfl, ⟨by decide, by decide, by decide⟩, ?_⟩
  have body : WD (cyOf P w K mg base ["_law_draw_here", "_law_many", "_law_cell", "_law_digit", "_law_found"] "_law_pick" (defScope s_pick) f cdv A outer s H E W (fun _ => False)) hk [i1, i2, i3, i4, i5] (ifBody (ifBody (defBody s_pick)[1]!)[1]!)
      [some (.val (.own 3)), some (.val (.int n)), some (.val (.int cell)), none, none] (fun js' ρ' => ∃ j2, js' = [i1 + 1, j2, i3, i4, i5] ∧ ρ' = [some (.val (.own 3)), some (.val (.int n)), some (.val (.int cell)), none, none]) (fun _ d => ∃ r : Int, d = .int r ∧ 0 ≤ r ∧ (r < n ∨ (n < 2 ∧ r = 0))) := by
    refine wd_set 0 rfl rfl (we_mod (we_int1 nb (we_abs nb ?_)))
    repeat walk_at "v"
    refine ⟨_, rfl, _, rfl, ?_⟩
    refine we_powW (we_pow ?_)
    repeat walk_at "v"
    refine ⟨_, _, rfl, rfl, ⟨by decide, by decide, by decide⟩, ?_⟩
    repeat walk_at "v"
    refine ⟨_, _, rfl, rfl, ⟨by decide, by decide +kernel⟩, _, _, rfl, rfl, by decide +kernel, _, rfl, ?_⟩
    repeat walk_at "v"
    refine ⟨1, rfl, by decide, fun z => absurd z (by decide), rfl, fun z e => by cases e; exact p1, ?_⟩
    refine wd_set 0 rfl rfl (we_add (we_dix (i := 0) rfl rfl ?_))
    repeat walk_at "v"
    refine ⟨0, i1, rfl, rfl, ?_⟩
    repeat walk_at "v"
    refine ⟨_, _, rfl, rfl, _, rfl, ?_⟩
    repeat walk_at "v"
    refine ⟨0, rfl, by decide, fun _ => by omega, rfl, fun z e => by cases e; exact p1, ?_⟩
    exact wd_nil ⟨_, rfl, rfl⟩
  have done : ∀ js' ρ', (∃ j2, js' = [i1 + 1, j2, i3, i4, i5] ∧ ρ' = ([some (.val (.own 3)), some (.val (.int n)), some (.val (.int cell)), none, none] : Rho)) → WD (cyOf P w K mg base ["_law_draw_here", "_law_many", "_law_cell", "_law_digit", "_law_found"] "_law_pick" (defScope s_pick) f cdv A outer s H E W (fun _ => False)) hk js' ((defBody s_pick).drop 2) ρ' (fun _ _ => False) (fun _ d => ∃ r : Int, d = .int r ∧ 0 ≤ r ∧ (r < n ∨ (n < 2 ∧ r = 0))) := fun js' ρ' ⟨j2, h1, h2⟩ => h1 ▸ h2 ▸ yes j2
  refine ⟨_, _, rfl, rfl, _, rfl, fun _ => ⟨fun _ => wd_mono body fun js' ρ' h => wd_nil (done js' ρ' h), fun z => Bool.noConfusion z⟩, fun _ => ?_⟩
  refine wp_or1 (wt_le ?_)
  repeat walk_at "v"
  refine ⟨_, _, rfl, rfl, ⟨by decide, by decide, by decide⟩, _, rfl, ?_⟩
  refine ⟨_, _, rfl, rfl, _, rfl, fun _ => wd_mono body fun js' ρ' h => wd_nil (done js' ρ' h), fun _ => wd_nil (wd_nil no)⟩
end
section
set_option maxHeartbeats 4000000
open PySem PySem.Spec PyProof.Rows L2 Vl
variable {cls : Nat → Addr} {P : Program} {w : World} {K : PySem.W.Frag} {mg : Str → Option Value} {base : Heap}
abbrev s_handed : Stmt := top 35
theorem sc_handed : FnScope ["_law_draw_here", "_law_rows_here", "_law_kind", "_law_row"] ["_law_draw_here", "_law_rows_here"] (defScope s_handed) := ⟨rfl, rfl, rfl, by decide +kernel, rfl, by decide +kernel, by decide +kernel⟩
theorem atom_lf {d : D} (h : atomD d = true) : Lf d := by
  cases d <;> first | exact Bool.noConfusion h | exact .non | exact .bl _ | exact .int _ | exact .str _
/-! ### _law_listed: its lists are new -/
def ff_listed (n : Nat) : FF := fun ds rt => ∃ d, ds = [d] ∧ okD n d ∧ rt (listed d)
theorem ok_listedF {f : Addr} {fd : FuncData} (nb : NB mg) (F : Fun K "_law_listed" "_law_listed" s_listed f fd) (hm : mg "_law_listed" = some (.ref f)) (hb : Binds K fd ["_law_thing"] []) : ∀ n, FnOk P w K mg base (L2N.CX P w) (n + 1) f fd ["_law_thing"] (spF cls (ff_listed n)) := by
  intro n
  induction n using Nat.strongRecOn with
  | _ n ih =>
    refine def_okF F sc_listed (fun ds rt h => ?_) (fun cdv A outer s H E W R ds rt hr h => ?_)
    · obtain ⟨d, rfl, _⟩ := h
      rfl
    · obtain ⟨d, rfl, hd, k⟩ := h
      have hN := sc_listed.nd
      rcases okD_cases hd with ⟨ha, t1, t2⟩ | ⟨m, xs, rfl, hx, hl, hxs⟩
      · refine wsf_if (wt_wp (wp_or (wt_val ?_)))
        repeat walk_at "v"
        refine ⟨okD_dat hd, _, rfl, fun e => ?_, fun e => ?_⟩
        · rw [t1] at e; exact Bool.noConfusion e
        · refine wp_or1 (wt_val ?_)
          repeat walk_at "v"
          refine ⟨okD_dat hd, _, rfl, fun e => ?_, fun e => ?_⟩
          · rw [t2] at e; exact Bool.noConfusion e
          · refine wsf_ret (wf_flat ?_)
            repeat walk_at "v"
            rw [show listed d = d from remk_atom ha] at k
            exact ⟨atom_lf ha, k⟩
      · have dn : DfF P w K mg base cls "_law_listed" (m + 1) ["_law_thing"] (ff_listed m) := ⟨f, fd, ih m (Nat.lt_succ_self m), hm, F.kp, hb⟩
        rcases hx with hx | hx <;> subst hx
        · refine wsf_if (wt_wp (wp_or (wt_val ?_)))
          repeat walk_at "v"
          refine ⟨rfl, _, rfl, fun e => Bool.noConfusion e, fun e => ?_⟩
          refine wp_or1 (wt_val ?_)
          repeat walk_at "v"
          refine ⟨rfl, _, rfl, fun e => ?_, fun e => Bool.noConfusion e⟩
          refine wf_lc 1 hN (wi_list ?_)
          repeat walk_at "v"
          refine ⟨xs, rfl, hl, fun i x y => y = listed x, fun i x hi => fun s0 H0 C cl fp => ?_, fun acc e1 e2 => ?_⟩
          · refine wf_call dn hr ?_
            walk_at "v"
            exact ⟨x, rfl, hxs x (List.mem_of_getElem? hi), rfl⟩
          · rw [listed_lst] at k
            rw [acc_map e1 e2]
            exact k
        · refine wsf_if (wt_wp (wp_or (wt_val ?_)))
          repeat walk_at "v"
          refine ⟨rfl, _, rfl, fun e => ⟨fun _ => ?_, fun z => Bool.noConfusion z⟩, fun e => Bool.noConfusion e⟩
          refine wf_lc 1 hN (wi_tup ?_)
          repeat walk_at "v"
          refine ⟨xs, rfl, hl, fun i x y => y = listed x, fun i x hi => fun s0 H0 C cl fp => ?_, fun acc e1 e2 => ?_⟩
          · refine wf_call dn hr ?_
            walk_at "v"
            exact ⟨x, rfl, hxs x (List.mem_of_getElem? hi), rfl⟩
          · rw [listed_tup] at k
            rw [acc_map e1 e2]
            exact k
/-! ### _law_handed -/
def smallRows (rows : List Row) : Prop := rows.length ≤ 1000 ∧ ∀ r ∈ rows, r.2.2.length ≤ 1000
theorem listed_ints (ns : List Int) : (ns.map D.int).map listed = ns.map D.int := by
  rw [List.map_map]
  apply List.map_congr_left
  intro n _
  exact remk_atom rfl
theorem tupled_ints (ns : List Int) : (ns.map D.int).map tupled = ns.map D.int := by
  rw [List.map_map]
  apply List.map_congr_left
  intro n _
  exact remk_atom rfl
theorem listed_rowL (r : Row) : listed (rowL r) = rowL r := by
  unfold rowL
  rw [listed_lst]
  show D.lst [listed (.int r.1), listed (.int r.2.1), listed (.lst _)] = _
  rw [listed_lst, listed_ints, show listed (.int r.1) = .int r.1 from remk_atom rfl, show listed (.int r.2.1) = .int r.2.1 from remk_atom rfl]
theorem tupled_rowL (r : Row) : tupled (rowL r) = rowT r := by
  unfold rowL rowT
  rw [tupled_lst]
  show D.tup [tupled (.int r.1), tupled (.int r.2.1), tupled (.lst _)] = _
  rw [tupled_lst, tupled_ints, show tupled (.int r.1) = .int r.1 from remk_atom rfl, show tupled (.int r.2.1) = .int r.2.1 from remk_atom rfl]
abbrev rowsL (rows : List Row) : D := .lst (rows.map rowL)
abbrev rowsT (rows : List Row) : D := .tup (rows.map rowT)
theorem listed_rowsL (rows : List Row) : listed (rowsL rows) = rowsL rows := by
  unfold rowsL
  rw [listed_lst, List.map_map]
  congr 1
  apply List.map_congr_left
  intro r _
  exact listed_rowL r
theorem tupled_rowsL (rows : List Row) : tupled (rowsL rows) = rowsT rows := by
  unfold rowsL rowsT
  rw [tupled_lst, List.map_map]
  congr 1
  apply List.map_congr_left
  intro r _
  exact tupled_rowL r
theorem okD_rowL {rows : List Row} (s : smallRows rows) : ∀ r ∈ rows, okD 2 (rowL r) := fun r hr => by
  refine .inr ⟨_, .inl rfl, by show 3 ≤ _; omega, fun x hx => ?_⟩
  simp only [List.mem_cons, List.not_mem_nil, or_false] at hx
  rcases hx with rfl | rfl | rfl
  · exact okD_atom rfl
  · exact okD_atom rfl
  · exact .inr ⟨_, .inl rfl, by rw [List.length_map]; have := s.2 r hr; omega, okD_ints⟩
theorem okD_rowsL {rows : List Row} (s : smallRows rows) : okD 3 (rowsL rows) := by
  refine .inr ⟨_, .inl rfl, by rw [List.length_map]; have := s.1; omega, fun x hx => ?_⟩
  obtain ⟨r, hr, rfl⟩ := List.mem_map.mp hx
  exact okD_rowL s r hr
theorem lf_rowT (r : Row) : Lf (rowT r) := .tup fun d hd => by
  simp only [List.mem_cons, List.not_mem_nil, or_false] at hd
  rcases hd with rfl | rfl | rfl
  · exact .int _
  · exact .int _
  · exact .tup fun d hd => by obtain ⟨n, _, rfl⟩ := List.mem_map.mp hd; exact .int n
theorem lf_rowsT (rows : List Row) : Lf (rowsT rows) := .tup fun d hd => by obtain ⟨r, _, rfl⟩ := List.mem_map.mp hd; exact lf_rowT r
/-- rows as they may be handed over -/
def rowsAs (rows : List Row) (d : D) : Prop := okD 3 d ∧ tupled d = rowsT rows ∧ listed d = rowsL rows
theorem as_L {rows : List Row} (s : smallRows rows) : rowsAs rows (rowsL rows) := ⟨okD_rowsL s, tupled_rowsL rows, listed_rowsL rows⟩
theorem remk_remk (w1 w2 : Bool) : ∀ {n : Nat} {d : D}, okD n d → remk w1 (remk w2 d) = remk w1 d
  | 0, d, h => by rw [remk_atom (w := w2) h]
  | n + 1, d, h => by
    rcases h with h | ⟨xs, h, _, hx⟩
    · rw [remk_atom (w := w2) h]
    · have e : (xs.map (remk w2)).map (remk w1) = xs.map (remk w1) := by
        rw [List.map_map]
        apply List.map_congr_left
        intro x hm
        exact remk_remk w1 w2 (hx x hm)
      rcases h with h | h <;> subst h <;> cases w1 <;> cases w2 <;> simp only [tupled_lst, tupled_tup, listed_lst, listed_tup] <;> rw [e]
def ff_handed : FF := fun ds rt => ∃ rows, ds = [.own 1, rowsL rows] ∧ smallRows rows ∧ ∀ d, rowsAs rows d → rt d
theorem ok_handed {f : Addr} {fd : FuncData} (nb : NB mg) (d1 : Df P w K mg base cls "_law_pick" 2 ["_law_draw_here", "_law_many"] fs_pick) (d2 : Df P w K mg base cls "_law_tupled" 4 ["_law_thing"] (fs_tupled 3)) (d3 : DfF P w K mg base cls "_law_listed" 4 ["_law_thing"] (ff_listed 3))
    (d4 : DfF P w K mg base cls "_law_listed" 4 ["_law_thing"] (ff_listed 3)) (F : Fun K "_law_handed" "_law_handed" s_handed f fd) : FnOk P w K mg base (L2N.CX P w) 5 f fd ["_law_draw_here", "_law_rows_here"] (spF cls ff_handed) := by
  refine def_okF F sc_handed (fun ds rt h => ?_) (fun cdv A outer s H E W R ds rt hr h => ?_)
  · obtain ⟨_, rfl, _⟩ := h
    rfl
  · obtain ⟨rows, rfl, sr, k⟩ := h
    have hN := sc_handed.nd
    refine wsf_ws (ws_set 2 hN rfl (we_call d1 (hr.mono (by decide)) ?_))
    repeat walk_at "v"
    refine ⟨4, rfl, by decide, fun r r0 r1 => ?_⟩
    refine wsf_if (wt_eq ?_)
    repeat walk_at "v"
    refine eq_int ⟨_, rfl, fun e => ?_, fun e => ?_⟩
    · refine wf_flat (we_call d2 hr ?_)
      repeat walk_at "v"
      refine ⟨_, rfl, okD_rowsL sr, ?_⟩
      rw [tupled_rowsL]
      exact ⟨lf_rowsT rows, k _ ⟨by rw [← tupled_rowsL]; exact okD_remk (okD_rowsL sr), by rw [← tupled_rowsL]; exact remk_remk true true (okD_rowsL sr), by
        rw [← tupled_rowsL]
        exact (remk_remk false true (okD_rowsL sr)).trans (listed_rowsL rows)⟩⟩
    refine wsf_if (wt_eq ?_)
    repeat walk_at "v"
    refine eq_int ⟨_, rfl, fun e => ?_, fun e => ?_⟩
    · refine wf_call d3 hr ?_
      repeat walk_at "v"
      refine ⟨_, rfl, okD_rowsL sr, ?_⟩
      rw [listed_rowsL]
      exact k _ (as_L sr)
    refine wsf_if (wt_eq ?_)
    repeat walk_at "v"
    refine eq_int ⟨_, rfl, fun e => ?_, fun e => ?_⟩
    · refine wf_tupleOf nb (wf_lc 3 hN (wi_list ?_))
      repeat walk_at "v"
      refine ⟨_, rfl, by rw [List.length_map]; have := sr.1; omega, fun i x y => y = x, fun i x hi => fun s0 H0 C cl fp => ?_, fun acc e1 e2 => ⟨acc, rfl, ?_⟩⟩
      · rw [List.getElem?_map] at hi
        cases er : rows[i]? with
        | none => rw [er] at hi; cases hi
        | some rw' =>
          rw [er] at hi
          cases hi
          refine wf_call d4 hr ?_
          walk_at "v"
          exact ⟨_, rfl, okD_up (okD_rowL sr rw' (List.mem_of_getElem? er)), listed_rowL rw'⟩
      · rw [acc_map (g := id) e1 (fun i d y h1 h2 => e2 i d y h1 h2), List.map_id]
        refine k _ ⟨.inr ⟨_, .inr rfl, by rw [List.length_map]; have := sr.1; omega, fun x hx => ?_⟩, ?_, ?_⟩
        · obtain ⟨r, hr, rfl⟩ := List.mem_map.mp hx
          exact okD_rowL sr r hr
        · rw [tupled_tup]
          have := tupled_rowsL rows
          unfold rowsL at this
          rw [tupled_lst] at this
          exact this
        · rw [listed_tup]
          have := listed_rowsL rows
          unfold rowsL at this
          rw [listed_lst] at this
          exact this
    · refine wsf_ret (wf_lc 3 hN (wi_list ?_))
      repeat walk_at "v"
      refine ⟨_, rfl, by rw [List.length_map]; have := sr.1; omega, fun i x y => ∃ r, rows[i]? = some r ∧ y = .tup [.int r.1, .int r.2.1, .lst (r.2.2.map D.int)], fun i x hi => fun s0 H0 C cl fp => ?_, fun acc e1 e2 => ?_⟩
      · rw [List.getElem?_map] at hi
        cases er : rows[i]? with
        | none => rw [er] at hi; cases hi
        | some r' =>
          rw [er] at hi
          cases hi
          refine wf_tup (show WFs _ _ [_, _, _] _ from ?_)
          refine wf_flat (we_ix ?_)
          repeat walk_at "v"
          refine ⟨_, _, rfl, item_lst (i := 0) rfl, .int _, ?_⟩
          refine wf_flat (we_ix ?_)
          repeat walk_at "v"
          refine ⟨_, _, rfl, item_lst (i := 1) rfl, .int _, ?_⟩
          refine wf_call d4 hr ?_
          refine we_ix ?_
          repeat walk_at "v"
          refine ⟨_, _, rfl, item_lst (i := 2) rfl, _, rfl, okD_up (okD_up (.inr ⟨_, .inl rfl, ?_, okD_ints⟩)), ?_⟩
          · rw [List.length_map]
            have := sr.2 r' (List.mem_of_getElem? er)
            omega
          · rw [listed_lst, listed_ints]
            exact ⟨r', er, rfl⟩
      · have ea : acc = rows.map fun r => .tup [.int r.1, .int r.2.1, .lst (r.2.2.map D.int)] := by
          rw [List.length_map] at e1
          apply List.ext_getElem?
          intro j
          rw [List.getElem?_map]
          cases er : rows[j]? with
          | none =>
            have := List.getElem?_eq_none_iff.mp er
            rw [List.getElem?_eq_none (by omega)]
            rfl
          | some r =>
            have hj : j < acc.length := by
              have := (List.getElem?_eq_some_iff.mp er).1
              omega
            obtain ⟨r', e3, e4⟩ := e2 j (rowL r) _ (by rw [List.getElem?_map, er]; rfl) (List.getElem?_eq_getElem hj)
            rw [er] at e3
            cases e3
            rw [List.getElem?_eq_getElem hj, e4]
            rfl
        rw [ea]
        have t1 : ∀ r : Row, tupled (.tup [.int r.1, .int r.2.1, .lst (r.2.2.map D.int)]) = rowT r := fun r => by
          have := tupled_rowL r
          unfold rowL at this
          rw [tupled_lst] at this
          rw [tupled_tup]
          exact this
        have t2 : ∀ r : Row, listed (.tup [.int r.1, .int r.2.1, .lst (r.2.2.map D.int)]) = rowL r := fun r => by
          have := listed_rowL r
          unfold rowL at this
          rw [listed_lst] at this
          rw [listed_tup]
          exact this
        refine k _ ⟨.inr ⟨_, .inl rfl, by rw [List.length_map]; have := sr.1; omega, fun x hx => ?_⟩, ?_, ?_⟩
        · obtain ⟨r, hr, rfl⟩ := List.mem_map.mp hx
          have := okD_rowL sr r hr
          rcases this with h | ⟨ys, h | h, h2, h3⟩
          · exact Bool.noConfusion h
          · cases h
            exact .inr ⟨_, .inr rfl, h2, h3⟩
          · cases h
        · rw [tupled_lst, List.map_map]
          unfold rowsT
          congr 1
          apply List.map_congr_left
          intro r _
          exact t1 r
        · rw [listed_lst, List.map_map]
          unfold rowsL
          congr 1
          apply List.map_congr_left
          intro r _
          exact t2 r
end
section
set_option maxHeartbeats 4000000
open PySem PySem.Spec PyProof.Rows L2 Vl
variable {cls : Nat → Addr} {P : Program} {w : World} {K : PySem.W.Frag} {mg : Str → Option Value} {base : Heap}
abbrev s_spoil : Stmt := top 36
theorem sc_spoil : FnScope ["_law_thing", "_law_part"] ["_law_thing"] (defScope s_spoil) := ⟨rfl, rfl, rfl, by decide +kernel, rfl, by decide +kernel, by decide +kernel⟩
section
variable {X : Cx}
theorem pe_spoilX {x y : Str} {pp npos pos : Pos} {k n j : Nat} (D0 : DSp X.prog X.w X.K X.mg X.base x k n) (hr : Room k X.A) (hN : X.N[j]? = some y) (hg : Gl X x := by rfl) (hv : Vis X.env.scope y := by first | exact Or.inl rfl | exact Or.inr (Or.inl rfl) | exact Or.inr (Or.inr rfl)) (hd : (y == ("__debug__" : Str)) = false := by decide) (hcd : (y == ("__classdict__" : Str)) = false := by decide) (hdb : (x == ("__debug__" : Str)) = false := by decide)
    (he : starEach [.Name y npos] X.env = (false, eval (.Name y npos) X.env) :: starEach [] X.env := by rfl) (hpl : (backTo pos (starEach [] X.env)).any (·.1) = false := by rfl) :
    PE X (.Call (.Name x pp) [.Name y npos] [] pos) (fun σ H Q => ∃ v, σ[j]? = some (some v) ∧ spSpoil n [v] H Q E0) := ⟨fun pins s σ H Q I ⟨v, hs, sp⟩ => by
  obtain ⟨f, fd, yy, F, hm, hk, hb⟩ := D0.ex
  refine wpAny_Call_Name_kw (ld_glob I hg hm ?_ hdb)
  have args : PA X [.Name y npos] (tCons (tVar j) tNil) := pa_cons (pe_var hN hv hd hcd) pa_nil he
  refine PySem.W.callWith_K (h₀ := X.base) I.ok.mod.kin hk (thn (args.run pos pins s σ H (fun vs H1 => spSpoil n vs H1 Q E0) I ⟨v, hs, sp⟩) fun us s1 ⟨vs, H1, I1, rv, sp1⟩ => ⟨I1.kIn, ?_⟩) he hpl
  exact run_fnS (E := fun _ => E0) F hr hb passAll I1 rv sp1⟩
def tIs (K : PySem.W.Frag) (n : String) : TT := tB (tCB (rIsi K) (tCons (tVar 0) (tCons (tC (.ty n)) tNil)))
theorem is_read {T F : Addr → Prop} {H : Hp} {σ : L2.St} {v : V} {d : D} {m : Nat} {n : String} {Q : Bool → Hp → Prop} (hn : n = "int" ∨ n = "bool" ∨ n = "str" ∨ n = "list" ∨ n = "tuple") (hs : σ[0]? = some (some v)) (hd : okD m d) (q : Mq T H F v d) (h : Q (isA n d) H) : tIs K n σ H Q := by
  have ty : TyX K H v (.type (tagT d)) := by
    cases q with
    | non => exact .base .non
    | bl b => exact .base (.bl b)
    | int i => exact .base (.int i)
    | str x => exact .base (.str x)
    | lst _ e _ _ => exact .base (.lst e)
    | tup _ e _ => exact .base (.tup e)
  exact ⟨v, hs, v, .ty n, _, _, _, rfl, .ty n, ty, kit_dat (okD_dat hd) hn, _, rfl, h⟩
/-- .. of a list whose items are not known -/
theorem is_list {H : Hp} {σ : L2.St} {a : Addr} {vs : List V} {Q : Bool → Hp → Prop} (hs : σ[0]? = some (some (.ref a))) (e : H a = some (.lst vs)) (h : Q true H) : tIs K "list" σ H Q :=
  ⟨_, hs, _, .ty "list", _, _, true, rfl, .ty _, .base (.lst e), by exact kit_ty (by decide +kernel), _, rfl, h⟩
theorem is_tup {H : Hp} {σ : L2.St} {a : Addr} {vs : List V} {Q : Bool → Hp → Prop} (hs : σ[0]? = some (some (.ref a))) (e : H a = some (.tup vs)) (h : Q false H) : tIs K "list" σ H Q :=
  ⟨_, hs, _, .ty "list", _, _, false, rfl, .ty _, .base (.tup e), by exact kit_ty (by decide +kernel), _, rfl, h⟩
theorem pt_is {n : String} {px pp pos np : Pos} (nb : NB X.mg) (hm : Str.ofString n ∈ bltNames) (hN : X.N[0]? = some ("_law_thing" : Str)) (hi : Gl X "isinstance") (hv : Vis X.env.scope "_law_thing") (hb : bootBuiltins (Str.ofString n) = some (.type n)) (hg : Gl X (Str.ofString n)) (hn : Str.ofString n ≠ "__name__") (hd : (Str.ofString n == ("__debug__" : Str)) = false)
    (he : starEach [.Name "_law_thing" px, .Name (Str.ofString n) np] X.env = (false, eval (.Name "_law_thing" px) X.env) :: starEach [.Name (Str.ofString n) np] X.env := by rfl) (he2 : starEach [.Name (Str.ofString n) np] X.env = (false, eval (.Name (Str.ofString n) np) X.env) :: starEach [] X.env := by rfl) (hpl : (backTo pos (starEach [.Name (Str.ofString n) np] X.env)).any (·.1) = false := by rfl) :
    PT X (.Call (.Name "isinstance" pp) [.Name "_law_thing" px, .Name (Str.ofString n) np] [] pos) (tIs X.K n) :=
  pt_val (pe_callB call_isi hi (nb _ (by decide)) (by decide +kernel) (pa_cons (pe_var hN hv) (pa_cons (pe_bltn (v := .ty n) hg (nb _ hm) hb rfl hn hd) pa_nil he2) he) (by decide) (by decide) he hpl)
end
/-- what spoiling does to the items, one by one -/
theorem spoil_items {T F : Addr → Prop} {H : Hp} {σ : L2.St} {a : Addr} {o : HO} {vs : List V} {ds : List D} {G : Addr → Prop} {m : Nat} {J : It} {GH : Hp → Prop} {D0 : Ends}
    (w : Walk J vs.length GH (fun i H x H' => H' = H ∧ vs[i]? = some x)) (hGH : ∀ H', H' a = some o → GH H') (hs : σ[0]? = some (some (.ref a))) (s2 : 2 ≤ σ.length) (ea : H a = some o) (q : MqL T H G vs ds) (hd : ∀ d ∈ ds, okD m d) (hG : ∀ b, G b → F b ∧ b ≠ a) (hT : ∀ b, T b → ¬ F b)
    (k : ∀ σ' H', σ'[0]? = some (some (.ref a)) → (∀ b, ¬ F b → H' b = H b) → H' a = some o → D0.nx σ' H') :
    ∃ W : Nat → Nat → L2.St → Hp → Prop, (∃ m, W 0 m σ H) ∧ ∀ i m' σ H, W i m' σ H →
      (J.stop i H ∧ D0.nx σ H) ∨ (J.go i H ∧ ∃ N : L2.St → Hp → Prop, (∀ σ' H', N σ' H' → ∃ m'', m'' < m' ∧ W (i + 1) m'' σ' H') ∧ ∀ x H', J.yld i H x H' → gName 1 x σ H' fun σ2 H2 => tDrop (fun σ H Q => ∃ v, σ[1]? = some (some v) ∧ spSpoil m [v] H Q E0) { D0 with nx := N, ct := N, bk := D0.nx } σ2 H2) := by
  refine for_it w (fun i σ' H' => (∀ b, ¬ F b → H' b = H b) ∧ σ'[0]? = some (some (.ref a)) ∧ 2 ≤ σ'.length ∧ H' a = some o ∧ ∃ G', MqL T H' G' (vs.drop i) (ds.drop i) ∧ ∀ b, G' b → F b ∧ b ≠ a) ⟨fun _ _ => rfl, hs, s2, ea, G, q, hG⟩ (fun i σ' H' _ h => hGH H' h.2.2.2.1) (fun i x σ' Hc H' hi ⟨h1, h2, h3, h4, G', q', hG'⟩ y => ?_) fun σ' H' ⟨h1, h2, h3, h4, _⟩ => k σ' H' h2 h1 h4
  obtain ⟨e1, e2⟩ := y
  subst e1
  have hl := q.length
  have hlt : i < ds.length := by omega
  have ev : vs.drop i = x :: vs.drop (i + 1) := by
    rw [List.drop_eq_getElem_cons hi]
    congr 1
    rw [List.getElem?_eq_getElem hi] at e2
    exact Option.some.inj e2
  have ed := List.drop_eq_getElem_cons hlt
  rw [ev, ed] at q'
  cases q' with
  | cons q1 r n1 n2 n3 =>
    rename_i F1 F2
    refine ⟨x, by show (σ'.set 1 (some x))[1]? = _; rw [List.getElem?_set_self (by omega)], x, _, F1, T, rfl, hd _ (List.getElem_mem hlt), q1, fun b t g => hT b t (hG' b (n1 b g)).1, fun H2 hH => ⟨fun b nb => ?_, by rw [List.getElem?_set_ne (by decide)]; exact h2, by rw [List.length_set]; exact h3, ?_, F2, r.off (G := F1) (fun b t g => hT b t (hG' b (n1 b g)).1) hH (fun b g g1 => n3 b g1 g), fun b g => hG' b (n2 b g)⟩⟩
    · rw [hH b fun g => nb (hG' b (n1 b g)).1, h1 b nb]
    · rw [hH a fun g => (hG' a (n1 a g)).2 rfl, h4]
theorem ps_nv {X : Cx} {st : List Stmt} : PSs X st tNever := ⟨fun _ _ _ _ _ _ h => h.elim⟩
theorem ok_spoil {f : Addr} {fd : FuncData} (nb : NB mg) (F : Fun K "_law_spoil" "_law_spoil" s_spoil f fd) (hm : mg "_law_spoil" = some (.ref f)) (hb : Binds K fd ["_law_thing"] []) : ∀ n, FnOk P w K mg base (L2N.CX P w) (n + 1) f fd ["_law_thing"] (spSpoil n) := by
  intro n
  induction n using Nat.strongRecOn with
  | _ n ih =>
    refine okN F sc_spoil (fun vs H Q E h => by obtain ⟨v, d, F, T, rfl, _⟩ := h; rfl) (fun cdv A outer s H vs Q E hr h => ?_)
    obtain ⟨v, d, FF, T, rfl, hd, q, hT, k⟩ := h
    have hN := sc_spoil.nd
    rcases okD_cases hd with ⟨ha, t1, t2⟩ | ⟨m, xs, rfl, hx, hl, hxs⟩
    · refine ⟨_, pss_cons (ps_if (PW.pt (pw_or (pt_is (n := "list") nb (by decide) (by rfl) (by rfl) (by exact .inl rfl) (by decide +kernel) (by rfl) (by decide) (by decide)) (pw_or1 (pt_is (n := "tuple") nb (by decide) (by rfl) (by rfl) (by exact .inl rfl) (by decide +kernel) (by rfl) (by decide) (by decide))))) ps_nv pss_nil) (pss_one (ps_if (pt_is (n := "list") nb (by decide) (by rfl) (by rfl) (by exact .inl rfl) (by decide +kernel) (by rfl) (by decide) (by decide)) ps_nv pss_nil)), ?_⟩
      refine is_read (by decide) rfl hd q ?_
      rw [t2]
      refine is_read (by decide) rfl hd q ?_
      rw [t1]
      refine is_read (by decide) rfl hd q ?_
      rw [t2]
      exact k H fun _ _ => rfl
    · have dn : DSp P w K mg base "_law_spoil" (m + 1) m := ⟨f, fd, _, ih m (Nat.lt_succ_self m), hm, F.kp, hb⟩
      rcases hx with hx | hx <;> subst hx
      · obtain ⟨a, us, G, rfl, fa, ea, qL, nG⟩ := q.lst_inv
        refine ⟨_, pss_cons (ps_if (PW.pt (pw_or (pt_is (n := "list") nb (by decide) (by rfl) (by rfl) (by exact .inl rfl) (by decide +kernel) (by rfl) (by decide) (by decide)) (pw_or1 (pt_is (n := "tuple") nb (by decide) (by rfl) (by rfl) (by exact .inl rfl) (by decide +kernel) (by rfl) (by decide) (by decide)))))
          (pss_one (ps_for (passes_of rfl) rfl (pi_list (pe_var (i := 0) rfl (.inl rfl))) (pg_name (i := 1) hN rfl (.inl rfl)) (pss_one (ps_expr (pe_spoilX (j := 1) dn hr rfl) rfl)))) pss_nil)
          (pss_one (ps_if (pt_is (n := "list") nb (by decide) (by rfl) (by rfl) (by exact .inl rfl) (by decide +kernel) (by rfl) (by decide) (by decide))
            (pss_cons (ps_expr (pe_bm PySem.F.plainAttrs_list PySem.F.slot_list_append PySem.F.type_list_append mt_append (pe_var (i := 0) rfl (.inl rfl)) (pa_cons pe_int pa_nil)) rfl) (pss_one (ps_asg pe_int (pg_sub (pe_var (i := 0) rfl (.inl rfl)) pe_int set_list (fun _ => rfl)) rfl rfl rfl))) pss_nil)), ?_⟩
        refine is_read (d := .lst xs) (m := m + 1) (by decide) rfl hd q ?_
        refine ⟨.ref a, rfl, a, rfl, ⟨us, sq_l ea⟩, ?_⟩
        refine spoil_items (F := FF) (m := m) walk_list (fun H' e => sq_l e) rfl (by simp [L2.start]) ea qL hxs nG hT fun σ' H' hs h1 h2 => ?_
        refine is_list hs h2 ?_
        refine ⟨_, hs, .inl ⟨rfl, _, .inl (.inl h2)⟩, ?_⟩
        refine ⟨a, us, .int 1, rfl, rfl, h2, by rw [qL.length, sizeLine_eq]; omega, ?_⟩
        refine ⟨.ref a, hs, a, us ++ [.int 1], 0, 0, rfl, rfl, upd_same, ixN_nat (i := 0) (by simp), ?_⟩
        refine k _ fun b nb => ?_
        have hb : b ≠ a := fun z => nb (z ▸ fa)
        rw [upd_ne hb, upd_ne hb]
        exact h1 b nb
      · cases q with
        | tup ta ea qL =>
          rename_i a us
          refine ⟨_, pss_cons (ps_if (PW.pt (pw_or (pt_is (n := "list") nb (by decide) (by rfl) (by rfl) (by exact .inl rfl) (by decide +kernel) (by rfl) (by decide) (by decide)) (pw_or1 (pt_is (n := "tuple") nb (by decide) (by rfl) (by rfl) (by exact .inl rfl) (by decide +kernel) (by rfl) (by decide) (by decide)))))
            (pss_one (ps_for (passes_of rfl) rfl (pi_tup (pe_var (i := 0) rfl (.inl rfl))) (pg_name (i := 1) hN rfl (.inl rfl)) (pss_one (ps_expr (pe_spoilX (j := 1) dn hr rfl) rfl)))) pss_nil)
            (pss_one (ps_if (pt_is (n := "list") nb (by decide) (by rfl) (by rfl) (by exact .inl rfl) (by decide +kernel) (by rfl) (by decide) (by decide)) ps_nv pss_nil)), ?_⟩
          refine is_tup rfl ea ?_
          refine is_read (d := .tup xs) (m := m + 1) (T := T) (F := FF) (by decide) rfl hd (.tup ta ea qL) ?_
          refine ⟨.ref a, rfl, a, rfl, ⟨us, sq_t ea⟩, ?_⟩
          refine spoil_items (F := FF) (m := m) walk_tup (fun H' e => sq_t e) rfl (by simp [L2.start]) ea qL hxs (fun b g => ⟨g, fun z => hT b (z ▸ ta) g⟩) hT fun σ' H' hs h1 h2 => ?_
          refine is_tup hs h2 ?_
          exact k _ h1
end
section
set_option maxHeartbeats 8000000
open PySem PySem.Spec PyProof.Rows L2 Vl
variable {cls : Nat → Addr} {P : Program} {w : World} {K : PySem.W.Frag} {mg : Str → Option Value} {base : Heap}
abbrev s_rows : Stmt := top 34
theorem sc_rows : FnScope ["_law_draw_here", "_law_words_here", "_law_many", "_law_kind", "_law_rows_here", "_law_number", "_law_nexts", "_law_sign"] ["_law_draw_here", "_law_words_here", "_law_many"] (defScope s_rows) := ⟨rfl, rfl, rfl, by decide +kernel, rfl, by decide +kernel, by decide +kernel⟩
def forBody : Stmt → List Stmt
  | .For _ _ b _ _ => b
  | _ => []
/-- rows of a drill as the law makes them -/
def madeRows (z : Str) (m : Nat) (rows : List Row) : Prop := rows.length = m ∧ (∀ r ∈ rows, rowOk (z.length + 1) m r) ∧ ∃ r, rows[0]? = some r ∧ r.1 = 0 ∧ r.2.2[0]? = some 0
theorem row_set {rows : List Row} {k : Nat} {r : Row} {n : Int} (hr : rows[k]? = some r) : (rows.map rowL).set k (.lst ([.int r.1, .int r.2.1, .lst (r.2.2.map D.int)].set 2 (.lst ((r.2.2.map D.int).set 0 (.int n))))) = (rows.set k (r.1, r.2.1, r.2.2.set 0 n)).map rowL := by
  rw [List.map_set]
  congr 1
  show D.lst [.int r.1, .int r.2.1, .lst ((r.2.2.map D.int).set 0 (.int n))] = rowL _
  unfold rowL
  rw [List.map_set]
theorem row_set0 {rows : List Row} {k : Nat} {r : Row} {n : Int} (hr : rows[k]? = some r) : (rows.map rowL).set k (.lst ([.int r.1, .int r.2.1, .lst (r.2.2.map D.int)].set 0 (.int n))) = (rows.set k (n, r.2.1, r.2.2)).map rowL := by
  rw [List.map_set]
  rfl
theorem mem_set' {α : Type} {l : List α} {k : Nat} {a x : α} (h : x ∈ l.set k a) : x = a ∨ x ∈ l := by
  rcases List.mem_or_eq_of_mem_set h with h | h
  · exact .inr h
  · exact .inl h
theorem ints_acc {acc : List D} {P : Int → Prop} (h : ∀ (i : Nat) y, acc[i]? = some y → ∃ n, y = .int n ∧ P n) : ∃ ns : List Int, acc = ns.map D.int ∧ ∀ n ∈ ns, P n := by
  induction acc with
  | nil => exact ⟨[], rfl, fun n h => by simp at h⟩
  | cons x acc ih =>
    obtain ⟨ns, e, hn⟩ := ih fun i y hy => h (i + 1) y (by simpa using hy)
    obtain ⟨n, en, hp⟩ := h 0 x rfl
    refine ⟨n :: ns, by rw [e, en]; rfl, fun m hm => ?_⟩
    rcases List.mem_cons.mp hm with z | z
    · rw [z]; exact hp
    · exact hn m z
@[irreducible] def fs_rows : FS := fun ds rt _ => ∃ (z : Str) (m : Nat), ds = [.own 1, .str z, .int (m : Nat)] ∧ z.length ≤ 1000 ∧ 1 ≤ m ∧ m ≤ 6 ∧ ∀ rows, madeRows z m rows → rt (rowsL rows)
theorem ok_rows {f : Addr} {fd : FuncData} (nb : NB mg) (d1 : Df P w K mg base cls "_law_pick" 2 ["_law_draw_here", "_law_many"] fs_pick) (F : Fun K "_law_rows" "_law_rows" s_rows f fd) : FnOk P w K mg base (L2N.CX P w) 3 f fd ["_law_draw_here", "_law_words_here", "_law_many"] (spOf cls fs_rows) := by
  refine def_ok F sc_rows (fun ds rt ex h => ?_) (fun cdv A outer s H E W R ds rt ex hr h => ?_)
  · unfold fs_rows at h
    obtain ⟨_, _, rfl, _⟩ := h
    rfl
  · unfold fs_rows at h
    obtain ⟨z, m, rfl, hz, m1, m6, k⟩ := h
    have hN := sc_rows.nd
    refine wss_cons (ws_set 3 hN rfl (we_call d1 hr ?_))
    repeat walk_at "v"
    refine ⟨3, rfl, by decide, fun kd k0 k1 => ?_⟩
    refine wx_begin0 4 hN rfl (by simp [rho0]) ?_
    refine wx_for 5 hN rfl rfl (wi_range1 (nb _ (by decide)) ?_)
    repeat walk_at "v"
    refine ⟨_, rfl, by omega, by omega, fun i d ρ' => ∃ (rows : List Row) (o5 o6 o7 : Option Sv), d = .lst (rows.map rowL) ∧ rows.length = i ∧ (∀ r ∈ rows, rowOk (z.length + 1) m r) ∧ ρ' = [some (.val (.own 1)), some (.val (.str z)), some (.val (.int (m : Nat))), some (.val (.int kd)), none, o5, o6, o7], ⟨[], none, none, none, rfl, rfl, fun r h => by simp at h, rfl⟩, fun i y d' ρ' hi hI => ?_, fun d' ρ' hI => ?_⟩
    · obtain ⟨hlt, rfl⟩ := rangeD_get hi
      obtain ⟨rows, o5, o6, o7, rfl, hl, hg, rfl⟩ := hI
      have him : i < m := by simpa using hlt
      have tail : ∀ ns : List Int, ns.length = z.length + 1 → (∀ n ∈ ns, 0 ≤ n ∧ n < m) → ∀ o7', Vl.WX (cyOf P w K mg base ["_law_draw_here", "_law_words_here", "_law_many", "_law_kind", "_law_rows_here", "_law_number", "_law_nexts", "_law_sign"] "_law_rows" (defScope s_rows) f cdv A outer s H E W R) 4 (.lst (rows.map rowL))
          ((forBody ((defBody s_rows).getD 2 (.Pass ⟨0, 0, 0, 0⟩))).drop 2) [some (.val (.own 1)), some (.val (.str z)), some (.val (.int (m : Nat))), some (.val (.int kd)), none, some (.val (.int (0 + (i : Nat)))), some (.lst (ns.map D.int)), o7']
          (fun d ρ' => ∃ (rows : List Row) (o5 o6 o7 : Option Sv), d = .lst (rows.map rowL) ∧ rows.length = i + 1 ∧ (∀ r ∈ rows, rowOk (z.length + 1) m r) ∧ ρ' = [some (.val (.own 1)), some (.val (.str z)), some (.val (.int (m : Nat))), some (.val (.int kd)), none, o5, o6, o7])
          { nx := fun _ => False, rt := fun _ => rt, ex := fun _ => ex } := by
        intro ns hns hb o7'
        refine wx_app 6 rfl rfl rfl (by rw [List.length_map, hl, sizeLine_eq]; omega) (we_sub (we_call d1 hr ?_))
        repeat walk_at "v"
        refine ⟨7, rfl, by decide, fun a a0 a1 => ?_⟩
        repeat walk_at "v"
        refine ⟨_, _, rfl, rfl, _, rfl, ?_⟩
        refine we_add ?_
        repeat walk_at "v"
        refine we_call d1 hr ?_
        repeat walk_at "v"
        refine ⟨12, rfl, by decide, fun b b0 b1 => ⟨_, _, rfl, rfl, _, rfl, wx_nil ?_⟩⟩
        refine ⟨rows ++ [(a - 3, 1 + b, ns)], _, none, _, by rw [List.map_append]; rfl, by rw [List.length_append, hl]; rfl, fun r hr' => ?_, rfl⟩
        rcases List.mem_append.mp hr' with h | h
        · exact hg r h
        · rw [List.mem_singleton] at h
          subst h
          refine ⟨⟨by omega, ?_⟩, ⟨(by show 1 ≤ 1 + b; omega), ?_⟩, hns, hb⟩
          · show a - 3 ≤ 3
            omega
          · show 1 + b ≤ 12
            omega
      refine wx_lc 6 7 hN (LC.map (wi_str (we_addS ?_)))
      repeat walk_at "v"
      refine ⟨_, _, rfl, rfl, ?_, _, rfl, ?_, fun i x y => ∃ n, y = .int n ∧ 0 ≤ n ∧ n < m, fun i x hi => ⟨_, rfl, fun s0 H0 C cl fp => ?_⟩, fun acc e1 e2 => ?_⟩
      · have : ("." : Str).length = 1 := rfl
        rw [this, sizeLine_eq]
        omega
      · rw [signs_len, show (("." : Str) ++ z).length = _ from dot_len]
        omega
      · refine we_call d1 hr ?_
        repeat walk_at "v"
        refine ⟨m, rfl, by omega, fun r r0 r1 => ⟨r, rfl, r0, by omega⟩⟩
      · rw [signs_len, show (("." : Str) ++ z).length = _ from dot_len] at e1
        obtain ⟨ns, rfl, hns⟩ := ints_acc (P := fun n => 0 ≤ n ∧ n < m) (acc := acc) fun i y hy => by
          have hi' : i < acc.length := (List.getElem?_eq_some_iff.mp hy).1
          have hs : i < (Vl.signs (dot z)).length := by rw [signs_len, dot_len]; omega
          exact e2 i _ y (List.getElem?_eq_getElem hs) hy
        rw [List.length_map] at e1
        refine wx_if (wt_lt ?_)
        repeat walk_at "v"
        refine ⟨_, _, rfl, rfl, _, rfl, fun e => ?_, fun e => ?_⟩
        · refine wx_oset 6 rfl rfl ?_
          repeat walk_at "v"
          refine ⟨0, 0, rfl, ixN_nat (i := 0) (by rw [List.length_map]; omega), wx_nil ?_⟩
          have := tail (ns.set 0 (0 + (i : Nat))) (by rw [List.length_set, e1]) (fun n hn => by
            rcases mem_set' hn with h | h
            · subst h; omega
            · exact hns n h)
          rw [List.map_set] at this
          exact this _
        · exact wx_nil (tail ns e1 hns _)
    · obtain ⟨rows, o5, o6, o7, rfl, hl, hg, rfl⟩ := hI
      rw [rangeD_length] at hl
      have hl : rows.length = m := by omega
      have fin : ∀ rows : List Row, rows.length = m → (∀ r ∈ rows, rowOk (z.length + 1) m r) → ∀ o5 o6 o7, Vl.WX (cyOf P w K mg base ["_law_draw_here", "_law_words_here", "_law_many", "_law_kind", "_law_rows_here", "_law_number", "_law_nexts", "_law_sign"] "_law_rows" (defScope s_rows) f cdv A outer s H E W R) 4 (.lst (rows.map rowL))
          ((defBody s_rows).drop 4) [some (.val (.own 1)), some (.val (.str z)), some (.val (.int (m : Nat))), some (.val (.int kd)), none, o5, o6, o7] (fun _ _ => False) { nx := fun _ => rt .non, rt := fun _ => rt, ex := fun _ => ex } := by
        intro rows hl hg o5 o6 o7
        have e0 := List.getElem?_eq_getElem (show 0 < rows.length by omega)
        obtain ⟨r, er⟩ : ∃ r, rows[0]? = some r := ⟨_, e0⟩
        have ro := hg r (List.mem_of_getElem? er)
        refine wx_put1 rfl ?_
        repeat walk_at "v"
        refine ⟨0, rfl, ?_⟩
        repeat walk_at "v"
        refine ⟨0, _, rfl, by rw [List.getElem?_map, er]; rfl, ?_⟩
        repeat walk_at "v"
        refine ⟨0, rfl, by show 0 < 3; omega, ?_⟩
        rw [row_set0 er]
        have er2 : (rows.set 0 (0, r.2.1, r.2.2))[0]? = some (0, r.2.1, r.2.2) := by rw [List.getElem?_set_self (by omega)]
        refine wx_put2 rfl ?_
        repeat walk_at "v"
        refine ⟨0, rfl, ?_⟩
        repeat walk_at "v"
        refine ⟨0, _, rfl, by rw [List.getElem?_map, er2]; rfl, ?_⟩
        repeat walk_at "v"
        refine ⟨2, _, rfl, rfl, ?_⟩
        repeat walk_at "v"
        refine ⟨0, rfl, by rw [List.length_map]; show 0 < r.2.2.length; have := ro.2.2.1; omega, ?_⟩
        have z2 := row_set (n := 0) er2
        dsimp only at z2
        rw [z2]
        refine wx_pub (wss_one (ws_ret ?_))
        repeat walk_at "v"
        refine k _ ⟨by rw [List.length_set, List.length_set, hl], fun x hx => ?_, (0, r.2.1, r.2.2.set 0 0), by rw [List.getElem?_set_self (by rw [List.length_set]; omega)], rfl, ?_⟩
        · rcases mem_set' hx with h | h
          · subst h
            refine ⟨⟨(by decide : (-3 : Int) ≤ 0), (by decide : (0 : Int) ≤ 3)⟩, ro.2.1, by rw [List.length_set]; exact ro.2.2.1, fun y hy => ?_⟩
            rcases mem_set' hy with h | h
            · subst h; omega
            · exact ro.2.2.2 y h
          · rcases mem_set' h with h | h
            · subst h
              exact ⟨⟨(by decide : (-3 : Int) ≤ 0), (by decide : (0 : Int) ≤ 3)⟩, ro.2.1, ro.2.2.1, ro.2.2.2⟩
            · exact hg x h
        · rw [List.getElem?_set_self (by have := ro.2.2.1; omega)]
      refine wx_if (wt_eq ?_)
      repeat walk_at "v"
      refine eq_int ⟨_, rfl, fun e => ?_, fun e => wx_nil (fin rows hl hg _ _ _)⟩
      refine wx_put2 rfl (we_call d1 hr ?_)
      repeat walk_at "v"
      refine ⟨m, rfl, by omega, fun n n0 n1 => ⟨n, rfl, ?_⟩⟩
      refine we_call d1 hr ?_
      repeat walk_at "v"
      refine ⟨m, rfl, by omega, fun b b0 b1 => ?_⟩
      have hb : b.toNat < rows.length := by omega
      obtain ⟨r, er⟩ : ∃ r, rows[b.toNat]? = some r := ⟨_, List.getElem?_eq_getElem hb⟩
      have ro := hg r (List.mem_of_getElem? er)
      refine ⟨b.toNat, _, by rw [Int.toNat_of_nonneg b0], by rw [List.getElem?_map, er]; rfl, ?_⟩
      repeat walk_at "v"
      refine ⟨2, _, rfl, rfl, ?_⟩
      repeat walk_at "v"
      refine ⟨0, rfl, by rw [List.length_map]; have := ro.2.2.1; omega, ?_⟩
      rw [row_set (n := n) er]
      refine wx_nil (fin _ (by rw [List.length_set, hl]) (fun x hx => ?_) _ _ _)
      rcases mem_set' hx with h | h
      · subst h
        refine ⟨ro.1, ro.2.1, by rw [List.length_set]; exact ro.2.2.1, fun y hy => ?_⟩
        rcases mem_set' hy with h | h
        · subst h; omega
        · exact ro.2.2.2 y h
      · exact hg x h
end
section
set_option maxHeartbeats 8000000
open PySem PySem.Spec PyProof.Rows L2 Vl
variable {cls : Nat → Addr} {P : Program} {w : World} {K : PySem.W.Frag} {mg : Str → Option Value} {base : Heap}
abbrev s_words : Stmt := top 32
theorem sc_words : FnScope ["_law_draw_here", "_law_many", "_law_pool", "_law_found", "_law_turn", "_law_letter"] ["_law_draw_here", "_law_many"] (defScope s_words) := ⟨rfl, rfl, rfl, by decide +kernel, rfl, by decide +kernel, by decide +kernel⟩
/-! ### texts of single signs -/
abbrev one (n : Nat) : Str := ⟨#[n]⟩
theorem join_one : ∀ l : List Nat, Txt.join ("" : Str) (l.map one) = ⟨l.toArray⟩ := by
  intro l
  show Builtin.Str.glued _ _ = _
  rw [StrLaws.glued_eq_join]
  have em : ("" : Str) = ⟨#[]⟩ := rfl
  have ap : ∀ a b : Str, a ++ b = ⟨a.cps ++ b.cps⟩ := fun _ _ => rfl
  induction l with
  | nil => rfl
  | cons a r ih =>
    cases r with
    | nil => rfl
    | cons b t =>
      show one a ++ ("" : Str) ++ Str.join ("" : Str) (one b :: t.map one) = _
      rw [show Str.join ("" : Str) (one b :: t.map one) = ⟨(b :: t).toArray⟩ from ih, em, ap, ap]
      congr 1
      simp
theorem rising_ones : ∀ (l : List Nat) (p : Nat), risingS (one p) (l.map one) = true → (p :: l).Pairwise (· ≤ ·)
  | [], p, _ => by simp
  | x :: l, p, h => by
    have h : (!ltCps [x] [p] && risingS (one x) (l.map one)) = true := h
    simp only [Bool.and_eq_true, Bool.not_eq_true'] at h
    obtain ⟨h1, h2⟩ := h
    have h1 : (decide (x < p) || (x == p && false)) = false := h1
    simp at h1
    have z := rising_ones l x h2
    refine List.pairwise_cons.mpr ⟨fun y hy => ?_, z⟩
    rcases List.mem_cons.mp hy with e | e
    · omega
    · have := (List.pairwise_cons.mp z).1 y e
      omega
theorem sorted_ones {l : List Nat} (h : sortedS (l.map one) = true) : l.Pairwise (· ≤ ·) := by
  cases l with
  | nil => exact .nil
  | cons x l => exact rising_ones l x h
abbrev letters : List Nat := SMALL.cps.toList
/-- m words that rise -/
def goodW (m : Nat) (z : Str) : Prop := z.length = m ∧ z.cps.toList.Pairwise (· < ·) ∧ ∀ n ∈ z.cps.toList, n ∈ letters
theorem goodW_words {m : Nat} {z : Str} (g : goodW m z) (h1 : 1 ≤ m) (h2 : m ≤ 4) : wordsB (.str z) = true := by
  obtain ⟨hl, hp, hm⟩ := g
  show (decide (1 ≤ z.length ∧ z.length ≤ 4) && ((offAt z SMALL).isNone && riseB z)) = true
  rw [decide_eq_true (by omega)]
  have e1 : offAt z SMALL = none := by
    unfold offAt
    rw [List.findIdx?_eq_none_iff]
    intro x hx
    simp only [Bool.not_eq_false', decide_eq_true_eq]
    exact hm x hx
  have e2 : riseB z = true := by
    unfold riseB
    rw [List.all_map, List.all_eq_true]
    intro i hi
    have hi := List.mem_range.mp hi
    have zl : z.cps.toList.length = z.length := rfl
    have a1 : z.cps.toList[i]? = some (z.cps.toList[i]'(by omega)) := List.getElem?_eq_getElem (by omega)
    have a2 : z.cps.toList[i + 1]? = some (z.cps.toList[i + 1]'(by omega)) := List.getElem?_eq_getElem (by omega)
    show ltAt z.cps.toList i = true
    unfold ltAt
    rw [a1, a2]
    have lt := List.pairwise_iff_getElem.mp hp i (i + 1) (by omega) (by omega) (by omega)
    simp only [decide_eq_true_eq]
    exact List.Lex.rel lt
  rw [e1, e2]
  rfl
theorem goodW_mk {Fd ys : List Nat} {xs : List Str} {m : Nat} (nd : Fd.Nodup) (hm : ∀ n ∈ Fd, n ∈ letters) (hl : Fd.length = m) (hp : xs.Perm (Fd.map one)) (hs : sortedS xs = true) : ∃ z : Str, Txt.join ("" : Str) xs = z ∧ goodW m z ∧ (xs.map (·.length)).sum = m := by
  have h1 : ∀ x ∈ xs, ∃ n, x = one n := fun x hx => by
    obtain ⟨n, _, e⟩ := List.mem_map.mp (hp.mem_iff.mp hx)
    exact ⟨n, e.symm⟩
  have e : xs = (xs.map fun s => s.cps.toList.headD 0).map one := by
    rw [List.map_map]
    have : xs.map (one ∘ fun s => s.cps.toList.headD 0) = xs.map id := List.map_congr_left fun x hx => by
      obtain ⟨n, rfl⟩ := h1 x hx
      rfl
    rw [this, List.map_id]
  have pf : (xs.map fun s => s.cps.toList.headD 0).Perm Fd := by
    have z := hp.map fun s : Str => s.cps.toList.headD 0
    rw [List.map_map] at z
    have : Fd.map ((fun s : Str => s.cps.toList.headD 0) ∘ one) = Fd.map id := List.map_congr_left fun _ _ => rfl
    rw [this, List.map_id] at z
    exact z
  generalize xs.map (fun s => s.cps.toList.headD 0) = l at e pf
  subst e
  refine ⟨_, join_one l, ⟨?_, ?_, fun n hn => hm n (pf.mem_iff.mp hn)⟩, ?_⟩
  · show l.toArray.size = m
    rw [List.size_toArray, pf.length_eq, hl]
  · have le := sorted_ones hs
    have nd2 := pf.nodup_iff.mpr nd
    show l.Pairwise _
    have z := le.and nd2
    exact z.imp fun ⟨a, b⟩ => by
      have b : _ ≠ _ := b
      omega
  · rw [List.map_map]
    have : l.map ((fun x : Str => x.length) ∘ one) = l.map fun _ => 1 := List.map_congr_left fun _ _ => rfl
    rw [this]
    have s1 : ∀ l : List Nat, (l.map fun _ => 1).sum = l.length := fun l => by
      induction l with
      | nil => rfl
      | cons a l ih => simp [ih]; omega
    rw [s1, pf.length_eq, hl]
section
variable {c : Cy cls} {ρ : Rho}
theorem we_sortedS {a : Expr} {pp pos : Pos} {P : D → Prop} {ex : Xd → Prop} (nb : NB c.X.mg) (h : WE c a ρ (fun d => ∃ xs : List Str, d = .lst (xs.map D.str) ∧ xs.length < 64 ∧ ∀ ys : List Str, ys.Perm xs → sortedS ys = true → P (.lst (ys.map D.str))) ex)
    (hp : PE c.X (.Call (.Name "sorted" pp) [a] [] pos) (tCB (rSortedS c.X.K) (tAs c [a])) := by exact pe_callB cr_sortedS (by rfl) ((by assumption : NB _) _ (by decide)) (by decide +kernel) (pa_cons (peU _ _) pa_nil)) :
    WE c (.Call (.Name "sorted" pp) [a] [] pos) ρ P ex := we_blt hp lsd_sortedS (WE.mono h fun d ⟨xs, h1, h2, h3⟩ => ⟨xs, by rw [h1], h2, h3⟩)
end
theorem erase_perm : ∀ {l : List Nat} {i : Nat} (h : i < l.length), (l[i] :: l.eraseIdx i).Perm l
  | _ :: _, 0, _ => .refl _
  | a :: l, i + 1, h => by
    have := erase_perm (l := l) (i := i) (by simpa using h)
    exact (List.Perm.swap _ _ _).trans (this.cons a)
theorem erase_map {α β : Type} (f : α → β) : ∀ (l : List α) (i : Nat), (l.map f).eraseIdx i = (l.eraseIdx i).map f
  | [], _ => rfl
  | _ :: _, 0 => rfl
  | a :: l, i + 1 => by
    show f a :: (l.map f).eraseIdx i = f a :: (l.eraseIdx i).map f
    rw [erase_map f l i]
/-! ### _law_words -/
abbrev onesD (l : List Nat) : List D := l.map fun n => .str (one n)
def fs_words : FS := fun ds rt _ => ∃ m : Nat, ds = [.own 1, .int (m : Nat)] ∧ 1 ≤ m ∧ m ≤ 5 ∧ ∀ z, goodW m z → rt (.str z)
theorem ok_words {f : Addr} {fd : FuncData} (nb : NB mg) (d1 : Df P w K mg base cls "_law_pick" 2 ["_law_draw_here", "_law_many"] fs_pick) (F : Fun K "_law_words" "_law_words" s_words f fd) : FnOk P w K mg base (L2N.CX P w) 3 f fd ["_law_draw_here", "_law_many"] (spOf cls fs_words) := by
  refine def_ok F sc_words (fun ds rt ex h => ?_) (fun cdv A outer s H E W R ds rt ex hr h => ?_)
  · obtain ⟨_, rfl, _⟩ := h
    rfl
  · obtain ⟨m, rfl, m1, m5, k⟩ := h
    have hN := sc_words.nd
    have l26 : letters.length = 26 := by decide +kernel
    have nd26 : letters.Nodup := by decide +kernel
    refine wss_cons (ws_lc 2 5 hN (LC.map (wi_str ?_)))
    repeat walk_at "v"
    refine ⟨_, rfl, by rw [signs_len]; show 26 ≤ _; omega, fun i x y => y = x, fun i x hi => ⟨_, rfl, fun s0 H0 C cl fp => ?_⟩, fun acc e1 e2 => .inr ?_⟩
    · repeat walk_at "v"
      rfl
    rw [acc_map (g := id) e1 (fun i d y h1 h2 => e2 i d y h1 h2), List.map_id]
    refine wss_cons (ws_own 3 hN rfl ?_)
    refine wss_cons (ws_for rfl (wi_range1 (nb _ (by decide)) ?_))
    repeat walk_at "v"
    refine ⟨_, rfl, by omega, by omega, fun i ρ' => ∃ (Pl Fd : List Nat) (o4 o5 : Option Sv), (Fd ++ Pl).Perm letters ∧ Fd.length = i ∧ ρ' = [some (.val (.own 1)), some (.val (.int (m : Nat))), some (.lst (onesD Pl)), some (.lst (onesD Fd)), o4, o5], ⟨letters, [], none, none, .refl _, rfl, rfl⟩, fun i d ρ' hi hI => ?_, fun ρ' hI => ?_⟩
    · obtain ⟨hlt, rfl⟩ := rangeD_get hi
      have hlt : i < m := by simpa using hlt
      obtain ⟨Pl, Fd, o4, o5, hp, hf, rfl⟩ := hI
      have hpl : Pl.length = 26 - i := by
        have := hp.length_eq
        rw [List.length_append, l26] at this
        omega
      refine wg_name 4 hN rfl ?_
      refine wss_one (ws_appPop 3 2 (by decide) rfl rfl (by unfold onesD; rw [List.length_map, hf, sizeLine_eq]; omega) rfl rfl (we_call d1 hr ?_))
      walk_at "v"
      refine we_olen (i := 2) nb rfl rfl ?_
      refine ⟨((onesD Pl).length : Nat), rfl, by unfold onesD; rw [List.length_map]; omega, fun r r0 r1 => ?_⟩
      unfold onesD at r1
      rw [List.length_map] at r1
      have hr2 : r.toNat < Pl.length := by omega
      have ek := List.getElem?_eq_getElem hr2
      refine ⟨r, r.toNat, .str (one Pl[r.toNat]), rfl, by omega, by omega, ?_, by unfold onesD; rw [List.getElem?_map, ek]; rfl, Pl.eraseIdx r.toNat, Fd ++ [Pl[r.toNat]], some (.val (.int (0 + (i : Nat)))), o5, ?_, by rw [List.length_append, hf]; rfl, ?_⟩
      · unfold seqIndex? onesD
        rw [List.length_map]
        simp only [if_neg (show ¬ r < 0 by omega)]
        have : (decide (0 ≤ r) && decide (r < (Pl.length : Int))) = true := by simp; omega
        rw [this]
        rfl
      · have := erase_perm hr2
        refine List.Perm.trans ?_ hp
        rw [List.append_assoc]
        exact List.Perm.append_left _ this
      · have e1 : (onesD Pl).eraseIdx r.toNat = onesD (Pl.eraseIdx r.toNat) := by unfold onesD; rw [erase_map]
        have e2 : onesD Fd ++ [.str (one Pl[r.toNat])] = onesD (Fd ++ [Pl[r.toNat]]) := by unfold onesD; rw [List.map_append]; rfl
        rw [← e1, ← e2]
        rfl
    · obtain ⟨Pl, Fd, o4, o5, hp, hf, rfl⟩ := hI
      rw [rangeD_length] at hf
      have hf : Fd.length = m := by omega
      refine wss_pub 3 rfl (wss_one (ws_ret (we_join ?_)))
      repeat walk_at "v"
      refine ⟨_, rfl, we_sortedS nb ?_⟩
      repeat walk_at "v"
      refine ⟨Fd.map one, by unfold onesD; rw [List.map_map]; rfl, by rw [List.length_map]; omega, fun ys hy hs => ?_⟩
      have nd2 : Fd.Nodup := (List.nodup_append.mp (hp.nodup_iff.mpr nd26)).1
      obtain ⟨z, ez, gz, sz⟩ := goodW_mk (ys := []) nd2 (fun n hn => hp.mem_iff.mp (List.mem_append_left _ hn)) hf hy hs
      refine ⟨ys, rfl, ?_, ?_⟩
      · rw [sz]
        have : ("" : Str).length = 0 := rfl
        rw [this]
        omega
      · rw [ez]
        exact k z gz
end
section
set_option maxHeartbeats 8000000
open PySem PySem.Spec PyProof.Rows L2 Vl
variable {cls : Nat → Addr} {P : Program} {w : World} {K : PySem.W.Frag} {mg : Str → Option Value} {base : Heap}
abbrev s_calling : Stmt := top 40
theorem sc_calling : FnScope ["_law_draw_here", "_law_signs", "_law_block", "_law_kind", "_law_turn"] ["_law_draw_here", "_law_signs"] (defScope s_calling) := ⟨rfl, rfl, rfl, by decide +kernel, rfl, by decide +kernel, by decide +kernel⟩
theorem ones_acc {acc : List D} {P : Nat → Prop} (h : ∀ (i : Nat) y, acc[i]? = some y → ∃ n, y = .str (one n) ∧ P n) : ∃ ns : List Nat, acc = onesD ns ∧ ∀ n ∈ ns, P n := by
  induction acc with
  | nil => exact ⟨[], rfl, fun n h => by simp at h⟩
  | cons x acc ih =>
    obtain ⟨ns, e, hn⟩ := ih fun i y hy => h (i + 1) y (by simpa using hy)
    obtain ⟨n, en, hp⟩ := h 0 x rfl
    refine ⟨n :: ns, by rw [e, en]; rfl, fun m hm => ?_⟩
    rcases List.mem_cons.mp hm with z | z
    · rw [z]; exact hp
    · exact hn m z
theorem sum_ones (l : List Nat) : ((l.map one).map (·.length)).sum = l.length := by
  induction l with
  | nil => rfl
  | cons a l ih =>
    rw [List.map_cons, List.map_cons, List.sum_cons, ih]
    show 1 + l.length = l.length + 1
    omega
/-- a row of single signs, put together -/
theorem join_onesD {l : List Nat} (hl : l.length ≤ 1000) {Q : D → Prop} (h : Q (.str ⟨l.toArray⟩)) : ∃ ys : List Str, D.lst (onesD l) = .lst (ys.map D.str) ∧ (ys.map (·.length)).sum + ys.length * ("" : Str).length ≤ 16777216 ∧ Q (.str (Txt.join ("" : Str) ys)) := by
  refine ⟨l.map one, by unfold onesD; rw [List.map_map]; rfl, ?_, by rw [join_one]; exact h⟩
  rw [sum_ones, List.length_map]
  have : ("" : Str).length = 0 := rfl
  rw [this]
  omega
theorem pick_sign {z : Str} {a : Int} (hz : z.length ≤ 1000000) (h0 : 0 ≤ a) (h1 : a < (z.length : Int)) : ∃ n, n ∈ z.cps.toList ∧ z.cps.toList[a.toNat]? = some n ∧ itemD (.str z) a = some (.str (one n)) := by
  have ha : a.toNat < z.cps.toList.length := by rw [← Vl.len_list]; omega
  have ea := List.getElem?_eq_getElem ha
  refine ⟨_, List.getElem_mem ha, ea, ?_⟩
  have := item_str hz ea
  rw [Int.toNat_of_nonneg h0] at this
  exact this
def fs_calling : FS := fun ds rt _ => ∃ s : Str, ds = [.own 1, .str s] ∧ 1 ≤ s.length ∧ s.length ≤ 1000 ∧ ∀ c : Str, (∀ n ∈ c.cps.toList, n ∈ s.cps.toList) → c.length ≤ 400 → rt (.str c)
theorem ok_calling {f : Addr} {fd : FuncData} (nb : NB mg) (d1 : Df P w K mg base cls "_law_pick" 2 ["_law_draw_here", "_law_many"] fs_pick) (F : Fun K "_law_calling" "_law_calling" s_calling f fd) : FnOk P w K mg base (L2N.CX P w) 3 f fd ["_law_draw_here", "_law_signs"] (spOf cls fs_calling) := by
  refine def_ok F sc_calling (fun ds rt ex h => ?_) (fun cdv A outer s H E W R ds rt ex hr h => ?_)
  · obtain ⟨_, rfl, _⟩ := h
    rfl
  · obtain ⟨z, rfl, z1, z2, k⟩ := h
    have hN := sc_calling.nd
    refine wss_cons (ws_set 2 hN rfl (we_join ?_))
    repeat walk_at "v"
    refine ⟨_, rfl, we_lc 4 hN (LC.map (wi_range1 (nb _ (by decide)) (we_add ?_)))⟩
    repeat walk_at "v"
    refine we_call d1 hr ?_
    repeat walk_at "v"
    refine ⟨30, rfl, by decide, fun r r0 r1 => ⟨_, _, rfl, rfl, _, rfl, by omega, by omega, by rw [rangeD_length]; omega, fun i x y => ∃ n, y = .str (one n) ∧ n ∈ z.cps.toList, fun i x hi => ⟨_, rfl, fun s0 H0 C cl fp => ?_⟩, fun acc e1 e2 => ?_⟩⟩
    · refine we_ix ?_
      repeat walk_at "v"
      refine we_call d1 hr ?_
      repeat walk_at "v"
      refine ⟨z.length, len_str (by omega), (z.length : Nat), rfl, by omega, fun a a0 a1 => ?_⟩
      obtain ⟨n, n1, _, n3⟩ := pick_sign (z := z) (a := a) (by omega) a0 (by omega)
      exact ⟨_, _, rfl, n3, n, rfl, n1⟩
    rw [rangeD_length] at e1
    obtain ⟨l, rfl, hl⟩ := ones_acc (P := fun n => n ∈ z.cps.toList) (acc := acc) fun i y hy => by
      have hi' : i < acc.length := (List.getElem?_eq_some_iff.mp hy).1
      exact e2 i _ y (List.getElem?_eq_getElem (show i < (rangeD 0 _).length by rw [rangeD_length]; omega)) hy
    have ll : l.length ≤ 30 := by
      unfold onesD at e1
      rw [List.length_map] at e1
      omega
    obtain ⟨ys, j1, j2, j3⟩ := join_onesD (l := l) (Q := fun d => d = .str ⟨l.toArray⟩) (by omega) rfl
    refine ⟨ys, j1, j2, ?_⟩
    rw [j3]
    have bl : ((⟨l.toArray⟩ : Str)).length = l.length := by show l.toArray.size = _; simp
    refine wss_cons (ws_set 3 hN rfl (we_call d1 hr ?_))
    repeat walk_at "v"
    refine ⟨8, rfl, by decide, fun b b0 b1 => ?_⟩
    refine wss_cons (ws_if (wt_eq ?_))
    repeat walk_at "v"
    refine eq_int ⟨_, rfl, fun e => ?_, fun e => wss_nil ?_⟩
    · refine wss_one (ws_ret (we_sliceS (we_mulS ?_)))
      repeat walk_at "v"
      refine ⟨_, _, rfl, rfl, mulOk_of (k := 400) (by omega) (by omega), _, rfl, ?_, ?_⟩
      · have := mul_len (⟨l.toArray⟩ : Str) 400
        rw [show ((400 : Nat) : Int) = 400 from rfl] at this
        rw [this, sizeLine_eq]
        omega
      · show Vl.WE _ _ _ _ _
        refine we_add ?_
        repeat walk_at "v"
        refine we_call d1 hr ?_
        repeat walk_at "v"
        refine ⟨2, rfl, by decide, fun a a0 a1 => ⟨_, _, rfl, rfl, _, rfl, ?_⟩⟩
        have ea : (399 + a : Int) = ((399 + a.toNat : Nat) : Int) := by omega
        rw [ea]
        refine k _ (fun n hn => ?_) ?_
        · rw [cut_pre] at hn
          have := mul_mem (List.mem_of_mem_take hn)
          exact hl n (by simpa using this)
        · rw [Vl.len_list, cut_pre, List.length_take]
          omega
    · refine wss_cons (ws_if (wt_eq ?_))
      repeat walk_at "v"
      refine eq_int ⟨_, rfl, fun e => ?_, fun e => wss_nil ?_⟩
      · refine wss_one (ws_ret ?_)
        repeat walk_at "v"
        exact k _ (fun n hn => absurd hn (by show n ∉ ([] : List Nat); simp)) (by show 0 ≤ 400; omega)
      · refine wss_one (ws_ret ?_)
        repeat walk_at "v"
        exact k _ (fun n hn => hl n (by simpa using hn)) (by rw [bl]; omega)
end
section
set_option maxHeartbeats 16000000
open PySem PySem.Spec PyProof.Rows L2 Vl
variable {cls : Nat → Addr} {P : Program} {w : World} {K : PySem.W.Frag} {mg : Str → Option Value} {base : Heap}
abbrev s_bad_words : Stmt := top 44
theorem sc_bad_words : FnScope ["_law_draw_here", "_law_words_here", "_law_kind", "_law_at", "_law_letter"] ["_law_draw_here", "_law_words_here"] (defScope s_bad_words) := ⟨rfl, rfl, rfl, by decide +kernel, rfl, by decide +kernel, by decide +kernel⟩
/-! ### what are no words -/
theorem app_list (a b : Str) : (a ++ b).cps.toList = a.cps.toList ++ b.cps.toList := by
  show (a.cps ++ b.cps).toList = _
  rw [Array.toList_append]
theorem app_len (a b : Str) : (a ++ b).length = a.length + b.length := PySem.Str.length_append ..
theorem wordsB_off {z : Str} {n : Nat} (h : n ∈ z.cps.toList) (h2 : n ∉ letters) : wordsB (.str z) = false := by
  show (decide (1 ≤ z.length ∧ z.length ≤ 4) && ((offAt z SMALL).isNone && riseB z)) = false
  have : (offAt z SMALL).isNone = false := by
    cases e : offAt z SMALL with
    | some i => rfl
    | none =>
      unfold offAt at e
      rw [List.findIdx?_eq_none_iff] at e
      have := e n h
      simp only [Bool.not_eq_false', decide_eq_true_eq] at this
      exact absurd this h2
  rw [this]
  simp
theorem wordsB_len {z : Str} (h : 4 < z.length ∨ z.length = 0) : wordsB (.str z) = false := by
  show (decide (1 ≤ z.length ∧ z.length ≤ 4) && ((offAt z SMALL).isNone && riseB z)) = false
  rw [decide_eq_false (by omega)]
  rfl
theorem wordsB_rise {z : Str} {i a b : Nat} (h1 : z.cps.toList[i]? = some a) (h2 : z.cps.toList[i + 1]? = some b) (h : ¬ a < b) : wordsB (.str z) = false := by
  show (decide (1 ≤ z.length ∧ z.length ≤ 4) && ((offAt z SMALL).isNone && riseB z)) = false
  have : riseB z = false := by
    unfold riseB
    have hi := (List.getElem?_eq_some_iff.mp h2).1
    rw [← Vl.len_list] at hi
    rw [Bool.eq_false_iff]
    intro e
    rw [List.all_map, List.all_eq_true] at e
    have := e i (List.mem_range.mpr (by omega))
    have this : ltAt z.cps.toList i = true := this
    unfold ltAt at this
    rw [h1, h2] at this
    have this : [a] < [b] := of_decide_eq_true this
    rw [List.cons_lt_cons_iff] at this
    rcases this with h3 | ⟨_, h4⟩
    · exact h h3
    · exact absurd h4 (by simp)
  rw [this]
  simp
theorem strOk {z : Str} (h : z.length ≤ 100000) : txtOk (.str z) ∧ okD 1 (.str z) := ⟨⟨rfl, fun z' e => by cases e; omega⟩, okD_atom (decide_eq_true (by omega))⟩
theorem up_letters : ∀ n ∈ letters, Txt.upper (one n) = one (n - 32) ∧ n - 32 ∉ letters := by decide +kernel
theorem mul2 {z : Str} (h : 1 ≤ z.length) : (Txt.mul z 2).cps.toList = z.cps.toList ++ z.cps.toList := by
  unfold Txt.mul
  rw [if_neg (by omega), if_neg (by simp; omega)]
  show ((List.replicate 2 z.cps).foldl (· ++ ·) #[]).toList = _
  simp [List.replicate]
theorem mul_one2 (n : Nat) : Txt.mul (one n) 2 = ⟨#[n, n]⟩ := rfl
def fs_bad_words : FS := fun ds rt _ => ∃ (z : Str) (m : Nat), ds = [.own 1, .str z] ∧ 1 ≤ m ∧ m ≤ 4 ∧ goodW m z ∧ ∀ dw, txtOk dw → okD 1 dw → wordsB dw = false → rt dw
theorem ok_bad_words {f : Addr} {fd : FuncData} (nb : NB mg) (d1 : Df P w K mg base cls "_law_pick" 2 ["_law_draw_here", "_law_many"] fs_pick) (d2 : Df P w K mg base cls "_law_words" 3 ["_law_draw_here", "_law_many"] fs_words) (F : Fun K "_law_bad_words" "_law_bad_words" s_bad_words f fd) :
    FnOk P w K mg base (L2N.CX P w) 4 f fd ["_law_draw_here", "_law_words_here"] (spOf cls fs_bad_words) := by
  refine def_ok F sc_bad_words (fun ds rt ex h => ?_) (fun cdv A outer s H E W R ds rt ex hr h => ?_)
  · obtain ⟨_, _, rfl, _⟩ := h
    rfl
  · obtain ⟨z, m, rfl, m1, m4, g, k⟩ := h
    have hN := sc_bad_words.nd
    obtain ⟨zl, zp, zm⟩ := g
    have ks : ∀ z' : Str, z'.length ≤ 100000 → wordsB (.str z') = false → rt (.str z') := fun z' h1 h2 => k _ (strOk h1).1 (strOk h1).2 h2
    refine wss_cons (ws_set 2 hN rfl (we_call d1 (hr.mono (by decide)) ?_))
    repeat walk_at "v"
    refine ⟨14, rfl, by decide, fun kd k0 k1 => ?_⟩
    refine wss_cons (ws_set 3 hN rfl (we_call d1 (hr.mono (by decide)) ?_))
    repeat walk_at "v"
    refine ⟨z.length, len_str (by omega), (z.length : Nat), rfl, by omega, fun r r0 r1 => ?_⟩
    obtain ⟨j, rfl⟩ : ∃ j : Nat, r = (j : Nat) := ⟨r.toNat, by omega⟩
    have hj : j < z.cps.toList.length := by rw [← Vl.len_list]; omega
    have ej := List.getElem?_eq_getElem hj
    obtain ⟨n, en⟩ : ∃ n, z.cps.toList[j]? = some n := ⟨_, ej⟩
    have nm := zm n (List.mem_of_getElem? en)
    have zsz : z.length ≤ sizeLine := by rw [sizeLine_eq]; omega
    have pre := cut_pre z (k := j)
    have suf := cut_suf z (k := j + 1)
    have suf0 := cut_suf z (k := j)
    have preL : (cutS z none (some (j : Nat))).length ≤ z.length := cutS_length _ _ _
    have sufL : (cutS z (some ((j + 1 : Nat) : Int)) none).length ≤ z.length := cutS_length _ _ _
    have suf0L : (cutS z (some (j : Nat)) none).length ≤ z.length := cutS_length _ _ _
    refine wss_cons (ws_if (wt_eq ?_))
    repeat walk_at "v"
    refine eq_int ⟨_, rfl, fun e => ?_, fun e => wss_nil ?_⟩
    · -- a capital
      refine wss_one (ws_ret (we_addS (we_addS (we_sliceS ?_))))
      repeat walk_at "v"
      refine ⟨z, rfl, zsz, ?_⟩
      show Vl.WE _ _ _ _ _
      repeat walk_at "v"
      refine ⟨_, rfl, ?_⟩
      refine we_upper (we_ix ?_)
      repeat walk_at "v"
      refine ⟨_, _, rfl, item_str (by omega) en, _, rfl, by show 1 ≤ _; omega, ?_⟩
      obtain ⟨u1, u2⟩ := up_letters n nm
      rw [u1]
      refine ⟨_, _, rfl, rfl, by rw [sizeLine_eq]; show _ + 1 ≤ _; omega, ?_⟩
      refine we_sliceS ?_
      repeat walk_at "v"
      refine ⟨z, rfl, zsz, ?_⟩
      show Vl.WE _ _ _ _ _
      refine we_add ?_
      repeat walk_at "v"
      refine ⟨_, _, rfl, rfl, _, rfl, _, _, rfl, rfl, ?_, ?_⟩
      · rw [app_len, sizeLine_eq]
        have : (one (n - 32)).length = 1 := rfl
        have e1 : ((j : Int) + 1) = ((j + 1 : Nat) : Int) := by omega
        rw [e1]
        omega
      · have e1 : ((j : Int) + 1) = ((j + 1 : Nat) : Int) := by omega
        rw [e1]
        refine ks _ ?_ (wordsB_off (n := n - 32) ?_ u2)
        · rw [app_len, app_len]
          have : (one (n - 32)).length = 1 := rfl
          omega
        · rw [app_list, app_list]
          simp
    refine wss_cons (ws_if (wt_eq ?_))
    repeat walk_at "v"
    refine eq_int ⟨_, rfl, fun e => ?_, fun e => wss_nil ?_⟩
    · -- a letter twice
      refine wss_one (ws_ret (we_addS (we_addS (we_sliceS ?_))))
      repeat walk_at "v"
      refine ⟨z, rfl, zsz, ?_⟩
      show Vl.WE _ _ _ _ _
      repeat walk_at "v"
      refine ⟨_, rfl, ?_⟩
      refine we_mulS (we_ix ?_)
      repeat walk_at "v"
      refine ⟨_, _, rfl, item_str (by omega) en, ?_⟩
      repeat walk_at "v"
      refine ⟨_, _, rfl, rfl, mulOk_of (k := 2) (by show 1 ≤ 1000; omega) (by omega), ?_⟩
      rw [show Txt.mul (⟨#[n]⟩ : Str) 2 = ⟨#[n, n]⟩ from mul_one2 n]
      refine ⟨_, _, rfl, rfl, by rw [sizeLine_eq]; show _ + 2 ≤ _; omega, ?_⟩
      refine we_sliceS ?_
      repeat walk_at "v"
      refine ⟨z, rfl, zsz, ?_⟩
      show Vl.WE _ _ _ _ _
      refine we_add ?_
      repeat walk_at "v"
      have e1 : ((j : Int) + 1) = ((j + 1 : Nat) : Int) := by omega
      have l2 : (⟨#[n, n]⟩ : Str).length = 2 := rfl
      refine ⟨_, _, rfl, rfl, _, rfl, _, _, rfl, rfl, ?_, ?_⟩
      · rw [app_len, sizeLine_eq, e1, l2]
        omega
      · rw [e1]
        refine ks _ ?_ (wordsB_rise (i := j) (a := n) (b := n) ?_ ?_ (by omega))
        · rw [app_len, app_len, l2]
          omega
        · rw [app_list, app_list, pre, List.append_assoc, List.getElem?_append_right (by rw [List.length_take]; omega), List.length_take, Nat.min_eq_left (by omega), Nat.sub_self]
          rfl
        · rw [app_list, app_list, pre, List.append_assoc, List.getElem?_append_right (by rw [List.length_take]; omega), List.length_take, Nat.min_eq_left (by omega), show j + 1 - j = 1 by omega]
          rfl
    refine wss_cons (ws_if (wt_eq ?_))
    repeat walk_at "v"
    refine eq_int ⟨_, rfl, fun e => ?_, fun e => wss_nil ?_⟩
    · -- all twice
      refine wss_one (ws_ret (we_mulS ?_))
      repeat walk_at "v"
      refine ⟨_, _, rfl, rfl, mulOk_of (k := 2) (by omega) (by omega), ?_⟩
      have ml : (Txt.mul z 2).length = z.length * 2 := mul_len z 2
      refine ks _ (by omega) ?_
      obtain ⟨a, ea⟩ : ∃ a, z.cps.toList[m - 1]? = some a := ⟨_, List.getElem?_eq_getElem (by rw [← Vl.len_list]; omega)⟩
      obtain ⟨b, eb⟩ : ∃ b, z.cps.toList[0]? = some b := ⟨_, List.getElem?_eq_getElem (by rw [← Vl.len_list]; omega)⟩
      refine wordsB_rise (i := m - 1) (a := a) (b := b) ?_ ?_ ?_
      · rw [mul2 (by omega), List.getElem?_append_left (by rw [← Vl.len_list]; omega), ea]
      · rw [mul2 (by omega), List.getElem?_append_right (by rw [← Vl.len_list]; omega), ← Vl.len_list, show m - 1 + 1 - z.length = 0 by omega, eb]
      · obtain ⟨_, ea⟩ := List.getElem?_eq_some_iff.mp ea
        obtain ⟨_, eb⟩ := List.getElem?_eq_some_iff.mp eb
        by_cases h0 : m - 1 = 0
        · subst ea eb
          simp only [h0]
          omega
        · have := List.pairwise_iff_getElem.mp zp 0 (m - 1) (by assumption) (by assumption) (by omega)
          omega
    refine wss_cons (ws_if (wt_eq ?_))
    repeat walk_at "v"
    refine eq_int ⟨_, rfl, fun e => ?_, fun e => wss_nil ?_⟩
    · -- a silence in it
      refine wss_one (ws_ret (we_addS (we_addS (we_sliceS ?_))))
      repeat walk_at "v"
      refine ⟨z, rfl, zsz, ?_⟩
      show Vl.WE _ _ _ _ _
      repeat walk_at "v"
      have l1 : ("." : Str).length = 1 := rfl
      refine ⟨_, rfl, ?_⟩
      repeat walk_at "v"
      refine ⟨_, _, rfl, rfl, by rw [sizeLine_eq, l1]; omega, ?_⟩
      refine we_sliceS ?_
      repeat walk_at "v"
      refine ⟨z, rfl, zsz, ?_⟩
      show Vl.WE _ _ _ _ _
      repeat walk_at "v"
      refine ⟨_, rfl, _, _, rfl, rfl, by rw [app_len, sizeLine_eq, l1]; omega, ?_⟩
      refine ks _ (by rw [app_len, app_len, l1]; omega) (wordsB_off (n := 46) ?_ (by decide +kernel))
      rw [app_list, app_list]
      simp [show ("." : Str).cps.toList = [46] from rfl]
    refine wss_cons (ws_if (wt_eq ?_))
    repeat walk_at "v"
    refine eq_int ⟨_, rfl, fun e => ?_, fun e => wss_nil ?_⟩
    · -- five
      refine wss_one (ws_ret (we_call d2 hr ?_))
      repeat walk_at "v"
      refine ⟨5, rfl, by omega, by omega, fun z' g' => ks _ (by rw [g'.1]; omega) (wordsB_len (by rw [g'.1]; omega))⟩
    refine wss_cons (ws_if (wt_eq ?_))
    repeat walk_at "v"
    refine eq_int ⟨_, rfl, fun e => ?_, fun e => wss_nil ?_⟩
    · -- two, turned about
      refine wss_one (ws_ret (we_revS2 (we_call d2 hr ?_)))
      repeat walk_at "v"
      refine ⟨2, rfl, by omega, by omega, fun z' g' => ?_⟩
      obtain ⟨⟨l⟩, hl⟩ : ∃ l : Array Nat, z' = ⟨l⟩ := ⟨z'.cps, rfl⟩
      subst hl
      have g1 : l.length = 2 := g'.1
      match l, g1, g' with
      | [a, b], _, g' =>
        refine ⟨a, b, rfl, ks _ (by show 2 ≤ _; omega) (wordsB_rise (i := 0) (a := b) (b := a) rfl rfl ?_)⟩
        have := List.pairwise_iff_getElem.mp g'.2.1 0 1 (by show 0 < 2; omega) (by show 1 < 2; omega) (by omega)
        have this : a < b := this
        omega
    refine wss_cons (ws_if (wt_eq ?_))
    repeat walk_at "v"
    refine eq_int ⟨_, rfl, fun e => ?_, fun e => wss_nil ?_⟩
    · -- a blank behind
      refine wss_one (ws_ret (we_addS ?_))
      repeat walk_at "v"
      have l1 : (" " : Str).length = 1 := rfl
      refine ⟨_, _, rfl, rfl, by rw [sizeLine_eq, l1]; omega, ?_⟩
      refine ks _ (by rw [app_len, l1]; omega) (wordsB_off (n := 32) ?_ (by decide +kernel))
      rw [app_list]
      simp [show (" " : Str).cps.toList = [32] from rfl]
    refine wss_cons (ws_if (wt_eq ?_))
    repeat walk_at "v"
    refine eq_int ⟨_, rfl, fun e => ?_, fun e => wss_nil ?_⟩
    · -- a list
      refine wss_one (ws_ret (we_lc 4 hN (LC.map (wi_str ?_))))
      repeat walk_at "v"
      refine ⟨_, rfl, by rw [signs_len]; omega, fun i x y => y = x, fun i x hi => ⟨_, rfl, fun s0 H0 C cl fp => ?_⟩, fun acc e1 e2 => ?_⟩
      · repeat walk_at "v"
        rfl
      rw [acc_map (g := id) e1 (fun i d y h1 h2 => e2 i d y h1 h2), List.map_id]
      refine k _ ⟨rfl, fun _ e => by cases e⟩ (.inr ⟨_, .inl rfl, by rw [signs_len]; omega, fun x hx => ?_⟩) rfl
      obtain ⟨i, hi⟩ := List.getElem?_of_mem hx
      obtain ⟨n, _, rfl⟩ := signs_get hi
      exact okD_atom rfl
    · -- other things
      have h8 : 8 ≤ kd ∧ kd ≤ 13 := by
        simp at *
        omega
      refine wss_one (ws_ret (we_ix ?_))
      repeat walk_at "v"
      refine ⟨_, _, rfl, rfl, ?_⟩
      have cs : kd = 8 ∨ kd = 9 ∨ kd = 10 ∨ kd = 11 ∨ kd = 12 ∨ kd = 13 := by omega
      rcases cs with rfl | rfl | rfl | rfl | rfl | rfl
      · exact ⟨_, _, rfl, rfl, ks _ (by show 0 ≤ _; omega) (wordsB_len (.inr rfl))⟩
      · exact ⟨_, _, rfl, rfl, k _ ⟨rfl, fun _ e => by cases e⟩ (okD_atom rfl) rfl⟩
      · exact ⟨_, _, rfl, rfl, k _ ⟨rfl, fun _ e => by cases e⟩ (okD_atom rfl) rfl⟩
      · exact ⟨_, _, rfl, rfl, k _ ⟨rfl, fun _ e => by cases e⟩ (okD_atom rfl) rfl⟩
      · exact ⟨_, _, rfl, rfl, k _ ⟨rfl, fun _ e => by cases e⟩ (.inr ⟨_, .inr rfl, by show 1 ≤ _; omega, fun x hx => by rw [List.mem_singleton] at hx; subst hx; exact okD_atom (decide_eq_true (by omega))⟩) rfl⟩
      · exact ⟨_, _, rfl, rfl, ks _ (by show 1 ≤ _; omega) (wordsB_off (n := 46) (by show 46 ∈ [46]; simp) (by decide +kernel))⟩
end
section
set_option maxHeartbeats 16000000
open PySem PySem.Spec PyProof.Rows L2 Vl
variable {cls : Nat → Addr} {P : Program} {w : World} {K : PySem.W.Frag} {mg : Str → Option Value} {base : Heap}
abbrev s_bad_calling : Stmt := top 47
theorem sc_bad_calling : FnScope ["_law_draw_here", "_law_words_here", "_law_signs", "_law_text", "_law_letters", "_law_other", "_law_kind", "_law_at", "_law_last", "_law_turn", "_law_letter", "_law_sign"] ["_law_draw_here", "_law_words_here"] (defScope s_bad_calling) := ⟨rfl, rfl, rfl, by decide +kernel, rfl, by decide +kernel, by decide +kernel⟩
theorem callB_str {z c : Str} : callB z (.str c) = if (0 : Int) ≤ (c.length : Int) ∧ (c.length : Int) ≤ 400 then (match offAt c (dot z) with | some i => .int (i : Nat) | none => .non) else .int (-1) := rfl
theorem callB_long {z c : Str} (h : 400 < c.length) : callB z (.str c) = .int (-1) := by rw [callB_str, if_neg (by omega)]
theorem callB_at {z c : Str} {i b : Nat} (hl : c.length ≤ 400) (h1 : ∀ (j : Nat) n, j < i → c.cps.toList[j]? = some n → n ∈ (dot z).cps.toList) (h2 : c.cps.toList[i]? = some b) (h3 : b ∉ (dot z).cps.toList) : callB z (.str c) = .int (i : Nat) := by
  rw [callB_str, if_pos ⟨by omega, by omega⟩]
  have : offAt c (dot z) = some i := find_some (x := b) (fun j y hj hy => by simp [h1 j y hj hy]) h2 (by simp [h3])
  rw [this]
theorem dot_list (z : Str) : (dot z).cps.toList = 46 :: z.cps.toList := by
  show ((⟨#[46]⟩ : Str) ++ z).cps.toList = _
  rw [app_list]
  rfl
abbrev OTHERS : Str := "abcdefghijklmnopqrstuvwxyzABZ ,~0"
theorem others_nodot : ∀ n ∈ OTHERS.cps.toList, n ≠ 46 := by decide +kernel
theorem others_A : 65 ∈ OTHERS.cps.toList ∧ 65 ∉ letters := by decide +kernel
def fs_bad_calling : FS := fun ds rt _ => ∃ (z : Str) (m : Nat), ds = [.own 1, .str z] ∧ 1 ≤ m ∧ m ≤ 4 ∧ goodW m z ∧ ∀ dc (y : Int), txtOk dc → okD 1 dc → callB z dc = .int y → rt (.tup [dc, .int y])
theorem ok_bad_calling {f : Addr} {fd : FuncData} (nb : NB mg) (d1 : Df P w K mg base cls "_law_pick" 2 ["_law_draw_here", "_law_many"] fs_pick) (F : Fun K "_law_bad_calling" "_law_bad_calling" s_bad_calling f fd) :
    FnOk P w K mg base (L2N.CX P w) 3 f fd ["_law_draw_here", "_law_words_here"] (spOf cls fs_bad_calling) := by
  refine def_ok F sc_bad_calling (fun ds rt ex h => ?_) (fun cdv A outer s H E W R ds rt ex hr h => ?_)
  · obtain ⟨_, _, rfl, _⟩ := h
    rfl
  · obtain ⟨z, m, rfl, m1, m4, g, k⟩ := h
    have hN := sc_bad_calling.nd
    obtain ⟨zl, zp, zm⟩ := g
    have dl : (dot z).length = z.length + 1 := dot_len
    have ks : ∀ (c : Str) (y : Int), c.length ≤ 100000 → callB z (.str c) = .int y → rt (.tup [.str c, .int y]) := fun c y h1 h2 => k _ _ (strOk h1).1 (strOk h1).2 h2
    refine wss_cons (ws_set 2 hN rfl (we_addS ?_))
    repeat walk_at "v"
    refine ⟨_, _, rfl, rfl, by rw [sizeLine_eq, show ("." : Str).length = 1 from rfl]; omega, ?_⟩
    refine wss_cons (ws_set 3 hN rfl (we_join ?_))
    repeat walk_at "v"
    refine ⟨_, rfl, we_lc 9 hN (LC.map (wi_range1 (nb _ (by decide)) (we_add ?_)))⟩
    repeat walk_at "v"
    refine we_call d1 hr ?_
    repeat walk_at "v"
    refine ⟨12, rfl, by decide, fun r r0 r1 => ⟨_, _, rfl, rfl, _, rfl, by omega, by omega, by rw [rangeD_length]; omega, fun i x y => ∃ n, y = .str (one n) ∧ n ∈ (dot z).cps.toList, fun i x hi => ⟨_, rfl, fun s0 H0 C cl fp => ?_⟩, fun acc e1 e2 => ?_⟩⟩
    · refine we_ix ?_
      repeat walk_at "v"
      refine we_call d1 hr ?_
      repeat walk_at "v"
      refine ⟨(dot z).length, len_str (z := dot z) (by omega), ((dot z).length : Nat), rfl, by omega, fun a a0 a1 => ?_⟩
      obtain ⟨n, n1, _, n3⟩ := pick_sign (z := dot z) (a := a) (by omega) a0 (by omega)
      exact ⟨_, _, rfl, n3, n, rfl, n1⟩
    rw [rangeD_length] at e1
    obtain ⟨l, rfl, hl⟩ := ones_acc (P := fun n => n ∈ (dot z).cps.toList) (acc := acc) fun i y hy => by
      have hi' : i < acc.length := (List.getElem?_eq_some_iff.mp hy).1
      exact e2 i _ y (List.getElem?_eq_getElem (show i < (rangeD 0 _).length by rw [rangeD_length]; omega)) hy
    have ll : 1 ≤ l.length ∧ l.length ≤ 12 := by
      unfold onesD at e1
      rw [List.length_map] at e1
      omega
    obtain ⟨ys, j1, j2, j3⟩ := join_onesD (l := l) (Q := fun d => d = .str ⟨l.toArray⟩) (by omega) rfl
    refine ⟨ys, j1, j2, ?_⟩
    rw [j3]
    clear j1 j2 j3 e1 e2
    obtain ⟨t, et⟩ : ∃ t : Str, t = ⟨l.toArray⟩ := ⟨_, rfl⟩
    have tl : t.cps.toList = l := by rw [et]
    have tn : t.length = l.length := by rw [et]; show l.toArray.size = _; simp
    rw [← et]
    -- the other letters
    refine wss_cons (ws_lcIf 4 10 hN (wi_str ?_))
    repeat walk_at "v"
    refine ⟨OTHERS, rfl, by rw [signs_len]; show 33 ≤ _; omega, fun i acc => acc = onesD ((OTHERS.cps.toList.take i).filter fun n => !decide (n ∈ z.cps.toList)), rfl, fun i d acc hd ha => ?_, fun acc ha => .inl ?_⟩
    · obtain ⟨n, hn, rfl⟩ := signs_get hd
      refine ⟨_, rfl, fun s0 H0 C cl fp => wt_notIn ?_⟩
      repeat walk_at "v"
      have tk : OTHERS.cps.toList.take (i + 1) = OTHERS.cps.toList.take i ++ [n] := by
        rw [List.take_succ, hn]
        rfl
      refine ⟨n, z, rfl, rfl, _, rfl, fun e s1 H1 C1 cl1 fp1 => ?_, fun e => ?_⟩
      · repeat walk_at "v"
        dsimp only at ha ⊢
        rw [ha, tk, List.filter_append, List.filter_cons, if_pos (by simpa using e)]
        unfold onesD
        rw [List.map_append]
        rfl
      · dsimp only at ha ⊢
        rw [ha, tk, List.filter_append, List.filter_cons, if_neg (by simpa using e)]
        simp
    rw [show (Vl.signs OTHERS).length = OTHERS.cps.toList.length from signs_len, List.take_length] at ha
    obtain ⟨ls, els⟩ : ∃ ls, ls = OTHERS.cps.toList.filter fun n => !decide (n ∈ z.cps.toList) := ⟨_, rfl⟩
    rw [← els] at ha
    have lsm : ∀ n ∈ ls, n ∉ (dot z).cps.toList := fun n hn => by
      rw [els, List.mem_filter] at hn
      rw [dot_list]
      have h1 := others_nodot n hn.1
      have h2 : n ∉ z.cps.toList := by simpa using hn.2
      simp [h1, h2]
    have lsl : 1 ≤ ls.length ∧ ls.length ≤ 33 := by
      constructor
      · have : 65 ∈ ls := by
          rw [els, List.mem_filter]
          refine ⟨others_A.1, ?_⟩
          have : (65 : Nat) ∉ z.cps.toList := fun h => others_A.2 (zm _ h)
          simp [this]
        exact List.length_pos_of_mem this
      · rw [els]
        exact Nat.le_trans (List.length_filter_le _ _) (by decide +kernel)
    subst ha
    have ol : (onesD ls).length = ls.length := List.length_map _
    have pickL : ∀ a : Int, 0 ≤ a → a < (ls.length : Int) → ∃ n, n ∈ ls ∧ itemD (.lst (onesD ls)) a = some (.str (one n)) := fun a h0 h1 => by
      have ha : a.toNat < ls.length := by omega
      have ea := List.getElem?_eq_getElem ha
      refine ⟨_, List.getElem_mem ha, ?_⟩
      have := item_lst (xs := onesD ls) (i := a.toNat) (d := .str (one ls[a.toNat])) (by unfold onesD; rw [List.getElem?_map, ea]; rfl)
      rw [Int.toNat_of_nonneg h0] at this
      exact this
    refine wss_cons (ws_set 5 hN rfl (we_ix ?_))
    repeat walk_at "v"
    refine we_call d1 hr ?_
    repeat walk_at "v"
    refine ⟨(onesD ls).length, rfl, ((onesD ls).length : Nat), rfl, by omega, fun a a0 a1 => ?_⟩
    obtain ⟨o, om, oi⟩ := pickL a a0 (by omega)
    refine ⟨_, _, rfl, oi, ?_⟩
    have ob := lsm o om
    refine wss_cons (ws_set 6 hN rfl (we_call d1 hr ?_))
    repeat walk_at "v"
    refine ⟨8, rfl, by decide, fun kd k0 k1 => ?_⟩
    have l1 : (one o).length = 1 := rfl
    have m401 : (Txt.mul t 401).length = t.length * 401 := mul_len t 401
    have m400 : (Txt.mul t 400).length = t.length * 400 := mul_len t 400
    refine wss_cons (ws_if (wt_eq ?_))
    repeat walk_at "v"
    refine eq_int ⟨_, rfl, fun e => ?_, fun e => wss_nil ?_⟩
    · refine wss_one (ws_ret (we_tup ?_))
      refine we_ix (we_lst ?_)
      repeat walk_at "v"
      refine we_lc 11 hN (LC.map (wi_str ?_))
      repeat walk_at "v"
      refine ⟨t, rfl, by rw [signs_len]; omega, fun i x y => y = x, fun i x hi => ⟨_, rfl, fun s0 H0 C cl fp => ?_⟩, fun acc e1 e2 => ?_⟩
      · repeat walk_at "v"
        rfl
      rw [acc_map (g := id) e1 (fun i d y h1 h2 => e2 i d y h1 h2), List.map_id]
      repeat walk_at "v"
      refine we_call d1 hr ?_
      repeat walk_at "v"
      refine ⟨6, rfl, by decide, fun b b0 b1 => ?_⟩
      have cs : b = 0 ∨ b = 1 ∨ b = 2 ∨ b = 3 ∨ b = 4 ∨ b = 5 := by omega
      rcases cs with rfl | rfl | rfl | rfl | rfl | rfl
      · refine ⟨_, _, rfl, rfl, ?_⟩
        repeat walk_at "v"
        exact ⟨1, rfl, k _ _ ⟨rfl, fun _ e => by cases e⟩ (okD_atom rfl) rfl⟩
      · refine ⟨_, _, rfl, rfl, ?_⟩
        repeat walk_at "v"
        exact ⟨1, rfl, k _ _ ⟨rfl, fun _ e => by cases e⟩ (okD_atom rfl) rfl⟩
      · refine ⟨_, _, rfl, rfl, ?_⟩
        repeat walk_at "v"
        exact ⟨1, rfl, k _ _ ⟨rfl, fun _ e => by cases e⟩ (okD_atom rfl) rfl⟩
      · refine ⟨_, _, rfl, rfl, ?_⟩
        repeat walk_at "v"
        refine ⟨1, rfl, k _ _ ⟨rfl, fun _ e => by cases e⟩ (.inr ⟨_, .inl rfl, by rw [signs_len]; omega, fun x hx => ?_⟩) rfl⟩
        obtain ⟨i, hi⟩ := List.getElem?_of_mem hx
        obtain ⟨n, _, rfl⟩ := signs_get hi
        exact okD_atom rfl
      · refine ⟨_, _, rfl, rfl, ?_⟩
        repeat walk_at "v"
        exact ⟨1, rfl, k _ _ ⟨rfl, fun _ e => by cases e⟩ (.inr ⟨_, .inr rfl, by show 1 ≤ _; omega, fun x hx => by rw [List.mem_singleton] at hx; subst hx; exact okD_atom (decide_eq_true (by omega))⟩) rfl⟩
      · refine ⟨_, _, rfl, rfl, ?_⟩
        repeat walk_at "v"
        exact ⟨1, rfl, k _ _ ⟨rfl, fun _ e => by cases e⟩ (.inr ⟨_, .inr rfl, by show 0 ≤ _; omega, fun x hx => by simp at hx⟩) rfl⟩
    refine wss_cons (ws_if (wt_eq ?_))
    repeat walk_at "v"
    refine eq_int ⟨_, rfl, fun e => ?_, fun e => wss_nil ?_⟩
    · refine wss_one (ws_ret (we_tup ?_))
      refine we_sliceS (we_mulS ?_)
      repeat walk_at "v"
      refine ⟨_, _, rfl, rfl, mulOk_of (k := 401) (by omega) (by omega), _, rfl, by rw [m401, sizeLine_eq]; omega, ?_⟩
      show Vl.WE _ _ _ _ _
      refine we_add ?_
      repeat walk_at "v"
      refine we_call d1 hr ?_
      repeat walk_at "v"
      refine ⟨40, rfl, by decide, fun b b0 b1 => ⟨_, _, rfl, rfl, _, rfl, ?_⟩⟩
      repeat walk_at "v"
      have eb : (401 + b : Int) = ((401 + b.toNat : Nat) : Int) := by omega
      have cl : (cutS (Txt.mul t 401) none (some ((401 + b.toNat : Nat) : Int))).length = min (401 + b.toNat) (t.length * 401) := by
        rw [Vl.len_list, cut_pre, List.length_take, ← Vl.len_list, m401]
      refine ⟨1, rfl, ?_⟩
      rw [eb]
      exact ks _ _ (by rw [cl]; omega) (callB_long (by rw [cl]; omega))
    refine wss_cons (ws_set 7 hN rfl (we_call d1 hr ?_))
    repeat walk_at "v"
    refine ⟨t.length, len_str (by omega), (t.length : Nat), rfl, by omega, fun r' r0' r1' => ?_⟩
    obtain ⟨j, rfl⟩ : ∃ j : Nat, r' = (j : Nat) := ⟨r'.toNat, by omega⟩
    have hj : j < t.cps.toList.length := by rw [← Vl.len_list]; omega
    have pre := cut_pre t (k := j)
    have suf := cut_suf t (k := j)
    have preL : (cutS t none (some (j : Nat))).length ≤ t.length := cutS_length _ _ _
    have sufL : (cutS t (some (j : Nat)) none).length ≤ t.length := cutS_length _ _ _
    have tsz : t.length ≤ sizeLine := by rw [sizeLine_eq]; omega
    refine wss_cons (ws_if (wt_eq ?_))
    repeat walk_at "v"
    refine eq_int ⟨_, rfl, fun e => ?_, fun e => wss_nil ?_⟩
    · refine wss_one (ws_ret (we_tup ?_))
      refine we_addS (we_addS (we_sliceS ?_))
      repeat walk_at "v"
      refine ⟨t, rfl, tsz, ?_⟩
      show Vl.WE _ _ _ _ _
      repeat walk_at "v"
      refine ⟨_, rfl, ?_⟩
      repeat walk_at "v"
      refine ⟨_, _, rfl, rfl, by rw [sizeLine_eq, l1]; omega, ?_⟩
      refine we_sliceS (we_mulS ?_)
      repeat walk_at "v"
      refine ⟨_, _, rfl, rfl, mulOk_of (k := 401) (by omega) (by omega), _, rfl, by rw [m401, sizeLine_eq]; omega, ?_⟩
      show Vl.WE _ _ _ _ _
      refine we_add ?_
      repeat walk_at "v"
      refine we_call d1 hr ?_
      repeat walk_at "v"
      refine ⟨30, rfl, by decide, fun b b0 b1 => ⟨_, _, rfl, rfl, _, rfl, ?_⟩⟩
      have eb : (400 + b : Int) = ((400 + b.toNat : Nat) : Int) := by omega
      have cl : (cutS (Txt.mul t 401) none (some ((400 + b.toNat : Nat) : Int))).length = min (400 + b.toNat) (t.length * 401) := by
        rw [Vl.len_list, cut_pre, List.length_take, ← Vl.len_list, m401]
      rw [eb]
      refine ⟨_, _, rfl, rfl, by rw [app_len, cl, l1, sizeLine_eq]; omega, ?_⟩
      repeat walk_at "v"
      refine ⟨1, rfl, ?_⟩
      exact ks _ _ (by rw [app_len, app_len, cl, l1]; omega) (callB_long (by rw [app_len, app_len, cl, l1]; omega))
    refine wss_cons (ws_if (wt_eq ?_))
    repeat walk_at "v"
    refine eq_int ⟨_, rfl, fun e => ?_, fun e => wss_nil ?_⟩
    · refine wss_one (ws_ret (we_tup ?_))
      refine we_addS (we_sliceS (we_mulS ?_))
      repeat walk_at "v"
      refine ⟨_, _, rfl, rfl, mulOk_of (k := 400) (by omega) (by omega), _, rfl, by rw [m400, sizeLine_eq]; omega, ?_⟩
      show Vl.WE _ _ _ _ _
      repeat walk_at "v"
      refine ⟨_, rfl, ?_⟩
      repeat walk_at "v"
      have cp : (cutS (Txt.mul t 400) none (some (399 : Int))).cps.toList = (Txt.mul t 400).cps.toList.take 399 := cut_pre _ (k := 399)
      have cl : (cutS (Txt.mul t 400) none (some (399 : Int))).length = 399 := by
        rw [Vl.len_list, cp, List.length_take, ← Vl.len_list, m400]
        omega
      refine ⟨_, _, rfl, rfl, by rw [cl, l1, sizeLine_eq]; omega, ?_⟩
      repeat walk_at "v"
      refine ks _ _ (by rw [app_len, cl, l1]; omega) (callB_at (i := 399) (b := o) (by rw [app_len, cl, l1]; omega) (fun i n hi hn => ?_) ?_ ob)
      · rw [app_list, List.getElem?_append_left (by rw [← Vl.len_list, cl]; omega), cp] at hn
        have := mul_mem (List.mem_of_mem_take (List.mem_of_getElem? hn))
        rw [tl] at this
        exact hl n this
      · rw [app_list, List.getElem?_append_right (by rw [← Vl.len_list, cl]; omega), ← Vl.len_list, cl]
        rfl
    refine wss_cons (ws_set 8 hN rfl (we_ix ?_))
    repeat walk_at "v"
    refine we_call d1 hr ?_
    repeat walk_at "v"
    refine ⟨(onesD ls).length, rfl, ((onesD ls).length : Nat), rfl, by omega, fun a' a0' a1' => ?_⟩
    obtain ⟨o2, om2, oi2⟩ := pickL a' a0' (by omega)
    refine ⟨_, _, rfl, oi2, ?_⟩
    have l2 : (one o2).length = 1 := rfl
    refine wss_one (ws_ret (we_tup ?_))
    refine we_addS (we_addS (we_addS (we_sliceS ?_)))
    repeat walk_at "v"
    refine ⟨t, rfl, tsz, ?_⟩
    show Vl.WE _ _ _ _ _
    repeat walk_at "v"
    refine ⟨_, rfl, ?_⟩
    repeat walk_at "v"
    refine ⟨_, _, rfl, rfl, by rw [sizeLine_eq, l1]; omega, ?_⟩
    refine we_sliceS ?_
    repeat walk_at "v"
    refine ⟨t, rfl, tsz, ?_⟩
    show Vl.WE _ _ _ _ _
    repeat walk_at "v"
    refine ⟨_, rfl, _, _, rfl, rfl, by rw [app_len, sizeLine_eq, l1]; omega, ?_⟩
    refine we_ix (we_lst ?_)
    repeat walk_at "v"
    refine we_call d1 hr ?_
    repeat walk_at "v"
    have fin : ∀ e : Str, e.length ≤ 1 → callB z (.str (((cutS t none (some (j : Nat)) ++ one o) ++ cutS t (some (j : Nat)) none) ++ e)) = .int (j : Nat) := fun e he => by
      refine callB_at (i := j) (b := o) (by rw [app_len, app_len, app_len, l1]; omega) (fun i n hi hn => ?_) ?_ ob
      · rw [app_list, app_list, app_list, pre, List.append_assoc, List.append_assoc, List.getElem?_append_left (by rw [List.length_take]; omega)] at hn
        have := List.mem_of_mem_take (List.mem_of_getElem? hn)
        rw [tl] at this
        exact hl n this
      · rw [app_list, app_list, app_list, pre, List.append_assoc, List.append_assoc, List.getElem?_append_right (by rw [List.length_take]; omega), List.length_take, Nat.min_eq_left (by omega), Nat.sub_self]
        rfl
    refine ⟨2, rfl, by decide, fun b b0 b1 => ?_⟩
    have cs : b = 0 ∨ b = 1 := by omega
    rcases cs with rfl | rfl
    · refine ⟨_, _, rfl, rfl, _, _, rfl, rfl, ?_, ?_⟩
      · have : ("" : Str).length = 0 := rfl
        rw [app_len, app_len, this, sizeLine_eq, l1]
        omega
      · repeat walk_at "v"
        exact ks _ _ (by have : ("" : Str).length = 0 := rfl; rw [app_len, app_len, app_len, this, l1]; omega) (fin _ (by show 0 ≤ 1; omega))
    · refine ⟨_, _, rfl, rfl, _, _, rfl, rfl, ?_, ?_⟩
      · rw [app_len, app_len, l2, sizeLine_eq, l1]
        omega
      · repeat walk_at "v"
        exact ks _ _ (by rw [app_len, app_len, app_len, l2, l1]; omega) (fin _ (by show 1 ≤ 1; omega))
end
section
set_option maxHeartbeats 8000000
open PySem PySem.Spec PyProof.Rows L2 Vl
variable {cls : Nat → Addr} {P : Program} {w : World} {K : PySem.W.Frag} {mg : Str → Option Value} {base : Heap}
abbrev s_shown : Stmt := top 39
theorem sc_shown : FnScope ["_law_drill", "_law_words_here", "_law_rows_here", "_law_standing", "_law_steady", "_law_row", "_law_number"] ["_law_drill", "_law_words_here", "_law_rows_here"] (defScope s_shown) := ⟨rfl, rfl, rfl, by decide +kernel, rfl, by decide +kernel, by decide +kernel⟩
/-- what the text says of Drill.REST -/
structure DrR (K : PySem.W.Frag) (mg : Str → Option Value) (C : Addr) : Prop where
  nm : mg "Drill" = some (.ref C)
  rd : ClX.CRead K C (.type "type")
  cv : ∃ u, ClX.CVal K C (.type "type") "REST" (.int 0) u
  con : ∃ u, Con K C "REST" (.int 0) u
theorem made_small {z : Str} {m : Nat} {rows : List Row} (h : madeRows z m rows) (hz : z.length ≤ 100) (hm : m ≤ 6) : smallRows rows := ⟨by rw [h.1]; omega, fun r hr => by rw [(h.2.1 r hr).2.2.1]; omega⟩
theorem okD_rowT {rows : List Row} (s : smallRows rows) : ∀ r ∈ rows, okD 2 (rowT r) := fun r hr => by rw [← tupled_rowL]; exact okD_remk (okD_rowL s r hr)
theorem okD_rowsT {rows : List Row} (s : smallRows rows) : okD 3 (rowsT rows) := by rw [← tupled_rowsL]; exact okD_remk (okD_rowsL s)
theorem ne_int {i : Int} {P : D → Prop} (h : P (.bl false)) : FNe (.int i) (.int i) P := ⟨.int i, .int i, rfl, rfl, rfl, by simpa using h⟩
@[irreducible] def fs_shown : FS := fun ds rt _ => ∃ (z : Str) (m : Nat) (rows : List Row), ds = [dril z rows, .str z, rowsT rows] ∧ z.length ≤ 100 ∧ 1 ≤ m ∧ m ≤ 6 ∧ madeRows z m rows ∧ rt (.bl true)
theorem ok_shown {f : Addr} {fd : FuncData} (nb : NB mg) (T : DrC K (cls 25)) (TR : DrR K mg (cls 25)) (d1 : Df P w K mg base cls "_law_same" 4 ["_law_one", "_law_two"] (fs_same 3)) (dl : Dm P w K mg base cls 25 "__len__" 1 ["self"] fs_len) (dg : Dm P w K mg base cls 25 "__getitem__" 4 ["self", "standing"] fs_get)
    (ds : Dp P w K mg base cls 25 "is_steady" 1 fs_steady) (di : ∃ f fd, FnN P w K mg base (L2N.CX P w) 1 f fd ["self"] (spIt K (cls 25) "standings") ∧ Meth K (cls 25) "__iter__" f ∧ Binds K fd ["self"] []) (F : Fun K "_law_shown" "_law_shown" s_shown f fd) :
    FnOk P w K mg base (L2N.CX P w) 6 f fd ["_law_drill", "_law_words_here", "_law_rows_here"] (spOf cls fs_shown) := by
  refine def_ok F sc_shown (fun ds rt ex h => ?_) (fun cdv A outer s H E W R ds' rt ex hr h => ?_)
  · unfold fs_shown at h
    obtain ⟨_, _, _, rfl, _⟩ := h
    rfl
  · unfold fs_shown at h
    obtain ⟨z, m, rows, rfl, hz, m1, m6, hm, k⟩ := h
    have hN := sc_shown.nd
    have sr := made_small hm hz m6
    have hl := hm.1
    refine wss_cons (ws_if (wt_wp (wp_or (wt_not (wt_val (we_call d1 (hr.mono (by decide)) ?_))))))
    refine we_fld T.cl T.nW ?_
    repeat walk_at "v"
    refine ⟨_, _, rfl, rfl, ?_⟩
    repeat walk_at "v"
    refine ⟨.str z, rfl, okD_atom (decide_eq_true (by omega)), _, rfl, ⟨fun e => Bool.noConfusion e, fun _ => ?_⟩⟩
    refine wp_or1 (wt_not (wt_val (we_call d1 (hr.mono (by decide)) ?_)))
    refine we_fld T.cl T.nS ?_
    repeat walk_at "v"
    refine ⟨_, _, rfl, rfl, ?_⟩
    repeat walk_at "v"
    refine ⟨rowsT rows, rfl, okD_rowsT sr, _, rfl, fun e => Bool.noConfusion e, fun _ => wss_nil ?_⟩
    refine wss_cons (ws_if (wt_wp (wp_or (wt_ne (we_lenO nb (Dm.obm dl) (hr.mono (by decide)) ?_ (hp := pe_callB (call_lenO (Dm.obm dl) (hr.mono (by decide))) (by rfl) (nb _ (by decide)) (by decide +kernel) (pa_cons (peU _ _) pa_nil)))))))
    repeat walk_at "v"
    refine ⟨_, rfl, z, rows, rfl, _, rfl, by omega, by omega, ?_⟩
    repeat walk_at "v"
    refine ⟨rows.length, by show some (rows.map rowT).length = _; rw [List.length_map], ne_int ⟨_, rfl, fun e => Bool.noConfusion e, fun _ => ?_⟩⟩
    refine wp_or1 (wt_not (wt_val (we_call d1 (hr.mono (by decide)) ?_)))
    walk_at "v"
    refine we_lc 5 hN (LC.map (wi_own (k := 25) (fl := "standings") ⟨di⟩ (hr.mono (by decide)) ?_))
    repeat walk_at "v"
    refine ⟨_, _, rfl, rfl, by rw [List.length_map]; omega, fun i x y => y = x, fun i x hi => ⟨_, rfl, fun s0 H0 C cl fp => ?_⟩, fun acc e1 e2 => ?_⟩
    · repeat walk_at "v"
      rfl
    rw [acc_map (g := id) e1 (fun i d y h1 h2 => e2 i d y h1 h2), List.map_id]
    refine ⟨_, .inl rfl, ?_⟩
    repeat walk_at "v"
    refine ⟨rowsT rows, rfl, okD_rowsT sr, _, rfl, fun e => Bool.noConfusion e, fun _ => wss_nil ?_⟩
    refine wss_cons (ws_for rfl (wi_range1 (nb _ (by decide)) ?_))
    repeat walk_at "v"
    refine ⟨rows.length, by show some (rows.map rowT).length = _; rw [List.length_map], _, rfl, by omega, by omega, fun i ρ' => ∃ o, ρ' = [some (.val (dril z rows)), some (.val (.str z)), some (.val (rowsT rows)), o, none, none, none], ⟨none, rfl⟩, fun i d ρ' hi hI => ?_, fun ρ' hI => ?_⟩
    · obtain ⟨hlt, rfl⟩ := rangeD_get hi
      have hlt : i < rows.length := by simpa using hlt
      have er := List.getElem?_eq_getElem hlt
      obtain ⟨r, er⟩ : ∃ r, rows[i]? = some r := ⟨_, er⟩
      obtain ⟨o, rfl⟩ := hI
      refine wg_name 3 hN rfl ?_
      refine wss_cons (ws_if (wt_not (wt_val (we_call d1 (hr.mono (by decide)) ?_))))
      refine we_ixO (Dm.obm dg) hr ?_
      repeat walk_at "v"
      refine ⟨_, rfl, ?_⟩
      repeat walk_at "v"
      refine ⟨z, rows, _, rfl, rfl, fun j r' ej er' => ?_, fun e => ?_⟩
      · have : j = i := by
          have := D.int.inj ej
          omega
        subst this
        rw [er] at er'
        cases er'
        refine we_ix ?_
        repeat walk_at "v"
        refine ⟨_, _, rfl, by rw [Int.zero_add]; exact item_tup (by rw [List.getElem?_map, er]; rfl), rowT r, rfl, okD_up (okD_rowT sr r (List.mem_of_getElem? er)), _, rfl, fun e => Bool.noConfusion e, fun _ => wss_nil (wss_nil ⟨_, rfl⟩)⟩
      · have : inB (.int (0 + (i : Nat))) 0 ((rows.length : Int) - 1) = true := inB_of (by omega) (by omega)
        rw [this] at e
        exact Bool.noConfusion e
    · obtain ⟨o, rfl⟩ := hI
      refine wss_cons (ws_set 4 hN rfl (we_all nb (we_lc 6 hN (LC.map (wi_range1 (nb _ (by decide)) ?_)))))
      repeat walk_at "v"
      refine ⟨rows.length, by show some (rows.map rowT).length = _; rw [List.length_map], _, rfl, by omega, by omega, by rw [rangeD_length]; omega, fun i x y => ∃ r, rows[i]? = some r ∧ y = .bl (decide ((r.2.2[0]?).getD (-1) = (i : Int))), fun i x hi => ?_, fun acc a1 a2 => ?_⟩
      · obtain ⟨hlt, rfl⟩ := rangeD_get hi
        have hlt : i < rows.length := by simpa using hlt
        obtain ⟨r, er⟩ : ∃ r, rows[i]? = some r := ⟨_, List.getElem?_eq_getElem hlt⟩
        have hr1 := (hm.2.1 r (List.mem_of_getElem? er)).2.2.1
        obtain ⟨n0, e0⟩ : ∃ n, r.2.2[0]? = some n := ⟨_, List.getElem?_eq_getElem (by omega)⟩
        refine ⟨_, rfl, fun s0 H0 C cl fp => ?_⟩
        refine we_eq (we_ix (we_ix (we_ix ?_)))
        repeat walk_at "v"
        refine ⟨_, _, rfl, by rw [Int.zero_add]; exact item_tup (by rw [List.getElem?_map, er]; rfl), ?_⟩
        repeat walk_at "v"
        refine ⟨_, _, rfl, item_tup (i := 2) rfl, ?_⟩
        repeat walk_at "v"
        refine ⟨_, _, rfl, item_tup (i := 0) (by rw [List.getElem?_map, e0]; rfl), ?_⟩
        repeat walk_at "v"
        refine eq_int ⟨r, er, ?_⟩
        rw [e0, Int.zero_add]
        rfl
      · refine ⟨rows.zipIdx.map fun p : Row × Nat => decide ((p.1.2.2[0]?).getD (-1) = (p.2 : Int)), congrArg D.lst ?_, ?_⟩
        · rw [rangeD_length] at a1
          apply List.ext_getElem?
          intro j
          rw [List.getElem?_map, List.getElem?_map, List.getElem?_zipIdx]
          cases er : rows[j]? with
          | none =>
            have := List.getElem?_eq_none_iff.mp er
            rw [List.getElem?_eq_none (by omega)]
            rfl
          | some r =>
            have hj2 := (List.getElem?_eq_some_iff.mp er).1
            have hj : j < acc.length := by omega
            obtain ⟨r', e1, e2⟩ := a2 j _ _ (List.getElem?_eq_getElem (show j < (rangeD 0 _).length by rw [rangeD_length]; omega)) (List.getElem?_eq_getElem hj)
            rw [er] at e1
            cases e1
            rw [List.getElem?_eq_getElem hj, e2]
            simp
        · refine wss_cons (ws_if (wt_not (wt_val (we_call d1 (hr.mono (by decide)) ?_))))
          refine we_prop T.cl ds (hr.mono (by decide)) ?_
          repeat walk_at "v"
          refine ⟨_, rfl, z, rows, rfl, by omega, fun r hr' => by rw [(hm.2.1 r hr').2.2.1]; omega, ?_⟩
          repeat walk_at "v"
          refine ⟨.bl (steadyB rows), rfl, okD_atom rfl, _, rfl, fun e => Bool.noConfusion e, fun _ => wss_nil ?_⟩
          obtain ⟨u, cv⟩ := TR.cv
          obtain ⟨u2, con⟩ := TR.con
          refine wss_one (ws_ret (we_and (we_call d1 (hr.mono (by decide)) ?_)))
          refine we_cval TR.rd cv (fun _ _ => .int 0) (we_gcl TR.nm ⟨rfl, ?_⟩)
          repeat walk_at "v"
          refine ⟨.int 0, rfl, okD_atom rfl, _, rfl, fun _ => ?_, fun e => Bool.noConfusion e⟩
          refine we_one (we_call d1 (hr.mono (by decide)) ?_)
          refine we_con T.cl con (fun _ _ => .int 0) ?_
          repeat walk_at "v"
          refine ⟨_, rfl, rfl, ?_⟩
          repeat walk_at "v"
          exact ⟨.int 0, rfl, okD_atom rfl, k⟩
end
section
set_option maxHeartbeats 16000000
open PySem PySem.Spec PyProof.Rows L2 Vl
variable {cls : Nat → Addr} {P : Program} {w : World} {K : PySem.W.Frag} {mg : Str → Option Value} {base : Heap}
abbrev s_bad_standing : Stmt := top 45
theorem sc_bad_standing : FnScope ["_law_draw_here", "_law_words_here", "_law_many", "_law_row", "_law_number", "_law_stride", "_law_body", "_law_nexts", "_law_kind", "_law_at", "_law_other"] ["_law_draw_here", "_law_words_here", "_law_many", "_law_row", "_law_number"] (defScope s_bad_standing) := ⟨rfl, rfl, rfl, by decide +kernel, rfl, by decide +kernel, by decide +kernel⟩
/-- a bad standing at the place i of m -/
def badD (s m i : Nat) (d : D) : Prop := okD 3 d ∧ badAt s m i (tupled d) = true
theorem bad_of {s m i : Nat} {d : D} (h : okD 3 d) (h2 : standB (tupled d) s m = false) : badD s m i d := ⟨h, by unfold badAt; rw [h2]; rfl⟩
theorem tup3 (a b c : D) : tupled (.lst [a, b, c]) = .tup [tupled a, tupled b, tupled c] := by rw [tupled_lst]; rfl
theorem stand3 {a b c : D} {s m : Int} (h : inB a (-3) 3 = false ∨ inB b 1 12 = false ∨ nextsB c s m = false) : standB (.tup [a, b, c]) s m = false := by
  show ((inB a (-3) 3 && inB b 1 12) && nextsB c s m) = false
  rcases h with h | h | h <;> rw [h] <;> simp
theorem okD_intsL {ns : List Int} {n : Nat} (h : ns.length ≤ 1000) : okD (n + 1) (.lst (ns.map D.int)) := .inr ⟨_, .inl rfl, by rw [List.length_map]; omega, okD_ints⟩
theorem okD_3 {a b c : D} (h1 : okD 2 a) (h2 : okD 2 b) (h3 : okD 2 c) : okD 3 (.lst [a, b, c]) := .inr ⟨_, .inl rfl, by show 3 ≤ _; omega, fun x hx => by
  simp only [List.mem_cons, List.not_mem_nil, or_false] at hx
  rcases hx with rfl | rfl | rfl <;> assumption⟩
theorem tup_at {d : D} (h : atomD d = true) : tupled d = d := remk_atom h
/-- a number that is no next in the row -/
theorem nexts_bad {ns : List D} {o : D} {s m : Int} {j : Nat} (hj : j < ns.length) (ho : inB o 0 (m - 1) = false) (hoa : atomD o = true) : nextsB (tupled (.lst (ns.take j ++ [o] ++ ns.drop (j + 1)))) s m = false := by
  rw [tupled_lst]
  unfold nextsB
  simp only [Bool.and_eq_false_iff]
  right
  rw [Bool.eq_false_iff]
  intro e
  rw [List.all_map, List.all_eq_true] at e
  have := e (tupled o) (List.mem_map_of_mem (by simp))
  rw [tup_at hoa] at this
  have this : inB o 0 (m - 1) = true := this
  rw [ho] at this
  exact Bool.noConfusion this
theorem nexts_len {xs : List D} {s : Nat} {m : Int} (h : xs.length ≠ s) : nextsB (tupled (.lst xs)) (s : Int) m = false := by
  rw [tupled_lst]
  unfold nextsB
  simp only [List.length_map]
  have : (decide ((s : Int) ≤ (xs.length : Int)) && decide ((xs.length : Int) ≤ (s : Int))) = false := by
    rw [Bool.and_eq_false_iff, decide_eq_false_iff_not, decide_eq_false_iff_not]
    omega
  rw [this]
  rfl
theorem wss_mono' {c : Cy cls} {st : List Stmt} {ρ : Rho} {nx : Rho → Prop} {rt : Rho → D → Prop} {ex : Rho → Xd → Prop} (w : WSs c st ρ { nx := fun _ => False, rt := rt, ex := ex }) : WSs c st ρ { nx := nx, rt := rt, ex := ex } :=
  w.mono (fun _ z => z.elim) (fun _ _ h => h) (fun _ h => h) (fun _ h => h) fun _ _ h => h
def fs_bad_standing : FS := fun ds rt _ => ∃ (z : Str) (m i : Nat) (a b : Int) (ns : List Int), ds = [.own 1, .str z, .int (m : Nat), .lst [.int a, .int b, .lst (ns.map D.int)], .int (i : Nat)] ∧ 1 ≤ z.length ∧ z.length ≤ 100 ∧ 1 ≤ m ∧ m ≤ 6 ∧ rowOk (z.length + 1) m (a, b, ns) ∧ ∀ d, badD (z.length + 1) m i d → rt d
theorem ok_bad_standing {f : Addr} {fd : FuncData} (nb : NB mg) (d1 : Df P w K mg base cls "_law_pick" 2 ["_law_draw_here", "_law_many"] fs_pick) (F : Fun K "_law_bad_standing" "_law_bad_standing" s_bad_standing f fd) :
    FnOk P w K mg base (L2N.CX P w) 3 f fd ["_law_draw_here", "_law_words_here", "_law_many", "_law_row", "_law_number"] (spOf cls fs_bad_standing) := by
  refine def_ok F sc_bad_standing (fun ds rt ex h => ?_) (fun cdv A outer s H E W R ds rt ex hr h => ?_)
  · obtain ⟨_, _, _, _, _, _, rfl, _⟩ := h
    rfl
  · obtain ⟨z, m, i, a, b, ns, rfl, z1, z2, m1, m6, ⟨ra, rb, rl, rn⟩, k⟩ := h
    have hN := sc_bad_standing.nd
    dsimp only at ra rb rl rn
    have nl : (ns.map D.int).length = z.length + 1 := by rw [List.length_map, rl]
    have oN : okD 2 (.lst (ns.map D.int)) := okD_intsL (by omega)
    refine wss_cons (ws_asg ?_)
    repeat walk_at "v"
    refine wg_lst rfl ⟨_, rfl, rfl, wg_name 5 hN rfl (wg_name 6 hN rfl (wg_name 7 hN rfl ?_))⟩
    refine wss_cons (ws_set 8 hN rfl (we_call d1 hr ?_))
    repeat walk_at "v"
    refine ⟨6, rfl, by decide, fun kd k0 k1 => ?_⟩
    refine wss_cons (ws_if (wt_eq ?_))
    repeat walk_at "v"
    refine eq_int ⟨_, rfl, fun e => ?_, fun e => wss_nil ?_⟩
    · -- the stride
      refine wss_one (ws_ret (we_lst ?_))
      refine we_ix (we_lst ?_)
      repeat walk_at "v"
      refine ⟨4, rfl, ?_⟩
      repeat walk_at "v"
      refine ⟨_, _, rfl, rfl, ⟨by decide, by decide, by decide⟩, ?_⟩
      repeat walk_at "v"
      refine we_call d1 hr ?_
      repeat walk_at "v"
      refine ⟨6, rfl, by decide, fun r r0 r1 => ?_⟩
      have fin : ∀ x : D, atomD x = true → inB x (-3) 3 = false → rt (.lst [x, .int b, .lst (ns.map D.int)]) := fun x hx hb => k _ (bad_of (okD_3 (okD_atom hx) (okD_atom rfl) oN) (by rw [tup3, tup_at hx]; exact stand3 (.inl hb)))
      have cs : r = 0 ∨ r = 1 ∨ r = 2 ∨ r = 3 ∨ r = 4 ∨ r = 5 := by omega
      rcases cs with rfl | rfl | rfl | rfl | rfl | rfl
      all_goals
        refine ⟨_, _, rfl, rfl, ?_⟩
        repeat walk_at "v"
        exact fin _ (by decide +kernel) (by decide +kernel)
    refine wss_cons (ws_if (wt_eq ?_))
    repeat walk_at "v"
    refine eq_int ⟨_, rfl, fun e => ?_, fun e => wss_nil ?_⟩
    · -- the body
      refine wss_one (ws_ret (we_lst ?_))
      repeat walk_at "v"
      refine we_ix (we_lst ?_)
      repeat walk_at "v"
      refine ⟨1, rfl, ?_⟩
      repeat walk_at "v"
      refine we_call d1 hr ?_
      repeat walk_at "v"
      refine ⟨6, rfl, by decide, fun r r0 r1 => ?_⟩
      have fin : ∀ x : D, atomD x = true → inB x 1 12 = false → rt (.lst [.int a, x, .lst (ns.map D.int)]) := fun x hx hb => k _ (bad_of (okD_3 (okD_atom rfl) (okD_atom hx) oN) (by rw [tup3, tup_at hx]; exact stand3 (.inr (.inl hb))))
      have cs : r = 0 ∨ r = 1 ∨ r = 2 ∨ r = 3 ∨ r = 4 ∨ r = 5 := by omega
      rcases cs with rfl | rfl | rfl | rfl | rfl | rfl
      all_goals
        refine ⟨_, _, rfl, rfl, ?_⟩
        repeat walk_at "v"
        exact fin _ (by decide +kernel) (by decide +kernel)
    refine wss_cons (ws_if (wt_eq ?_))
    repeat walk_at "v"
    refine eq_int ⟨_, rfl, fun e => ?_, fun e => wss_nil ?_⟩
    · -- one of the nexts
      refine wss_cons (ws_set 9 hN rfl (we_call d1 hr ?_))
      repeat walk_at "v"
      refine ⟨(ns.map D.int).length, rfl, ((ns.map D.int).length : Nat), rfl, by omega, fun r r0 r1 => ?_⟩
      obtain ⟨j, rfl⟩ : ∃ j : Nat, r = (j : Nat) := ⟨r.toNat, by omega⟩
      have hj : j < (ns.map D.int).length := by omega
      refine wss_cons (ws_set 10 hN rfl ?_)
      refine we_ix (we_lst ?_)
      repeat walk_at "v"
      refine ⟨1, rfl, ?_⟩
      repeat walk_at "v"
      refine we_call d1 hr ?_
      repeat walk_at "v"
      refine ⟨6, rfl, by decide, fun q q0 q1 => ?_⟩
      have c1 : Vl.cutD (ns.map D.int) none (some (j : Int)) = (ns.map D.int).take j := by
        unfold Vl.cutD
        rw [HT.sIx_none, HT.sIx_nat, Nat.min_eq_left (by omega)]
        simp
      have c2 : Vl.cutD (ns.map D.int) (some ((j : Int) + 1)) none = (ns.map D.int).drop (j + 1) := by
        unfold Vl.cutD
        rw [show ((j : Int) + 1) = ((j + 1 : Nat) : Int) by omega, HT.sIx_none, HT.sIx_nat, Nat.min_eq_left (by omega), List.take_of_length_le (by rw [List.length_drop]; omega)]
      have fin : ∀ x : D, atomD x = true → inB x 0 ((m : Int) - 1) = false → rt (.lst [.int a, .int b, .lst ((ns.map D.int).take j ++ [x] ++ (ns.map D.int).drop (j + 1))]) := fun x hx hb => k _ (bad_of (okD_3 (okD_atom rfl) (okD_atom rfl) (.inr ⟨_, .inl rfl, by rw [List.length_append, List.length_append, List.length_take, List.length_drop]; show _ + 1 + _ ≤ _; omega, fun y hy => by
        rcases List.mem_append.mp hy with h | h
        · rcases List.mem_append.mp h with h | h
          · exact okD_ints y (List.mem_of_mem_take h)
          · rw [List.mem_singleton] at h
            subst h
            exact okD_atom hx
        · exact okD_ints y (List.mem_of_mem_drop h)⟩)) (by rw [tup3]; exact stand3 (.inr (.inr (nexts_bad hj hb hx)))))
      have tail : ∀ x : D, atomD x = true → inB x 0 ((m : Int) - 1) = false → WSs (cyOf P w K mg base ["_law_draw_here", "_law_words_here", "_law_many", "_law_row", "_law_number", "_law_stride", "_law_body", "_law_nexts", "_law_kind", "_law_at", "_law_other"] "_law_bad_standing" (defScope s_bad_standing) f cdv A outer s H E W R)
          ((ifBody ((defBody s_bad_standing).getD 4 (.Pass ⟨0, 0, 0, 0⟩))).drop 2) [some (.val (.own 1)), some (.val (.str z)), some (.val (.int (m : Nat))), some (.val (.lst [.int a, .int b, .lst (ns.map D.int)])), some (.val (.int (i : Nat))), some (.val (.int a)), some (.val (.int b)), some (.val (.lst (ns.map D.int))), some (.val (.int kd)), some (.val (.int (j : Nat))), some (.val x)]
          { nx := fun _ => False, rt := fun _ => rt, ex := fun _ => ex } := fun x hx hb => by
        refine wss_one (ws_ret (we_lst ?_))
        repeat walk_at "v"
        refine we_addL (we_addL (we_sliceL ?_))
        repeat walk_at "v"
        refine ⟨_, rfl, ?_⟩
        show Vl.WE _ _ _ _ _
        repeat walk_at "v"
        refine ⟨_, rfl, ?_⟩
        repeat walk_at "v"
        refine ⟨_, _, rfl, rfl, by rw [c1, List.length_take]; show _ + 1 ≤ _; omega, ?_⟩
        refine we_sliceL ?_
        repeat walk_at "v"
        refine ⟨_, rfl, ?_⟩
        show Vl.WE _ _ _ _ _
        refine we_add ?_
        repeat walk_at "v"
        refine ⟨_, _, rfl, rfl, _, rfl, ?_⟩
        have z := fin x hx hb
        rw [← c1, ← c2] at z
        exact ⟨_, _, rfl, rfl, by rw [c1, c2, List.length_append, List.length_take, List.length_drop]; show _ + 1 + _ ≤ _; omega, z⟩
      have cs : q = 0 ∨ q = 1 ∨ q = 2 ∨ q = 3 ∨ q = 4 ∨ q = 5 := by omega
      rcases cs with rfl | rfl | rfl | rfl | rfl | rfl
      · exact ⟨_, _, rfl, rfl, wss_mono' (tail _ rfl (by show (decide ((0 : Int) ≤ (m : Int)) && decide ((m : Int) ≤ (m : Int) - 1)) = false; rw [decide_eq_false (show ¬ (m : Int) ≤ (m : Int) - 1 by omega)]; simp))⟩
      · exact ⟨_, _, rfl, rfl, wss_mono' (tail _ rfl rfl)⟩
      · exact ⟨_, _, rfl, rfl, wss_mono' (tail _ rfl rfl)⟩
      · exact ⟨_, _, rfl, rfl, wss_mono' (tail _ rfl rfl)⟩
      · exact ⟨_, _, rfl, rfl, wss_mono' (tail _ rfl rfl)⟩
      · exact ⟨_, _, rfl, rfl, wss_mono' (tail _ rfl rfl)⟩
    refine wss_cons (ws_if (wt_eq ?_))
    repeat walk_at "v"
    refine eq_int ⟨_, rfl, fun e => ?_, fun e => wss_nil ?_⟩
    · -- the nexts
      refine wss_one (ws_ret (we_lst ?_))
      repeat walk_at "v"
      refine we_ix (we_lst ?_)
      refine we_addL ?_
      repeat walk_at "v"
      refine ⟨_, _, rfl, rfl, by show _ + 1 ≤ _; omega, ?_⟩
      refine we_sliceL ?_
      repeat walk_at "v"
      refine ⟨_, rfl, ?_⟩
      show Vl.WE _ _ _ _ _
      repeat walk_at "v"
      refine ⟨_, rfl, ?_⟩
      refine we_lst (show WAs _ _ _ [] _ from ?_)
      refine we_non (we_int (we_mulS ?_))
      repeat walk_at "v"
      refine ⟨(ns.map D.int).length, rfl, _, _, rfl, rfl, mulOk_of (by show 1 ≤ 1000; omega) (by omega), ?_⟩
      repeat walk_at "v"
      refine we_call d1 hr ?_
      repeat walk_at "v"
      refine ⟨6, rfl, by decide, fun r r0 r1 => ?_⟩
      have c1 : Vl.cutD (ns.map D.int) (some (1 : Int)) none = (ns.map D.int).drop 1 := by
        unfold Vl.cutD
        rw [show (1 : Int) = ((1 : Nat) : Int) from rfl, HT.sIx_none, HT.sIx_nat, Nat.min_eq_left (by omega), List.take_of_length_le (by rw [List.length_drop]; omega)]
      have fin : ∀ x : D, okD 2 x → nextsB (tupled x) ((z.length + 1 : Nat) : Int) (m : Int) = false → rt (.lst [.int a, .int b, x]) := fun x hx hb => k _ (bad_of (okD_3 (okD_atom rfl) (okD_atom rfl) hx) (by rw [tup3]; exact stand3 (.inr (.inr hb))))
      have oI : ∀ xs : List D, xs.length ≤ 1000 → (∀ x ∈ xs, okD 1 x) → okD 2 (.lst xs) := fun xs h1 h2 => .inr ⟨_, .inl rfl, by omega, h2⟩
      have cs : r = 0 ∨ r = 1 ∨ r = 2 ∨ r = 3 ∨ r = 4 ∨ r = 5 := by omega
      rcases cs with rfl | rfl | rfl | rfl | rfl | rfl
      · refine ⟨_, _, rfl, rfl, ?_⟩
        repeat walk_at "v"
        refine fin _ (oI _ (by rw [List.length_append]; show _ + 1 ≤ _; omega) fun x hx => ?_) (nexts_len (by rw [List.length_append]; show _ + 1 ≠ _; omega))
        rcases List.mem_append.mp hx with h | h
        · exact okD_ints x h
        · rw [List.mem_singleton] at h
          subst h
          exact okD_atom rfl
      · refine ⟨_, _, rfl, rfl, ?_⟩
        repeat walk_at "v"
        have z := fin _ (oI _ (by rw [List.length_drop]; omega) fun x hx => okD_ints x (List.mem_of_mem_drop hx)) (nexts_len (xs := (ns.map D.int).drop 1) (by rw [List.length_drop]; omega))
        rw [← c1] at z
        exact z
      · refine ⟨_, _, rfl, rfl, ?_⟩
        repeat walk_at "v"
        exact fin _ (oI _ (by show 0 ≤ _; omega) fun x hx => by simp at hx) (nexts_len (by show 0 ≠ _; omega))
      · refine ⟨_, _, rfl, rfl, ?_⟩
        repeat walk_at "v"
        exact fin _ (okD_atom rfl) rfl
      · refine ⟨_, _, rfl, rfl, ?_⟩
        repeat walk_at "v"
        exact fin _ (okD_atom rfl) rfl
      · refine ⟨_, _, rfl, rfl, ?_⟩
        repeat walk_at "v"
        have ml := mul_len (⟨#[48]⟩ : Str) (ns.map D.int).length
        exact fin _ (okD_atom (decide_eq_true (by
          have : (⟨#[48]⟩ : Str).length = 1 := rfl
          have h2 : (Txt.mul (⟨#[48]⟩ : Str) ((ns.map D.int).length : Nat)).length ≤ 1000000 := by rw [ml, this]; omega
          exact h2))) rfl
    refine wss_cons (ws_if (wt_wp (wp_or (wt_eq ?_))))
    repeat walk_at "v"
    have other : WSs (cyOf P w K mg base ["_law_draw_here", "_law_words_here", "_law_many", "_law_row", "_law_number", "_law_stride", "_law_body", "_law_nexts", "_law_kind", "_law_at", "_law_other"] "_law_bad_standing" (defScope s_bad_standing) f cdv A outer s H E W R)
          (ifBody ((defBody s_bad_standing).getD 6 (.Pass ⟨0, 0, 0, 0⟩))) [some (.val (.own 1)), some (.val (.str z)), some (.val (.int (m : Nat))), some (.val (.lst [.int a, .int b, .lst (ns.map D.int)])), some (.val (.int (i : Nat))), some (.val (.int a)), some (.val (.int b)), some (.val (.lst (ns.map D.int))), some (.val (.int kd)), none, none]
          { nx := fun _ => False, rt := fun _ => rt, ex := fun _ => ex } := by
      refine wss_one (ws_ret (we_ix (we_lst ?_)))
      repeat walk_at "v"
      refine we_call d1 hr ?_
      repeat walk_at "v"
      refine ⟨6, rfl, by decide, fun r r0 r1 => ?_⟩
      have fin : ∀ x : D, okD 3 x → standB (tupled x) ((z.length + 1 : Nat) : Int) (m : Int) = false → rt x := fun x hx hb => k _ (bad_of hx hb)
      have oI : ∀ xs : List D, xs.length ≤ 1000 → (∀ x ∈ xs, okD 2 x) → okD 3 (.lst xs) := fun xs h1 h2 => .inr ⟨_, .inl rfl, by omega, h2⟩
      have cs : r = 0 ∨ r = 1 ∨ r = 2 ∨ r = 3 ∨ r = 4 ∨ r = 5 := by omega
      rcases cs with rfl | rfl | rfl | rfl | rfl | rfl
      · refine ⟨_, _, rfl, rfl, fin _ (oI _ (by show 2 ≤ _; omega) fun x hx => ?_) (by rw [tupled_lst]; rfl)⟩
        simp only [List.mem_cons, List.not_mem_nil, or_false] at hx
        rcases hx with rfl | rfl <;> exact okD_atom rfl
      · refine ⟨_, _, rfl, rfl, fin _ (oI _ (by show 4 ≤ _; omega) fun x hx => ?_) (by rw [tupled_lst]; rfl)⟩
        simp only [List.mem_cons, List.not_mem_nil, or_false] at hx
        rcases hx with rfl | rfl | rfl | rfl
        · exact okD_atom rfl
        · exact okD_atom rfl
        · exact oN
        · exact okD_atom rfl
      · exact ⟨_, _, rfl, rfl, fin _ (oI _ (by show 0 ≤ _; omega) fun x hx => by simp at hx) (by rw [tupled_lst]; rfl)⟩
      · exact ⟨_, _, rfl, rfl, fin _ (okD_atom rfl) rfl⟩
      · exact ⟨_, _, rfl, rfl, fin _ (okD_atom rfl) rfl⟩
      · exact ⟨_, _, rfl, rfl, fin _ (okD_atom (by decide +kernel)) rfl⟩
    refine eq_int ⟨_, rfl, fun e => ⟨fun _ => wss_mono' other, fun z => Bool.noConfusion z⟩, fun e => ?_⟩
    refine wp_or1 (wt_gt ?_)
    repeat walk_at "v"
    refine ⟨_, _, rfl, rfl, _, rfl, fun e => wss_mono' other, fun e => wss_nil ?_⟩
    have i0 : i = 0 := by
      have := of_decide_eq_false e
      omega
    subst i0
    have nst : ∀ (s' m' : Nat) (x : Int) (y : D) (n : Int) (t : List D), (x ≠ 0 ∨ n ≠ 0) → badAt s' m' 0 (.tup [.int x, y, .tup (.int n :: t)]) = true := fun s' m' x y n t h => by
      show (!standB _ _ _ || (true && !(decide (x = 0) && decide (n = 0)))) = true
      have : (decide (x = 0) && decide (n = 0)) = false := by
        rw [Bool.and_eq_false_iff, decide_eq_false_iff_not, decide_eq_false_iff_not]
        exact h
      rw [this]
      simp
    have last : WSs (cyOf P w K mg base ["_law_draw_here", "_law_words_here", "_law_many", "_law_row", "_law_number", "_law_stride", "_law_body", "_law_nexts", "_law_kind", "_law_at", "_law_other"] "_law_bad_standing" (defScope s_bad_standing) f cdv A outer s H E W R)
          ((defBody s_bad_standing).drop 8) [some (.val (.own 1)), some (.val (.str z)), some (.val (.int (m : Nat))), some (.val (.lst [.int a, .int b, .lst (ns.map D.int)])), some (.val (.int (0 : Nat))), some (.val (.int a)), some (.val (.int b)), some (.val (.lst (ns.map D.int))), some (.val (.int kd)), none, none]
          { nx := fun _ => rt .non, rt := fun _ => rt, ex := fun _ => ex } := by
      refine wss_one (ws_ret (we_lst ?_))
      refine we_ix (we_lst ?_)
      repeat walk_at "v"
      refine ⟨1, rfl, ?_⟩
      repeat walk_at "v"
      refine ⟨3, rfl, ?_⟩
      refine we_call d1 hr ?_
      repeat walk_at "v"
      refine ⟨4, rfl, by decide, fun r r0 r1 => ?_⟩
      match ns, rl with
      | n :: ns, rl =>
        have fin : ∀ x : Int, x ≠ 0 → rt (.lst [.int x, .int b, .lst ((n :: ns).map D.int)]) := fun x hx => k _ ⟨okD_3 (okD_atom rfl) (okD_atom rfl) oN, by
          rw [tup3, tupled_lst, tupled_ints]
          exact nst _ _ x _ n _ (.inl hx)⟩
        have cs : r = 0 ∨ r = 1 ∨ r = 2 ∨ r = 3 := by omega
        rcases cs with rfl | rfl | rfl | rfl
        all_goals
          refine ⟨_, _, rfl, rfl, ?_⟩
          repeat walk_at "v"
          exact fin _ (by decide)
    refine wss_cons (ws_if (wt_wp (wp_and (wt_gt ?_))))
    repeat walk_at "v"
    refine ⟨_, _, rfl, rfl, _, rfl, fun e => ?_, fun e => ⟨fun z => Bool.noConfusion z, fun _ => wss_nil last⟩⟩
    have m2 : 2 ≤ m := by
      have := of_decide_eq_true e
      omega
    refine wp_and1 (wt_eq (we_call d1 hr ?_))
    repeat walk_at "v"
    refine ⟨2, rfl, by decide, fun r r0 r1 => ?_⟩
    repeat walk_at "v"
    refine eq_int ⟨_, rfl, fun e => ?_, fun e => wss_nil last⟩
    refine wss_one (ws_ret (we_lst ?_))
    repeat walk_at "v"
    refine we_addL (we_lst ?_)
    refine we_add ?_
    repeat walk_at "v"
    refine we_call d1 hr ?_
    repeat walk_at "v"
    refine ⟨_, _, rfl, rfl, _, rfl, by omega, fun q q0 q1 => ⟨_, _, rfl, rfl, ?_⟩⟩
    repeat walk_at "v"
    refine we_sliceL ?_
    repeat walk_at "v"
    refine ⟨_, rfl, ?_⟩
    show Vl.WE _ _ _ _ _
    repeat walk_at "v"
    refine ⟨_, rfl, ?_⟩
    have c1 : Vl.cutD (ns.map D.int) (some (1 : Int)) none = (ns.map D.int).drop 1 := by
      unfold Vl.cutD
      rw [show (1 : Int) = ((1 : Nat) : Int) from rfl, HT.sIx_none, HT.sIx_nat, Nat.min_eq_left (by omega), List.take_of_length_le (by rw [List.length_drop]; omega)]
    refine ⟨_, _, rfl, rfl, by rw [c1, List.length_drop]; show 1 + _ ≤ _; omega, ?_⟩
    rw [c1]
    refine k _ ⟨okD_3 (okD_atom rfl) (okD_atom rfl) (.inr ⟨_, .inl rfl, by rw [List.length_append, List.length_drop]; show 1 + _ ≤ _; omega, fun x hx => ?_⟩), ?_⟩
    · rcases List.mem_append.mp hx with h | h
      · rw [List.mem_singleton] at h
        subst h
        exact okD_atom rfl
      · exact okD_ints x (List.mem_of_mem_drop h)
    · rw [tup3, tupled_lst, List.map_append]
      exact nst _ _ 0 _ (1 + q) _ (.inr (by omega))
end
section
set_option maxHeartbeats 16000000
open PySem PySem.Spec PyProof.Rows L2 Vl
variable {cls : Nat → Addr} {P : Program} {w : World} {K : PySem.W.Frag} {mg : Str → Option Value} {base : Heap}
abbrev s_bad_standings : Stmt := top 46
theorem sc_bad_standings : FnScope ["_law_draw_here", "_law_words_here", "_law_rows_here", "_law_many", "_law_other", "_law_menu", "_law_at", "_law_found", "_law_second", "_law_row"] ["_law_draw_here", "_law_words_here", "_law_rows_here"] (defScope s_bad_standings) := ⟨rfl, rfl, rfl, by decide +kernel, rfl, by decide +kernel, by decide +kernel⟩
theorem good_at {z : Str} {m j : Nat} {rows : List Row} {r : Row} (h : madeRows z m rows) (hr : rows[j]? = some r) : badAt (z.length + 1) m j (rowT r) = false := by
  have ro := h.2.1 r (List.mem_of_getElem? hr)
  unfold badAt
  rw [standB_of ro]
  by_cases hj : j = 0
  · subst hj
    obtain ⟨r', e, h1, h2⟩ := h.2.2
    rw [hr] at e
    cases e
    obtain ⟨a, b, ns⟩ := r
    dsimp only at h1 h2
    subst h1
    cases ns with
    | nil => cases h2
    | cons n ns =>
      cases h2
      rfl
  · simp [hj]
theorem wrong_made {z : Str} {m : Nat} {rows : List Row} (h : madeRows z m rows) (h1 : 1 ≤ m) (h2 : m ≤ 6) : wrongD (z.length + 1) (rowsT rows) = .non := by
  have ln : (rows.map rowT).length = m := by rw [List.length_map, h.1]
  rw [wrongD_tup, if_pos (by omega)]
  have : (rows.map rowT).zipIdx.findIdx? (fun p => badAt (z.length + 1) (rows.map rowT).length p.2 p.1) = none := find_none fun j p hp => by
    obtain ⟨e1, e2⟩ := zip_at hp
    rw [List.getElem?_map] at e1
    cases er : rows[j]? with
    | none => rw [er] at e1; cases e1
    | some r =>
      rw [er] at e1
      have e1 : rowT r = p.1 := Option.some.inj e1
      rw [e2, ln, ← e1]
      exact good_at h er
  rw [this]
theorem rep_len {α : Type} (l : List α) : ∀ n, (List.replicate n l).flatten.length = n * l.length
  | 0 => by simp
  | n + 1 => by rw [List.replicate_succ, List.flatten_cons, List.length_append, rep_len l n, Nat.succ_mul]; omega
theorem wrong_len {s : Nat} {xs : List D} (h : xs.length = 0 ∨ 6 < xs.length) : wrongD s (.tup xs) = .int (-1) := by
  rw [wrongD_tup, if_neg (by omega)]
theorem wrong_first {z : Str} {m at_ : Nat} {rows : List Row} {fs : List D} {d : D} (h : madeRows z m rows) (h1 : 1 ≤ m) (h2 : m ≤ 6) (hl : fs.length = m) (hlt : ∀ j, j < at_ → fs[j]? = (rows[j]?).map rowL) (hat : fs[at_]? = some d) (hb : badAt (z.length + 1) m at_ (tupled d) = true) :
    wrongD (z.length + 1) (tupled (.lst fs)) = .int (at_ : Nat) := by
  rw [tupled_lst]
  have ln : (fs.map tupled).length = m := by rw [List.length_map, hl]
  rw [wrongD_tup, if_pos (by omega)]
  have : (fs.map tupled).zipIdx.findIdx? (fun p => badAt (z.length + 1) (fs.map tupled).length p.2 p.1) = some at_ := find_some (x := (tupled d, at_)) (fun j p hj hp => by
    obtain ⟨e1, e2⟩ := zip_at hp
    rw [List.getElem?_map, hlt j hj] at e1
    cases er : rows[j]? with
    | none => rw [er] at e1; cases e1
    | some r =>
      rw [er] at e1
      have e1 : tupled (rowL r) = p.1 := Option.some.inj e1
      rw [e2, ln, ← e1, tupled_rowL]
      exact good_at h er) (by rw [List.getElem?_zipIdx, List.getElem?_map, hat]; simp) (by rw [ln]; exact hb)
  rw [this]
def fs_bad_standings : FS := fun ds rt _ => ∃ (z : Str) (m : Nat) (rows : List Row), ds = [.own 1, .str z, rowsL rows] ∧ 1 ≤ z.length ∧ z.length ≤ 100 ∧ 1 ≤ m ∧ m ≤ 6 ∧ madeRows z m rows ∧ ∀ d (y : Int), okD 4 d → wrongD (z.length + 1) (tupled d) = .int y → rt (.tup [d, .int y])
theorem ok_bad_standings {f : Addr} {fd : FuncData} (nb : NB mg) (d1 : Df P w K mg base cls "_law_pick" 2 ["_law_draw_here", "_law_many"] fs_pick) (d2 : Df P w K mg base cls "_law_bad_standing" 3 ["_law_draw_here", "_law_words_here", "_law_many", "_law_row", "_law_number"] fs_bad_standing)
    (d3 : Df P w K mg base cls "_law_listed" 3 ["_law_thing"] (fs_listed 2)) (d4 : Df P w K mg base cls "_law_tupled" 5 ["_law_thing"] (fs_tupled 4)) (F : Fun K "_law_bad_standings" "_law_bad_standings" s_bad_standings f fd) :
    FnOk P w K mg base (L2N.CX P w) 6 f fd ["_law_draw_here", "_law_words_here", "_law_rows_here"] (spOf cls fs_bad_standings) := by
  refine def_ok F sc_bad_standings (fun ds rt ex h => ?_) (fun cdv A outer s H E W R ds rt ex hr h => ?_)
  · obtain ⟨_, _, _, rfl, _⟩ := h
    rfl
  · obtain ⟨z, m, rows, rfl, z1, z2, m1, m6, hm, k⟩ := h
    have hN := sc_bad_standings.nd
    have sr := made_small hm z2 m6
    have hl := hm.1
    have rL : (rows.map rowL).length = m := by rw [List.length_map, hl]
    have lenR : lenD (rowsL rows) = some m := by show some (rows.map rowL).length = _; rw [rL]
    refine wss_cons (ws_set 3 hN rfl ?_)
    repeat walk_at "v"
    refine ⟨m, lenR, ?_⟩
    refine wss_cons (ws_if (wt_eq (we_call d1 (hr.mono (by decide)) ?_)))
    repeat walk_at "v"
    refine ⟨4, rfl, by decide, fun r r0 r1 => ?_⟩
    repeat walk_at "v"
    refine eq_int ⟨_, rfl, fun e => ?_, fun e => wss_nil ?_⟩
    · refine wss_cons (ws_set 4 hN rfl (we_ix ?_))
      repeat walk_at "v"
      refine we_call d1 (hr.mono (by decide)) ?_
      repeat walk_at "v"
      refine ⟨_, rfl, by omega, fun a a0 a1 => ?_⟩
      have ha : a.toNat < rows.length := by omega
      obtain ⟨ro, er⟩ : ∃ ro, rows[a.toNat]? = some ro := ⟨_, List.getElem?_eq_getElem ha⟩
      have eo : itemD (rowsL rows) a = some (rowL ro) := by
        have := item_lst (xs := rows.map rowL) (i := a.toNat) (d := rowL ro) (by rw [List.getElem?_map, er]; rfl)
        rw [Int.toNat_of_nonneg a0] at this
        exact this
      refine ⟨_, _, rfl, eo, ?_⟩
      refine wss_cons (ws_set 5 hN rfl (we_lst ?_))
      refine we_lst (show WAs _ _ _ [] _ from ?_)
      refine we_tup (show WAs _ _ _ [] _ from ?_)
      refine we_sliceL (we_mulL ?_)
      repeat walk_at "v"
      refine ⟨_, 7, rfl, rfl, by omega, by rw [rL]; omega, _, rfl, ?_⟩
      show Vl.WE _ _ _ _ _
      repeat walk_at "v"
      refine ⟨_, rfl, ?_⟩
      refine we_non (we_int (we_str (we_bl ?_)))
      refine we_addT (we_tupleOf nb ?_)
      repeat walk_at "v"
      refine ⟨_, .inl rfl, ?_⟩
      refine we_mulT ?_
      repeat walk_at "v"
      refine ⟨_, 6, rfl, rfl, by omega, by omega, by simp, by show 1 ≤ _; omega, _, _, rfl, rfl, by rw [rL]; show _ + 6 ≤ _; omega, ?_⟩
      refine wss_one (ws_ret (we_tup (we_ix ?_)))
      repeat walk_at "v"
      refine we_call d1 (hr.mono (by decide)) ?_
      repeat walk_at "v"
      refine ⟨8, rfl, by decide, fun q q0 q1 => ?_⟩
      have okR : ∀ x ∈ rows.map rowL, okD 3 x := fun x hx => by
        obtain ⟨r, hr, rfl⟩ := List.mem_map.mp hx
        exact okD_up (okD_rowL sr r hr)
      have c7 : (Vl.cutD (List.replicate 7 (rows.map rowL)).flatten none (some (7 : Int))).length = 7 := by
        have fl : (List.replicate 7 (rows.map rowL)).flatten.length = 7 * m := by rw [rep_len, rL]
        unfold Vl.cutD
        rw [show (7 : Int) = ((7 : Nat) : Int) from rfl, HT.sIx_none, HT.sIx_nat, fl, Nat.min_eq_left (by omega), List.length_take, List.length_drop, fl]
        omega
      have cs : q = 0 ∨ q = 1 ∨ q = 2 ∨ q = 3 ∨ q = 4 ∨ q = 5 ∨ q = 6 ∨ q = 7 := by omega
      rcases cs with rfl | rfl | rfl | rfl | rfl | rfl | rfl | rfl
      · refine ⟨_, _, rfl, rfl, ?_⟩
        repeat walk_at "v"
        exact ⟨1, rfl, k _ _ (.inr ⟨_, .inl rfl, by show 0 ≤ _; omega, fun x hx => by simp at hx⟩) (by rw [tupled_lst]; exact wrong_len (.inl rfl))⟩
      · refine ⟨_, _, rfl, rfl, ?_⟩
        repeat walk_at "v"
        exact ⟨1, rfl, k _ _ (.inr ⟨_, .inr rfl, by show 0 ≤ _; omega, fun x hx => by simp at hx⟩) (by rw [tupled_tup]; exact wrong_len (.inl rfl))⟩
      · refine ⟨_, _, rfl, rfl, ?_⟩
        repeat walk_at "v"
        refine ⟨1, rfl, k _ _ (.inr ⟨_, .inl rfl, by rw [c7]; omega, fun x hx => okR x ?_⟩) (by rw [tupled_lst]; exact wrong_len (.inr (by rw [List.length_map, c7]; omega)))⟩
        have := List.mem_of_mem_drop (List.mem_of_mem_take hx)
        obtain ⟨l, hl1, hl2⟩ := List.mem_flatten.mp this
        rw [(List.mem_replicate.mp hl1).2] at hl2
        exact hl2
      · refine ⟨_, _, rfl, rfl, ?_⟩
        repeat walk_at "v"
        exact ⟨1, rfl, k _ _ (okD_atom rfl) rfl⟩
      · refine ⟨_, _, rfl, rfl, ?_⟩
        repeat walk_at "v"
        exact ⟨1, rfl, k _ _ (okD_atom rfl) rfl⟩
      · refine ⟨_, _, rfl, rfl, ?_⟩
        repeat walk_at "v"
        exact ⟨1, rfl, k _ _ (okD_atom (by decide +kernel)) rfl⟩
      · refine ⟨_, _, rfl, rfl, ?_⟩
        repeat walk_at "v"
        exact ⟨1, rfl, k _ _ (okD_atom rfl) rfl⟩
      · refine ⟨_, _, rfl, rfl, ?_⟩
        repeat walk_at "v"
        refine ⟨1, rfl, k _ _ (.inr ⟨_, .inr rfl, by rw [List.length_append, rL]; show _ + 6 ≤ _; omega, fun x hx => ?_⟩) (by rw [tupled_tup]; exact wrong_len (.inr (by rw [List.length_map, List.length_append, rL]; show 6 < _ + 6; omega)))⟩
        rcases List.mem_append.mp hx with h | h
        · exact okR x h
        · obtain ⟨l, hl1, hl2⟩ := List.mem_flatten.mp h
          rw [(List.mem_replicate.mp hl1).2, List.mem_singleton] at hl2
          subst hl2
          exact okD_up (okD_rowL sr ro (List.mem_of_getElem? er))
    refine wss_cons (ws_set 6 hN rfl (we_call d1 (hr.mono (by decide)) ?_))
    repeat walk_at "v"
    refine ⟨_, rfl, by omega, fun a a0 a1 => ?_⟩
    obtain ⟨j, rfl⟩ : ∃ j : Nat, a = (j : Nat) := ⟨a.toNat, by omega⟩
    have jm : j < m := by omega
    refine wss_cons (ws_lc 7 9 hN (LC.map (wi_list ?_)))
    repeat walk_at "v"
    refine ⟨_, rfl, by rw [rL]; omega, fun i x y => y = x, fun i x hi => ⟨_, rfl, fun s0 H0 C cl fp => ?_⟩, fun acc e1 e2 => .inr ?_⟩
    · rw [List.getElem?_map] at hi
      cases er : rows[i]? with
      | none => rw [er] at hi; cases hi
      | some r' =>
        rw [er] at hi
        cases hi
        refine we_call d3 (hr.mono (by decide)) ?_
        repeat walk_at "v"
        exact ⟨_, rfl, okD_rowL sr r' (List.mem_of_getElem? er), listed_rowL r'⟩
    rw [acc_map (g := id) e1 (fun i d y h1 h2 => e2 i d y h1 h2), List.map_id]
    have rowAt : ∀ i : Nat, i < m → ∃ r', rows[i]? = some r' ∧ itemD (rowsL rows) (i : Int) = some (rowL r') ∧ rowOk (z.length + 1) m r' := fun i hi => by
      obtain ⟨r', er⟩ : ∃ r', rows[i]? = some r' := ⟨_, List.getElem?_eq_getElem (by omega)⟩
      exact ⟨r', er, item_lst (by rw [List.getElem?_map, er]; rfl), hm.2.1 r' (List.mem_of_getElem? er)⟩
    obtain ⟨rj, erj, irj, orj⟩ := rowAt j jm
    refine wss_cons (ws_oset 7 rfl rfl (we_call d2 (hr.mono (by decide)) ?_))
    repeat walk_at "v"
    refine we_ix ?_
    repeat walk_at "v"
    refine ⟨_, _, rfl, irj, ?_⟩
    repeat walk_at "v"
    refine ⟨z, m, j, rj.1, rj.2.1, rj.2.2, rfl, z1, z2, m1, m6, orj, fun d bd => ?_⟩
    repeat walk_at "v"
    refine ⟨_, j, rfl, ixN_nat (by rw [rL]; exact jm), ?_⟩
    refine wss_cons (ws_set 8 hN rfl (we_add ?_))
    refine we_add ?_
    repeat walk_at "v"
    refine ⟨_, _, rfl, rfl, ?_⟩
    refine we_call d1 (hr.mono (by decide)) ?_
    repeat walk_at "v"
    refine ⟨3, rfl, by decide, fun b b0 b1 => ⟨_, _, rfl, rfl, ?_⟩⟩
    obtain ⟨sc, esc⟩ : ∃ sc : Nat, (j : Int) + 1 + b = (sc : Nat) := ⟨(j + 1 + b).toNat, by omega⟩
    rw [esc]
    have okA : ∀ x ∈ (rows.map rowL).set j d, okD 3 x := fun x hx => by
      rcases mem_set' hx with h | h
      · rw [h]; exact bd.1
      · obtain ⟨r, hr, rfl⟩ := List.mem_map.mp h
        exact okD_up (okD_rowL sr r hr)
    have tail : ∀ fs : List D, fs.length = m → (∀ i, i < j → fs[i]? = (rows[i]?).map rowL) → fs[j]? = some d → (∀ x ∈ fs, okD 3 x) → ∀ o9,
        WSs (cyOf P w K mg base ["_law_draw_here", "_law_words_here", "_law_rows_here", "_law_many", "_law_other", "_law_menu", "_law_at", "_law_found", "_law_second", "_law_row"] "_law_bad_standings" (defScope s_bad_standings) f cdv A outer s H E W R)
          ((defBody s_bad_standings).drop 7) [some (.val (.own 1)), some (.val (.str z)), some (.val (rowsL rows)), some (.val (.int (m : Nat))), none, none, some (.val (.int (j : Nat))), some (.lst fs), some (.val (.int (sc : Nat))), o9]
          { nx := fun _ => rt .non, rt := fun _ => rt, ex := fun _ => ex } := by
      intro fs fl f1 f2 f3 o9
      have okF : okD 4 (.lst fs) := .inr ⟨_, .inl rfl, by omega, f3⟩
      have wr := wrong_first hm m1 m6 fl f1 f2 bd.2
      refine wss_pub 7 rfl (wss_cons (ws_if (wt_eq (we_call d1 (hr.mono (by decide)) ?_))))
      repeat walk_at "v"
      refine ⟨2, rfl, by decide, fun q q0 q1 => ?_⟩
      repeat walk_at "v"
      refine eq_int ⟨_, rfl, fun e => ?_, fun e => wss_nil ?_⟩
      · refine wss_one (ws_ret (we_tup (we_call d4 hr ?_)))
        repeat walk_at "v"
        refine ⟨_, rfl, okF, ?_⟩
        repeat walk_at "v"
        exact k _ _ (okD_remk okF) (by rw [show tupled (tupled (.lst fs)) = tupled (.lst fs) from remk_remk true true okF]; exact wr)
      · refine wss_one (ws_ret (we_tup ?_))
        repeat walk_at "v"
        exact k _ _ okF wr
    have l1 : ((rows.map rowL).set j d).length = m := by rw [List.length_set, rL]
    have first1 : ∀ i, i < j → ((rows.map rowL).set j d)[i]? = (rows[i]?).map rowL := fun i hi => by rw [List.getElem?_set_ne (by omega), List.getElem?_map]
    have at1 : ((rows.map rowL).set j d)[j]? = some d := by rw [List.getElem?_set_self (by rw [rL]; exact jm)]
    have plain := tail _ l1 first1 at1 okA
    refine wss_cons (ws_if (wt_wp (wp_and (wt_lt ?_))))
    repeat walk_at "v"
    refine ⟨_, _, rfl, rfl, _, rfl, fun e => ?_, fun e => ⟨fun z => Bool.noConfusion z, fun _ => wss_nil (plain _)⟩⟩
    have scm : sc < m := by
      have := of_decide_eq_true e
      omega
    refine wp_and1 (wt_eq (we_call d1 (hr.mono (by decide)) ?_))
    repeat walk_at "v"
    refine ⟨2, rfl, by decide, fun q q0 q1 => ?_⟩
    repeat walk_at "v"
    refine eq_int ⟨_, rfl, fun e => ?_, fun e => wss_nil (plain _)⟩
    obtain ⟨rs, ers, irs, ors⟩ := rowAt sc scm
    refine wss_one (ws_oset 7 rfl rfl (we_call d2 (hr.mono (by decide)) ?_))
    repeat walk_at "v"
    refine we_ix ?_
    repeat walk_at "v"
    refine ⟨_, _, rfl, irs, ?_⟩
    repeat walk_at "v"
    refine ⟨z, m, sc, rs.1, rs.2.1, rs.2.2, rfl, z1, z2, m1, m6, ors, fun d' bd' => ?_⟩
    repeat walk_at "v"
    refine ⟨_, sc, rfl, ixN_nat (by rw [l1]; exact scm), ?_⟩
    refine tail _ (by rw [List.length_set, l1]) (fun i hi => by rw [List.getElem?_set_ne (by omega)]; exact first1 i hi) (by rw [List.getElem?_set_ne (by omega)]; exact at1) (fun x hx => ?_) _
    rcases mem_set' hx with h | h
    · rw [h]; exact bd'.1
    · exact okA x h
end
section
set_option maxHeartbeats 16000000
open PySem PySem.Spec PyProof.Rows L2 Vl
variable {cls : Nat → Addr} {P : Program} {w : World} {K : PySem.W.Frag} {mg : Str → Option Value} {base : Heap}
/-! ### == of rows -/
theorem eqv_rowT (r q : Row) : PyData.eqv (pyOf (rowT r)) (pyOf (rowT q)) = decide (r = q) := by
  obtain ⟨a, b, ns⟩ := r
  obtain ⟨a', b', ms⟩ := q
  unfold rowT
  simp only [pyOf, pyOfL, PyData.eqv, PyData.eqvAll, eqv_ints]
  rw [Bool.eq_iff_iff]
  simp
theorem eqv_rowL (r q : Row) : PyData.eqv (pyOf (rowL r)) (pyOf (rowL q)) = decide (r = q) := by
  obtain ⟨a, b, ns⟩ := r
  obtain ⟨a', b', ms⟩ := q
  unfold rowL
  simp only [pyOf, pyOfL, PyData.eqv, PyData.eqvAll, eqv_ints]
  rw [Bool.eq_iff_iff]
  simp
theorem eqv_list {g : Row → D} (hg : ∀ r q, PyData.eqv (pyOf (g r)) (pyOf (g q)) = decide (r = q)) : ∀ xs ys : List Row, PyData.eqvAll (pyOfL (xs.map g)) (pyOfL (ys.map g)) = decide (xs = ys)
  | [], [] => by simp [pyOfL, PyData.eqvAll]
  | [], y :: ys => by simp [pyOfL, PyData.eqvAll]
  | x :: xs, [] => by simp [pyOfL, PyData.eqvAll]
  | x :: xs, y :: ys => by
    simp only [List.map_cons, pyOfL, PyData.eqvAll, hg, eqv_list hg xs ys]
    rw [Bool.eq_iff_iff]
    simp
theorem rowsEq_iff (xs ys : List Row) : rowsEq xs ys = decide (xs = ys) := by
  unfold rowsEq eqB
  rw [pyOf, pyOf, PyData.eqv]
  exact eqv_list eqv_rowT xs ys
theorem lay_rowT (r : Row) : PyData.canLay0 (pyOf (rowT r)) = true ∧ PyData.depth (pyOf (rowT r)) ≤ 2 := by
  obtain ⟨a, b, ns⟩ := r
  obtain ⟨h1, h2⟩ := py_ints ns
  unfold rowT
  simp [pyOf, pyOfL, PyData.canLay0, PyData.canLayAll0, PyData.depth, PyData.depthAll, h1, h2]
theorem lay_rowL (r : Row) : PyData.canLay0 (pyOf (rowL r)) = true ∧ PyData.depth (pyOf (rowL r)) ≤ 2 := by
  obtain ⟨a, b, ns⟩ := r
  obtain ⟨h1, h2⟩ := py_ints ns
  unfold rowL
  simp [pyOf, pyOfL, PyData.canLay0, PyData.canLayAll0, PyData.depth, PyData.depthAll, h1, h2]
theorem lay_list {g : Row → D} (hg : ∀ r, PyData.canLay0 (pyOf (g r)) = true ∧ PyData.depth (pyOf (g r)) ≤ 2) : ∀ xs : List Row, PyData.canLayAll0 (pyOfL (xs.map g)) = true ∧ PyData.depthAll (pyOfL (xs.map g)) ≤ 2
  | [] => by simp [pyOfL, PyData.canLayAll0, PyData.depthAll]
  | x :: xs => by
    obtain ⟨h1, h2⟩ := lay_list hg xs
    obtain ⟨h3, h4⟩ := hg x
    simp only [List.map_cons, pyOfL, PyData.canLayAll0, PyData.depthAll, h1, h3]
    refine ⟨rfl, ?_⟩
    omega
theorem eqOk_T {rows : List Row} (s : smallRows rows) : eqOk (rowsT rows) := by
  refine ⟨⟨3, okD_rowsT s⟩, ?_⟩
  obtain ⟨h1, h2⟩ := lay_list lay_rowT rows
  show (PyData.canLay0 (pyOf (.tup _)) && decide (PyData.depth (pyOf (.tup _)) ≤ 64)) = true
  rw [pyOf, PyData.canLay0, PyData.depth, h1, decide_eq_true (by omega)]
  rfl
/-- words and rows together -/
abbrev worldD (z : Str) (rows : List Row) : D := .tup [.str z, rowsL rows]
theorem str_beq (a b : Str) : (a == b) = decide (a = b) := by
  rw [Bool.eq_iff_iff]
  simp
theorem eqB_world (z y : Str) (rows ros : List Row) : eqB (worldD z rows) (worldD y ros) = (decide (z = y) && decide (rows = ros)) := by
  unfold eqB
  rw [pyOf, pyOf, pyOfL, pyOfL, pyOfL, pyOfL, pyOfL, pyOfL, PyData.eqv, PyData.eqvAll, PyData.eqvAll, PyData.eqvAll, pyOf, pyOf, PyData.eqv, pyOf, pyOf, PyData.eqv, eqv_list eqv_rowL, Bool.and_true, str_beq]
theorem eqOk_world {z : Str} {rows : List Row} (s : smallRows rows) (hz : z.length ≤ 100) (h : ∀ n ∈ z.cps.toList, n < 0x110000) : eqOk (worldD z rows) := by
  refine ⟨⟨4, .inr ⟨_, .inr rfl, by show 2 ≤ _; omega, fun x hx => ?_⟩⟩, ?_⟩
  · simp only [List.mem_cons, List.not_mem_nil, or_false] at hx
    rcases hx with rfl | rfl
    · exact okD_atom (decide_eq_true (by omega))
    · exact okD_rowsL s
  obtain ⟨h1, h2⟩ := lay_list lay_rowL rows
  have e : (z.cps.all fun c => decide (c < 0x110000)) = true := by
    rw [← Array.all_toList, List.all_eq_true]
    intro n hn
    exact decide_eq_true (h n hn)
  show (PyData.canLay0 (pyOf (worldD z rows)) && decide (PyData.depth (pyOf (worldD z rows)) ≤ 64)) = true
  rw [pyOf, pyOfL, pyOfL, pyOfL, PyData.canLay0, PyData.canLayAll0, PyData.canLayAll0, PyData.canLayAll0, PyData.depth, PyData.depthAll, PyData.depthAll, PyData.depthAll, pyOf, pyOf, PyData.canLay0, PyData.canLay0, PyData.depth, PyData.depth, h1, decide_eq_true (by omega)]
  simp only [Bool.and_true]
  exact e
end
section
set_option maxHeartbeats 16000000
open PySem PySem.Spec PyProof.Rows L2 Vl
variable {cls : Nat → Addr} {P : Program} {w : World} {K : PySem.W.Frag} {mg : Str → Option Value} {base : Heap}
abbrev s_equals : Stmt := top 49
theorem sc_equals : FnScope ["_law_draw_here", "_law_drill", "_law_words_here", "_law_rows_here", "_law_other", "_law_at", "_law_letters"] ["_law_draw_here", "_law_drill", "_law_words_here", "_law_rows_here"] (defScope s_equals) := ⟨rfl, rfl, rfl, by decide +kernel, rfl, by decide +kernel, by decide +kernel⟩
/-- what == with a drill must be told of the other's class -/
structure DrN (K : PySem.W.Frag) (C : Addr) : Prop where
  nf : PySem.W.notFirst K C (.ref C) = true
  nl : PySem.W.notFirst K C (.type "list") = true
  ni : PySem.W.notFirst K C (.type "int") = true
theorem fi_good {z : Str} {k m : Nat} {rows : List Row} {d : D} {rt : List (Str × D) → Prop} {ex : Xd → Prop} (g : goodW k z) (k1 : 1 ≤ k) (k4 : k ≤ 4) (hd : okD 3 d) (ht : tupled d = rowsT rows) (hm : madeRows z m rows) (m1 : 1 ≤ m) (m6 : m ≤ 6)
    (h : rt [("words", .str z), ("standings", rowsT rows)]) : fi_init [.str z, d] rt ex := by
  unfold fi_init
  have hw := goodW_words g k1 k4
  refine ⟨_, d, rfl, ⟨rfl, fun z' e => by cases e; rw [g.1]; omega⟩, okD_le (by omega) hd, fun e => by rw [hw] at e; exact Bool.noConfusion e, fun z' e _ => ?_⟩
  cases e
  rw [ht, wrong_made hm m1 m6]
  exact ⟨fun _ => h, fun y e en => by subst e; exact Bool.noConfusion en⟩
section
theorem eq_drills {K : PySem.W.Frag} {z y : Str} {rows ros : List Row} {Q : Bool → Prop} {ex : Xd → Prop} (h1 : smallRows rows) (h2 : smallRows ros) (h : Q (decide (z = y) && decide (rows = ros))) : fs_eq [dril z rows, dril y ros] (fun d => ∃ b, d = .bl b ∧ Q b) ex := by
  unfold fs_eq
  exact ⟨z, rows, _, rfl, eqOk_T h1, .inl ⟨y, ros, rfl, eqOk_T h2, _, rfl, by rw [rowsEq_iff]; exact h⟩⟩
theorem eq_other {K : PySem.W.Frag} {z : Str} {rows : List Row} {o : D} {Q : Bool → Prop} {ex : Xd → Prop} (h1 : smallRows rows) (ho : dat o = true) (hn : ∀ k gs, o ≠ .obj k gs) (h : Q false) : fs_eq [dril z rows, o] (fun d => ∃ b, d = .bl b ∧ Q b) ex := by
  unfold fs_eq
  exact ⟨z, rows, o, rfl, eqOk_T h1, .inr ⟨ho, hn, _, rfl, h⟩⟩
@[irreducible] def fs_equals : FS := fun ds rt _ => ∃ (z : Str) (k m : Nat) (rows : List Row), ds = [.own 1, dril z rows, .str z, rowsL rows] ∧ goodW k z ∧ 1 ≤ k ∧ k ≤ 4 ∧ madeRows z m rows ∧ 1 ≤ m ∧ m ≤ 6 ∧ rt (.bl true)
theorem ok_equals {f : Addr} {fd : FuncData} (nb : NB mg) (I : DrI K mg (cls 25)) (N : DrN K (cls 25)) (d1 : Df P w K mg base cls "_law_pick" 2 ["_law_draw_here", "_law_many"] fs_pick) (dS : Df P w K mg base cls "_law_same" 1 ["_law_one", "_law_two"] (fs_same 0)) (dL : DfF P w K mg base cls "_law_listed" 4 ["_law_thing"] (ff_listed 3))
    (dW : Df P w K mg base cls "_law_words" 3 ["_law_draw_here", "_law_many"] fs_words) (dH : DfF P w K mg base cls "_law_handed" 5 ["_law_draw_here", "_law_rows_here"] ff_handed) (dk : Dk P w K mg base cls "Drill" 25 8 ["words", "standings"] fi_init) (dE : Dm P w K mg base cls 25 "__eq__" 1 ["self", "other"] fs_eq)
    (F : Fun K "_law_equals" "_law_equals" s_equals f fd) : FnOk P w K mg base (L2N.CX P w) 10 f fd ["_law_draw_here", "_law_drill", "_law_words_here", "_law_rows_here"] (spOf cls fs_equals) := by
  refine def_ok F sc_equals (fun ds rt ex h => ?_) (fun cdv A outer s H E W R ds rt ex hr h => ?_)
  · unfold fs_equals at h
    obtain ⟨_, _, _, _, rfl, _⟩ := h
    rfl
  · unfold fs_equals at h
    obtain ⟨z, k0, m, rows, rfl, g, k1, k4, hm, m1, m6, k⟩ := h
    have hN := sc_equals.nd
    have zl := g.1
    have sr := made_small hm (by omega) m6
    have hl := hm.1
    have rL : (rows.map rowL).length = m := by rw [List.length_map, hl]
    have lenR : lenD (rowsL rows) = some m := by show some (rows.map rowL).length = _; rw [rL]
    have inO : ∀ (d : D) (kk : Nat) (fs : List (Str × D)), d = .obj kk fs → kk = 25 → InsF K (cls kk) := fun d kk fs _ e => by subst e; exact I.ins
    refine wx_begin 4 hN rfl (by simp [rho0]) (wf_call dL (hr.mono (by decide)) ?_)
    repeat walk_at "v"
    refine ⟨_, rfl, okD_rowsL sr, ?_⟩
    rw [listed_rowsL]
    refine wx_set 5 hN rfl (we_call d1 (hr.mono (by decide)) ?_)
    repeat walk_at "v"
    refine ⟨m, lenR, _, rfl, by omega, fun a a0 a1 => ?_⟩
    obtain ⟨j, rfl⟩ : ∃ j : Nat, a = (j : Nat) := ⟨a.toNat, by omega⟩
    have jm : j < m := by omega
    obtain ⟨⟨ra, rb, rn⟩, er⟩ : ∃ r, rows[j]? = some r := ⟨_, List.getElem?_eq_getElem (by omega)⟩
    have ro := hm.2.1 _ (List.mem_of_getElem? er)
    have irj : itemD (rowsL rows) (j : Int) = some (rowL (ra, rb, rn)) := item_lst (by rw [List.getElem?_map, er]; rfl)
    refine wx_put1 rfl (we_add ?_)
    repeat walk_at "v"
    refine we_ix (we_ix ?_)
    repeat walk_at "v"
    refine ⟨_, _, rfl, irj, ?_⟩
    repeat walk_at "v"
    refine ⟨_, _, rfl, item_lst (i := 1) rfl, _, rfl, ?_⟩
    repeat walk_at "v"
    refine ⟨_, _, rfl, rfl, by decide, _, _, rfl, rfl, _, rfl, ?_⟩
    repeat walk_at "v"
    refine ⟨j, _, rfl, by rw [List.getElem?_map, er]; rfl, ?_⟩
    repeat walk_at "v"
    refine ⟨1, rfl, by show 1 < 3; omega, ?_⟩
    have b1 : rb.fmod 12 = rb % 12 := Int.fmod_eq_emod_of_nonneg rb (by omega)
    have rbb := ro.2.1
    dsimp only at rbb
    have set1 : (rows.map rowL).set j (.lst ([.int ra, .int rb, .lst (rn.map D.int)].set 1 (.int (1 + rb.fmod 12)))) = (rows.set j (ra, 1 + rb.fmod 12, rn)).map rowL := by
      rw [List.map_set]
      rfl
    dsimp only at set1 ⊢
    rw [set1]
    obtain ⟨ros, eros⟩ : ∃ ros, ros = rows.set j (ra, 1 + rb.fmod 12, rn) := ⟨_, rfl⟩
    rw [← eros]
    have hm2 : madeRows z m ros := by
      refine ⟨by rw [eros, List.length_set, hl], fun r hr => ?_, ?_⟩
      · rw [eros] at hr
        rcases mem_set' hr with h | h
        · subst h
          exact ⟨ro.1, ⟨by show 1 ≤ 1 + rb.fmod 12; omega, by show 1 + rb.fmod 12 ≤ 12; omega⟩, ro.2.2⟩
        · exact hm.2.1 r h
      · obtain ⟨r, e0, h1, h2⟩ := hm.2.2
        by_cases h0 : j = 0
        · subst h0
          rw [er] at e0
          cases e0
          exact ⟨(ra, 1 + rb.fmod 12, rn), by rw [eros, List.getElem?_set_self (by omega)], h1, h2⟩
        · exact ⟨r, by rw [eros, List.getElem?_set_ne h0]; exact e0, h1, h2⟩
    have sr2 := made_small hm2 (by omega) m6
    have dif : rows ≠ ros := fun e => by
      have : ros[j]? = some (ra, rb, rn) := by rw [← e]; exact er
      rw [eros, List.getElem?_set_self (by omega)] at this
      have h := Prod.mk.inj (Option.some.inj this)
      have h2 := (Prod.mk.inj h.2).1
      omega
    clear set1
    refine wx_pub (wss_cons (ws_set 6 hN rfl (we_call dW (hr.mono (by decide)) ?_)))
    repeat walk_at "v"
    refine ⟨z.length, len_str (by omega), z.length, rfl, by omega, by omega, fun l gl => ?_⟩
    have gl2 : goodW k0 l := by rw [← zl]; exact gl
    have hm3 : madeRows l m rows := ⟨hm.1, fun r hr => by rw [gl.1]; exact hm.2.1 r hr, hm.2.2⟩
    -- the same words, the same rows
    refine wss_cons (ws_if (wt_not (wt_val (we_call dS (hr.mono (by decide)) ?_))))
    refine we_eqO (Dm.obm dE) (hr.mono (by decide)) ?_
    repeat walk_at "v"
    refine we_make dk hr ?_
    repeat walk_at "v"
    refine we_of_wf (wf_call dH (hr.mono (by decide)) ?_)
    repeat walk_at "v"
    refine ⟨rows, rfl, sr, fun d ⟨ad1, ad2, ad3⟩ => ?_⟩
    refine fi_good g k1 k4 ad1 ad2 hm m1 m6 ?_
    refine ⟨_, _, rfl, rfl, fun kk fs e => by cases e; exact I.ins, N.nf, eq_drills (K := K) sr sr ?_⟩
    repeat walk_at "v"
    refine ⟨.bl true, by simp, okD_atom rfl, _, rfl, fun e => Bool.noConfusion e, fun _ => wss_nil ?_⟩
    -- other rows
    refine wss_cons (ws_if (wt_not (wt_val (we_call dS (hr.mono (by decide)) ?_))))
    refine we_eqO (Dm.obm dE) (hr.mono (by decide)) ?_
    repeat walk_at "v"
    refine we_make dk hr ?_
    repeat walk_at "v"
    refine fi_good g k1 k4 (okD_rowsL sr2) (tupled_rowsL ros) hm2 m1 m6 ?_
    refine ⟨_, _, rfl, rfl, fun kk fs e => by cases e; exact I.ins, N.nf, eq_drills (K := K) sr sr2 ?_⟩
    repeat walk_at "v"
    refine ⟨.bl false, by simp [dif], okD_atom rfl, _, rfl, fun e => Bool.noConfusion e, fun _ => wss_nil ?_⟩
    -- other words
    refine wss_cons (ws_if (wt_not (wt_val (we_call dS (hr.mono (by decide)) ?_))))
    refine we_eqO (Dm.obm dE) (hr.mono (by decide)) ?_
    repeat walk_at "v"
    refine we_make dk hr ?_
    repeat walk_at "v"
    refine fi_good gl2 k1 k4 (okD_rowsL sr) (tupled_rowsL rows) hm3 m1 m6 ?_
    refine ⟨_, _, rfl, rfl, fun kk fs e => by cases e; exact I.ins, N.nf, eq_drills (K := K) sr sr ?_⟩
    refine we_eq ?_
    repeat walk_at "v"
    refine eq_str ?_
    refine ⟨.bl (decide (l = z)), ?_, okD_atom rfl, _, rfl, fun e => Bool.noConfusion e, fun _ => wss_nil ?_⟩
    · have : decide (z = l) = decide (l = z) := by rw [decide_eq_decide]; exact ⟨Eq.symm, Eq.symm⟩
      simp [this]
    refine wss_one (ws_ret (we_and (we_call dS (hr.mono (by decide)) ?_)))
    refine we_eqO (Dm.obm dE) (hr.mono (by decide)) ?_
    repeat walk_at "v"
    refine ⟨_, _, rfl, rfl, fun kk fs e => (by cases e), N.nl, eq_other (K := K) sr rfl (fun _ _ e => (by cases e)) ?_⟩
    repeat walk_at "v"
    refine ⟨.bl false, rfl, okD_atom rfl, _, rfl, fun _ => ?_, fun e => Bool.noConfusion e⟩
    refine we_one (we_call dS (hr.mono (by decide)) ?_)
    refine we_eqO (Dm.obm dE) (hr.mono (by decide)) ?_
    repeat walk_at "v"
    refine ⟨_, _, rfl, rfl, fun kk fs e => (by cases e), N.ni, eq_other (K := K) sr rfl (fun _ _ e => (by cases e)) ?_⟩
    repeat walk_at "v"
    exact ⟨.bl false, rfl, okD_atom rfl, k⟩
end
end
set_option maxHeartbeats 16000000
open PySem PySem.Spec PyProof.Rows L2 Vl
variable {cls : Nat → Addr} {P : Program} {w : World} {K : PySem.W.Frag} {mg : Str → Option Value} {base : Heap}
local macro_rules | `(tactic| walk_at "vn") => `(tactic| first
  | refine we_val (i := 15) rfl rfl ?_ | refine we_val (i := 16) rfl rfl ?_ | refine we_val (i := 17) rfl rfl ?_
  | refine we_val (i := 0) rfl rfl ?_ | refine we_val (i := 1) rfl rfl ?_ | refine we_val (i := 2) rfl rfl ?_ | refine we_val (i := 3) rfl rfl ?_ | refine we_val (i := 4) rfl rfl ?_
  | refine we_val (i := 5) rfl rfl ?_ | refine we_val (i := 6) rfl rfl ?_ | refine we_val (i := 7) rfl rfl ?_ | refine we_val (i := 8) rfl rfl ?_ | refine we_val (i := 9) rfl rfl ?_
  | refine we_val (i := 10) rfl rfl ?_ | refine we_val (i := 11) rfl rfl ?_ | refine we_val (i := 12) rfl rfl ?_ | refine we_val (i := 13) rfl rfl ?_ | refine we_val (i := 14) rfl rfl ?_)
section
set_option maxHeartbeats 16000000
abbrev s_refused : Stmt := top 48
abbrev N_refused : List Str := ["_law_draw_here", "_law_drill", "_law_words_here", "_law_rows_here", "_law_many", "_law_signs", "_law_wrong", "_law_thing", "_law_number", "_law_handed_here", "_law_calling_here", "_law_index", "_law_good", "_law_way", "_law_text", "_law_standing", "_law_after", "_law_paces"]
theorem sc_refused : FnScope N_refused ["_law_draw_here", "_law_drill", "_law_words_here", "_law_rows_here"] (defScope s_refused) := ⟨rfl, rfl, rfl, by decide +kernel, rfl, by decide +kernel, by decide +kernel⟩
theorem okD_told {k : Nat} {d : D} (h : okD 2 d) (hk : (errN k).length ≤ 100) : okD 3 (toldD k d) := .inr ⟨_, .inr rfl, by show 2 ≤ _; omega, fun x hx => by
  simp only [List.mem_cons, List.not_mem_nil, or_false] at hx
  rcases hx with rfl | rfl
  · exact okD_atom (decide_eq_true (by omega))
  · exact h⟩
section
theorem making_words {dw d : D} {rt : D → Prop} {ex : Xd → Prop} (h1 : txtOk dw) (h2 : okD 6 d) (h3 : wordsB dw = false) (h : rt (toldD 2 dw)) : fs_making [dw, d] rt ex := by
  unfold fs_making
  exact ⟨dw, d, rfl, h1, h2, .inl ⟨h3, h⟩⟩
theorem making_rows {z : Str} {d : D} {y : Int} {rt : D → Prop} {ex : Xd → Prop} (h1 : z.length ≤ 1000) (h2 : okD 6 d) (h3 : wordsB (.str z) = true) (h4 : wrongD (z.length + 1) (tupled d) = .int y) (h : rt (toldD 3 (.int y))) : fs_making [.str z, d] rt ex := by
  unfold fs_making
  exact ⟨_, d, rfl, ⟨rfl, fun z' e => by cases e; omega⟩, h2, .inr ⟨z, rfl, h3, by rw [h4]; rfl, by rw [h4]; exact h⟩⟩
theorem asking_no {z : Str} {rows : List Row} {way : Int} {d dc : D} {rt : D → Prop} {ex : Xd → Prop} (hz : z.length ≤ 1000) (g : goodRows z rows) (hd : dat d = true) (hc : txtOk dc) (hw : 0 ≤ way ∧ way ≤ 2) (hb : inB d 0 ((rows.length : Int) - 1) = false) (h : rt (toldD 5 d)) : fs_asking [dril z rows, .int way, d, dc] rt ex := by
  unfold fs_asking
  exact ⟨z, rows, way, d, dc, rfl, hz, g, hd, hc, hw, .inl ⟨hb, h⟩⟩
theorem asking_bad {z : Str} {rows : List Row} {way : Int} {i : Nat} {dc : D} {y : Int} {rt : D → Prop} {ex : Xd → Prop} (hz : z.length ≤ 1000) (g : goodRows z rows) (hi : i < rows.length) (hc : txtOk dc) (hw : 1 ≤ way ∧ way ≤ 2) (hb : callB z dc = .int y) (h : rt (toldD 4 (.int y))) : fs_asking [dril z rows, .int way, .int (i : Nat), dc] rt ex := by
  unfold fs_asking
  exact ⟨z, rows, way, _, dc, rfl, hz, g, rfl, hc, ⟨by omega, hw.2⟩, .inr (.inl ⟨inB_of (by omega) (by omega), hw.1, by rw [hb]; rfl, by rw [hb]; exact h⟩)⟩
theorem asking_go1 {z : Str} {rows : List Row} {i : Nat} {c : Str} {rt : D → Prop} {ex : Xd → Prop} (hz : z.length ≤ 1000) (g : goodRows z rows) (hi : i < rows.length) (hl : c.length ≤ 400) (hc : ∀ n ∈ c.cps.toList, n ∈ (dot z).cps.toList) (h : rt (.tup [.str "told", goD z rows i c])) : fs_asking [dril z rows, .int 1, .int (i : Nat), .str c] rt ex := by
  unfold fs_asking
  exact ⟨z, rows, 1, _, _, rfl, hz, g, rfl, ⟨rfl, fun z' e => by cases e; omega⟩, ⟨by omega, by omega⟩, .inr (.inr ⟨i, c, rfl, hi, rfl, callB_good hl hc, .inl ⟨rfl, h⟩⟩)⟩
theorem asking_go2 {z : Str} {rows : List Row} {i : Nat} {c : Str} {rt : D → Prop} {ex : Xd → Prop} (hz : z.length ≤ 1000) (g : goodRows z rows) (hi : i < rows.length) (hl : c.length ≤ 400) (hc : ∀ n ∈ c.cps.toList, n ∈ (dot z).cps.toList) (h : rt (.tup [.str "told", walkD z rows i c])) : fs_asking [dril z rows, .int 2, .int (i : Nat), .str c] rt ex := by
  unfold fs_asking
  exact ⟨z, rows, 2, _, _, rfl, hz, g, rfl, ⟨rfl, fun z' e => by cases e; omega⟩, ⟨by omega, by omega⟩, .inr (.inr ⟨i, c, rfl, hi, rfl, callB_good hl hc, .inr ⟨rfl, h⟩⟩)⟩
theorem okD_tolds {d : D} (h : atomD d = true) : okD 3 (.tup [.str "told", d]) := .inr ⟨_, .inr rfl, by show 2 ≤ _; omega, fun x hx => by
  simp only [List.mem_cons, List.not_mem_nil, or_false] at hx
  rcases hx with rfl | rfl
  · exact okD_atom (by decide +kernel)
  · exact okD_atom h⟩
@[irreducible] def fs_refused : FS := fun ds rt _ => ∃ (z : Str) (k m : Nat) (rows : List Row), ds = [.own 1, dril z rows, .str z, rowsL rows] ∧ goodW k z ∧ 1 ≤ k ∧ k ≤ 4 ∧ madeRows z m rows ∧ 1 ≤ m ∧ m ≤ 6 ∧ rt (.bl true)
theorem ok_refused {f : Addr} {fd : FuncData} (nb : NB mg) (d1 : Df P w K mg base cls "_law_pick" 2 ["_law_draw_here", "_law_many"] fs_pick) (dS : Df P w K mg base cls "_law_same" 4 ["_law_one", "_law_two"] (fs_same 3)) (dL : Df P w K mg base cls "_law_listed" 4 ["_law_thing"] (fs_listed 3))
    (dB : Df P w K mg base cls "_law_bad_words" 4 ["_law_draw_here", "_law_words_here"] fs_bad_words) (dT : Df P w K mg base cls "_law_bad_standings" 6 ["_law_draw_here", "_law_words_here", "_law_rows_here"] fs_bad_standings) (dM : Df P w K mg base cls "_law_making" 10 ["_law_words_here", "_law_thing"] fs_making)
    (dC : Df P w K mg base cls "_law_bad_calling" 3 ["_law_draw_here", "_law_words_here"] fs_bad_calling) (dG : Df P w K mg base cls "_law_calling" 3 ["_law_draw_here", "_law_signs"] fs_calling) (dA : Df P w K mg base cls "_law_asking" 6 ["_law_drill", "_law_way", "_law_standing", "_law_calling_here"] fs_asking)
    (dW : Df P w K mg base cls "_law_went" 1 ["_law_rows_here", "_law_words_here", "_law_standing", "_law_calling_here"] fs_went) (F : Fun K "_law_refused" "_law_refused" s_refused f fd) :
    FnOk P w K mg base (L2N.CX P w) 11 f fd ["_law_draw_here", "_law_drill", "_law_words_here", "_law_rows_here"] (spOf cls fs_refused) := by
  refine def_ok F sc_refused (fun ds rt ex h => ?_) (fun cdv A outer s H E W R ds rt ex hr h => ?_)
  · unfold fs_refused at h
    obtain ⟨_, _, _, _, rfl, _⟩ := h
    rfl
  · unfold fs_refused at h
    obtain ⟨z, k0, m, rows, rfl, g, k1, k4, hm, m1, m6, k⟩ := h
    have hN := sc_refused.nd
    have zl := g.1
    have sr := made_small hm (by omega) m6
    have hl := hm.1
    have rL : (rows.map rowL).length = m := by rw [List.length_map, hl]
    have lenR : lenD (rowsL rows) = some m := by show some (rows.map rowL).length = _; rw [rL]
    have gr : goodRows z rows := fun r hr => by rw [hl]; exact hm.2.1 r hr
    have dl : (dot z).length = z.length + 1 := dot_len
    refine wss_cons (ws_set 4 hN rfl ?_)
    repeat walk_at "v"
    refine ⟨m, lenR, ?_⟩
    refine wss_cons (ws_set 5 hN rfl (we_addS ?_))
    repeat walk_at "v"
    refine ⟨_, _, rfl, rfl, by rw [sizeLine_eq, show ("." : Str).length = 1 from rfl]; omega, ?_⟩
    refine wss_cons (ws_set 6 hN rfl (we_call dB (hr.mono (by decide)) ?_))
    repeat walk_at "v"
    refine ⟨z, k0, rfl, k1, k4, g, fun dw w1 w2 w3 => ?_⟩
    refine wss_cons (ws_asg (we_call dT (hr.mono (by decide)) ?_))
    repeat walk_at "v"
    refine ⟨z, m, rows, rfl, by omega, by omega, m1, m6, hm, fun d y od wy => ?_⟩
    refine wg_tup rfl ⟨_, rfl, rfl, wg_name 7 hN rfl (wg_name 8 hN rfl ?_)⟩
    have tail : ∀ dh : D, okD 6 dh → WSs (cyOf P w K mg base N_refused "_law_refused" (defScope s_refused) f cdv A outer s H E W R)
          ((defBody s_refused).drop 5) [some (.val (.own 1)), some (.val (dril z rows)), some (.val (.str z)), some (.val (rowsL rows)), some (.val (.int (m : Nat))), some (.val (.str (dot z))), some (.val dw), some (.val d), some (.val (.int y)), some (.val dh), none, none, none, none, none, none, none, none]
          { nx := fun _ => rt .non, rt := fun _ => rt, ex := fun _ => ex } := by
      intro dh odh
      refine wss_cons (ws_if (wt_not (wt_val (we_call dS (hr.mono (by decide)) ?_))))
      refine we_call dM hr ?_
      repeat walk_at "v"
      refine making_words w1 odh w3 ?_
      repeat walk_at "v"
      refine ⟨toldD 2 dw, rfl, okD_told (okD_up w2) (by decide), _, rfl, fun e => Bool.noConfusion e, fun _ => wss_nil ?_⟩
      refine wss_cons (ws_if (wt_not (wt_val (we_call dS (hr.mono (by decide)) ?_))))
      refine we_call dM hr ?_
      repeat walk_at "v"
      refine making_rows (by omega) (okD_le (by omega) od) (goodW_words g k1 k4) wy ?_
      repeat walk_at "v"
      refine ⟨toldD 3 (.int y), rfl, okD_told (okD_atom rfl) (by decide), _, rfl, fun e => Bool.noConfusion e, fun _ => wss_nil ?_⟩
      refine wss_cons (ws_asg (we_call dC (hr.mono (by decide)) ?_))
      repeat walk_at "v"
      refine ⟨z, k0, rfl, k1, k4, g, fun dc ix c1 c2 c3 => ?_⟩
      refine wg_tup rfl ⟨_, rfl, rfl, wg_name 10 hN rfl (wg_name 11 hN rfl ?_)⟩
      refine wss_cons (ws_set 12 hN rfl (we_call dG (hr.mono (by decide)) ?_))
      repeat walk_at "v"
      refine ⟨dot z, rfl, by omega, by omega, fun c cm cl => ?_⟩
      have goodc : txtOk (.str c) := ⟨rfl, fun z' e => by cases e; omega⟩
      have tail2 : ∀ wd : D, okD 2 wd → inB wd 0 ((rows.length : Int) - 1) = false → WSs (cyOf P w K mg base N_refused "_law_refused" (defScope s_refused) f cdv A outer s H E W R)
          ((defBody s_refused).drop 10) [some (.val (.own 1)), some (.val (dril z rows)), some (.val (.str z)), some (.val (rowsL rows)), some (.val (.int (m : Nat))), some (.val (.str (dot z))), some (.val wd), some (.val d), some (.val (.int y)), some (.val dh), some (.val dc), some (.val (.int ix)), some (.val (.str c)), none, none, none, none, none]
          { nx := fun _ => rt .non, rt := fun _ => rt, ex := fun _ => ex } := by
        intro wd ow wb
        refine wss_cons (ws_for rfl (wi_range1 (nb _ (by decide)) ?_))
        repeat walk_at "v"
        refine ⟨_, rfl, by omega, by omega, fun i ρ' => ∃ o13 o14, ρ' = [some (.val (.own 1)), some (.val (dril z rows)), some (.val (.str z)), some (.val (rowsL rows)), some (.val (.int (m : Nat))), some (.val (.str (dot z))), some (.val wd), some (.val d), some (.val (.int y)), some (.val dh), some (.val dc), some (.val (.int ix)), some (.val (.str c)), o13, o14, none, none, none], ⟨none, none, rfl⟩, fun i x ρ' hi hI => ?_, fun ρ' hI => ?_⟩
        · obtain ⟨hlt, rfl⟩ := rangeD_get hi
          have hlt : i < 3 := hlt
          obtain ⟨o13, o14, rfl⟩ := hI
          refine wg_name 13 hN rfl ?_
          refine wss_cons (ws_set 14 hN rfl (we_ix (we_lst ?_)))
          repeat walk_at "v"
          refine we_call d1 (hr.mono (by decide)) ?_
          repeat walk_at "v"
          refine ⟨2, rfl, by decide, fun q q0 q1 => ?_⟩
          have ask : ∀ dx : D, txtOk dx → WSs (cyOf P w K mg base N_refused "_law_refused" (defScope s_refused) f cdv A outer s H E W R)
              ((forBody ((defBody s_refused).getD 10 (.Pass ⟨0, 0, 0, 0⟩))).drop 1) [some (.val (.own 1)), some (.val (dril z rows)), some (.val (.str z)), some (.val (rowsL rows)), some (.val (.int (m : Nat))), some (.val (.str (dot z))), some (.val wd), some (.val d), some (.val (.int y)), some (.val dh), some (.val dc), some (.val (.int ix)), some (.val (.str c)), some (.val (.int (0 + (i : Nat)))), some (.val dx), none, none, none]
              { nx := fun ρ' => ∃ o13 o14, ρ' = [some (.val (.own 1)), some (.val (dril z rows)), some (.val (.str z)), some (.val (rowsL rows)), some (.val (.int (m : Nat))), some (.val (.str (dot z))), some (.val wd), some (.val d), some (.val (.int y)), some (.val dh), some (.val dc), some (.val (.int ix)), some (.val (.str c)), o13, o14, none, none, none], rt := fun _ => rt, ex := fun _ => ex } := by
            intro dx hdx
            refine wss_one (ws_if (wt_not (wt_val (we_call dS (hr.mono (by decide)) ?_))))
            refine we_call dA (hr.mono (by decide)) ?_
            repeat walk_at "v"
            refine asking_no (by omega) gr (okD_dat ow) hdx ⟨by omega, by omega⟩ wb ?_
            repeat walk_at "v"
            exact ⟨toldD 5 wd, rfl, okD_told ow (by decide), _, rfl, fun e => Bool.noConfusion e, fun _ => wss_nil ⟨_, _, rfl⟩⟩
          have cs : q = 0 ∨ q = 1 := by omega
          rcases cs with rfl | rfl
          · exact ⟨_, _, rfl, rfl, (ask _ goodc).mono (fun _ h => h) (fun _ _ h => h) (fun _ z => z.elim) (fun _ z => z.elim) fun _ _ h => h⟩
          · exact ⟨_, _, rfl, rfl, (ask _ c1).mono (fun _ h => h) (fun _ _ h => h) (fun _ z => z.elim) (fun _ z => z.elim) fun _ _ h => h⟩
        · obtain ⟨o13, o14, rfl⟩ := hI
          refine wss_cons (ws_set 15 hN rfl (we_call d1 (hr.mono (by decide)) ?_))
          repeat walk_at "v"
          refine ⟨_, rfl, by omega, fun a a0 a1 => ?_⟩
          obtain ⟨st, rfl⟩ : ∃ st : Nat, a = (st : Nat) := ⟨a.toNat, by omega⟩
          have stm : st < rows.length := by omega
          refine wss_cons (ws_for rfl (wi_range2 (nb _ (by decide)) ?_))
          repeat walk_at "v"
          refine ⟨1, 3, rfl, rfl, by omega, fun i ρ' => ∃ o13 o14, ρ' = [some (.val (.own 1)), some (.val (dril z rows)), some (.val (.str z)), some (.val (rowsL rows)), some (.val (.int (m : Nat))), some (.val (.str (dot z))), some (.val wd), some (.val d), some (.val (.int y)), some (.val dh), some (.val dc), some (.val (.int ix)), some (.val (.str c)), o13, o14, some (.val (.int (st : Nat))), none, none], ⟨_, _, rfl⟩, fun i x ρ' hi hI => ?_, fun ρ' hI => ?_⟩
          · obtain ⟨hlt, rfl⟩ := rangeD_get hi
            have hlt : i < 2 := hlt
            obtain ⟨o13, o14, rfl⟩ := hI
            refine wg_name 13 hN rfl ?_
            refine wss_one (ws_if (wt_not (wt_val (we_call dS (hr.mono (by decide)) ?_))))
            refine we_call dA (hr.mono (by decide)) ?_
            repeat walk_at "v"
            refine asking_bad (by omega) gr stm c1 ⟨by omega, by omega⟩ c3 ?_
            repeat walk_at "v"
            exact ⟨toldD 4 (.int ix), rfl, okD_told (okD_atom rfl) (by decide), _, rfl, fun e => Bool.noConfusion e, fun _ => wss_nil ⟨_, _, rfl⟩⟩
          · obtain ⟨o13, o14, rfl⟩ := hI
            refine wss_cons (ws_asg (we_call dW (hr.mono (by decide)) ?_))
            repeat walk_at "v"
            refine ⟨z, rows, st, c, rfl, by omega, gr, stm, cm, by omega, ?_⟩
            refine wg_tup rfl ⟨_, rfl, rfl, wg_name 16 hN rfl (wg_name 17 hN rfl ?_)⟩
            refine wss_cons (ws_if (wt_not (wt_val (we_call dS (hr.mono (by decide)) ?_))))
            refine we_call dA (hr.mono (by decide)) ?_
            repeat walk_at "v"
            refine asking_go1 (by omega) gr stm cl cm ?_
            repeat walk_at "v"
            refine ⟨_, rfl, okD_tolds (d := goD z rows st c) rfl, _, rfl, fun e => Bool.noConfusion e, fun _ => wss_nil ?_⟩
            refine wss_one (ws_ret (we_call dS (hr.mono (by decide)) ?_))
            refine we_call dA (hr.mono (by decide)) ?_
            repeat walk_at "v"
            refine asking_go2 (by omega) gr stm cl cm ?_
            repeat walk_at "v"
            exact ⟨_, rfl, okD_tolds (d := walkD z rows st c) rfl, k⟩
      refine wss_cons (ws_set 6 hN rfl (we_ix (we_lst ?_)))
      repeat walk_at "v"
      refine ⟨1, rfl, ?_⟩
      repeat walk_at "v"
      refine ⟨_, _, rfl, rfl, ⟨by decide, by decide, by decide⟩, ?_⟩
      repeat walk_at "v"
      refine ⟨_, rfl, ?_⟩
      refine we_call d1 (hr.mono (by decide)) ?_
      repeat walk_at "v"
      refine ⟨10, rfl, by decide, fun q q0 q1 => ?_⟩
      have ib : ∀ i : Int, (i < 0 ∨ (m : Int) ≤ i) → inB (.int i) 0 ((rows.length : Int) - 1) = false := fun i hi => by
        show (decide ((0 : Int) ≤ i) && decide (i ≤ (rows.length : Int) - 1)) = false
        rw [Bool.and_eq_false_iff, decide_eq_false_iff_not, decide_eq_false_iff_not]
        omega
      have o1 : ∀ w : Bool, okD 2 (if w then D.tup [.int 0] else .lst [.int 0]) := fun w => .inr ⟨[.int 0], by cases w <;> simp, by show 1 ≤ _; omega, fun x hx => by rw [List.mem_singleton] at hx; subst hx; exact okD_atom rfl⟩
      have cs : q = 0 ∨ q = 1 ∨ q = 2 ∨ q = 3 ∨ q = 4 ∨ q = 5 ∨ q = 6 ∨ q = 7 ∨ q = 8 ∨ q = 9 := by omega
      rcases cs with rfl | rfl | rfl | rfl | rfl | rfl | rfl | rfl | rfl | rfl
      · exact ⟨_, _, rfl, rfl, tail2 _ (okD_atom rfl) (ib _ (.inl (by omega)))⟩
      · exact ⟨_, _, rfl, rfl, tail2 _ (okD_atom rfl) (ib _ (.inr (by omega)))⟩
      · exact ⟨_, _, rfl, rfl, tail2 _ (okD_atom rfl) rfl⟩
      · exact ⟨_, _, rfl, rfl, tail2 _ (okD_atom rfl) rfl⟩
      · exact ⟨_, _, rfl, rfl, tail2 _ (okD_atom rfl) rfl⟩
      · exact ⟨_, _, rfl, rfl, tail2 _ (okD_atom (by decide +kernel)) rfl⟩
      · exact ⟨_, _, rfl, rfl, tail2 _ (o1 true) rfl⟩
      · exact ⟨_, _, rfl, rfl, tail2 _ (o1 false) rfl⟩
      · exact ⟨_, _, rfl, rfl, tail2 _ (okD_atom rfl) (ib _ (.inr (by rw [show ((10 : Int) ^ ((20 : Int).toNat)) = 100000000000000000000 from by decide +kernel]; omega)))⟩
      · exact ⟨_, _, rfl, rfl, tail2 _ (okD_atom rfl) (ib _ (.inl (by omega)))⟩
    refine wss_cons (ws_set 9 hN rfl (we_ix (we_lst ?_)))
    refine we_call dL (hr.mono (by decide)) ?_
    repeat walk_at "v"
    refine ⟨_, rfl, okD_rowsL sr, ?_⟩
    rw [listed_rowsL]
    repeat walk_at "v"
    refine we_call d1 (hr.mono (by decide)) ?_
    repeat walk_at "v"
    refine ⟨2, rfl, by decide, fun q q0 q1 => ?_⟩
    have cs : q = 0 ∨ q = 1 := by omega
    rcases cs with rfl | rfl
    · exact ⟨_, _, rfl, rfl, tail _ (okD_le (by omega) (okD_rowsL sr))⟩
    · exact ⟨_, _, rfl, rfl, tail _ (okD_le (by omega) od)⟩
end
end
section
set_option maxHeartbeats 16000000
open PySem PySem.Spec PyProof.Rows L2 Vl
variable {cls : Nat → Addr} {P : Program} {w : World} {K : PySem.W.Frag} {mg : Str → Option Value} {base : Heap}
abbrev s_draw : Stmt := top 27
abbrev N_draw : List Str := ["_law_script", "_law_cells", "_law_cell"]
theorem sc_draw : FnScope N_draw ["_law_script"] (defScope s_draw) := ⟨rfl, rfl, rfl, by decide +kernel, rfl, by decide +kernel, by decide +kernel⟩
/-! ### worlds -/
def wZ (cls : Nat → Addr) : Wd cls where
  dr := 0
  cl := 0
  ns := []
  kind := 0
  mv := fun _ => False
  base := fun _ => False
  ok := fun _ => True
  mvb := fun _ z => z
  some := fun _ _ _ z => z.elim
  keep := fun _ _ _ _ => trivial
  dmv := fun h => absurd h (by decide)
  dok := fun h => absurd h (by decide)
  dset := fun h => absurd h (by decide)
  cok := fun h => absurd h (by decide)
def wDraw (cls : Nat → Addr) (dr cl : Addr) (ns : List Int) (hne : cl ≠ dr) (hl : ns.length ≤ 63) : Wd cls where
  dr := dr
  cl := cl
  ns := ns
  kind := 1
  mv := fun a => a = dr
  base := fun a => a = dr ∨ a = cl
  ok := fun H => DrawAt dr cl ns H
  mvb := fun _ z => .inl z
  some := fun H h a b => by
    obtain ⟨_, _, _, _, _, _, h1, h2⟩ := h
    rcases b with b | b <;> subst b
    · rw [h2]; exact fun z => nomatch z
    · rw [h1]; exact fun z => nomatch z
  keep := fun H H' h k => by
    obtain ⟨i1, i2, i3, i4, i5, h0, h1, h2⟩ := h
    exact ⟨i1, i2, i3, i4, i5, h0, by rw [k _ (.inr rfl)]; exact h1, by rw [k _ (.inl rfl)]; exact h2⟩
  dmv := fun _ => ⟨rfl, hne, hl⟩
  dok := fun _ _ h => h
  dset := fun _ _ _ _ _ h => h
  cok := fun h => absurd h (by decide)
/-- statements in a world that is found on the way -/
def tLate (cls : Nat → Addr) (X : Cx) (st : List Stmt) : TS := fun Ds σ H => ∃ (W : Wd cls) (R0 : Addr → Prop) (H0 : Hp) (ρ : Rho) (R : Addr → Prop) (E : L2.St → XK) (p : Po), Sl (⟨X, W, R0, H0⟩ : Cy cls) R H σ ρ ∧ Tk X E ∧ EndsOk (⟨X, W, R0, H0⟩ : Cy cls) R H Ds p ∧ ExS (⟨X, W, R0, H0⟩ : Cy cls) E p.ex ∧ WSs (⟨X, W, R0, H0⟩ : Cy cls) st ρ p
theorem pssLate (cls : Nat → Addr) (X : Cx) (st : List Stmt) : PSs X st (tLate cls X st) := ⟨fun pins s σ H Ds I ⟨W, R0, H0, ρ, R, E, p, S, tk, en, x, w⟩ => w.run pins s σ H R Ds E I S tk en x⟩
/-! ### _law_draw -/
def spDraw (K : PySem.W.Frag) : Sp := fun vs H Q _ => ∃ (a : Addr) (ns : List Int), vs = [.ref a] ∧ SqL K H a (ns.map V.int) ∧ ns.length ≤ 63 ∧
  ∀ dr cl H' i5, cl ≠ dr → H' cl = some (.lst (ns.map V.int)) → H' dr = some (.lst [.ref cl, .int 0, .int 0, .int 0, .int 0, .int i5]) → Q (.ref dr) H'
theorem sqL_up {H H' : Hp} {a q : Addr} {xs : List V} (h : SqL K H a xs) (hq : H q = none) (k : ∀ b, b ≠ q → H' b = H b) : SqL K H' a xs := by
  rcases h with h | h
  · refine .inl ?_
    have ne : a ≠ q := fun z => by
      subst z
      rcases h with h | ⟨o, h⟩
      · rw [hq] at h; cases h
      · rw [hq] at h; cases h
    rcases h with h | ⟨o, h⟩
    · exact .inl (by rw [k a ne]; exact h)
    · exact .inr ⟨o, by rw [k a ne]; exact h⟩
  · exact .inr h
theorem ok_draw {f : Addr} {fd : FuncData} (nb : NB mg) (F : Fun K "_law_draw" "_law_draw" s_draw f fd) : FnOk P w K mg base (L2N.CX P w) 1 f fd ["_law_script"] (spDraw K) := by
  refine okN F sc_draw (fun vs H Q E h => by obtain ⟨a, ns, rfl, _⟩ := h; rfl) (fun cdv A outer s H vs Q E hr h => ?_)
  obtain ⟨a, ns, rfl, hs, hl, k⟩ := h
  have hN := sc_draw.nd
  refine ⟨_, pss_cons (ps_setLc (i := 1) (own := [("_law_cell", 2)]) rfl hN rfl rfl (sw_true rfl rfl rfl (by kernel_rfl)) (pi_list (pe_var (i := 0) rfl (.inl rfl))) (blkOk_by (by kernel_rfl)) (fun _ _ _ _ _ => pg_name (i := 2) hN rfl (Or.inl rfl)) (fun _ _ _ _ _ => pts_nil) (fun _ _ _ _ _ => pe_var (i := 2) rfl (.inl rfl)) (by intro _; rfl)) (pssLate (fun _ => 0) _ _), ?_⟩
  unfold tSeq tAsg
  refine ⟨.ref a, rfl, a, rfl, ⟨_, hs⟩, fun q hq => ?_⟩
  refine lc_it walk_list (fun i H' => H' q = some (.lst ((ns.take i).map V.int)) ∧ ∀ b, b ≠ q → H' b = H b) ⟨upd_same, fun b hb => upd_ne hb⟩ (fun i H' _ h => sqL_up hs hq h.2) (fun i x Hc H' hi h y => ?_) fun H' h => ?_
  · obtain ⟨e1, e2⟩ := y
    subst e1
    rw [List.getElem?_map] at e2
    cases en : ns[i]? with
    | none => rw [en] at e2; cases e2
    | some n =>
      rw [en] at e2
      cases e2
      refine ⟨rfl, ?_⟩
      unfold tYes
      dsimp only
      refine iteT ⟨.int n, rfl, _, h.1, by rw [List.length_map, List.length_take, sizeLine_eq]; omega, ?_, fun b hb => by rw [upd_ne hb]; exact h.2 b hb⟩
      rw [upd_same, List.take_succ, en]
      simp
  · obtain ⟨h1, h2⟩ := h
    rw [List.length_map, List.take_length] at h1
    have S : Sl (⟨cxOf (L2N.CX P w) P w K mg base N_draw "_law_draw" (defScope s_draw) f cdv A outer s H E, wZ (fun _ => 0), fun _ => False, H⟩ : Cy (fun _ => 0)) (fun b => b = q) H' [some (.ref a), some (.ref q), none] [none, some (.val (.lst (ns.map D.int))), none] := {
      ndr := fun _ z => z.elim
      ok := trivial
      ok0 := fun _ z => z.elim
      gr := fun b o _ e => by
        have e : H b = some o := e
        rw [h2 b fun z => by rw [z, hq] at e; cases e]
        exact e
      sub := fun b z => by subst z; exact .inr hq
      len := rfl
      val := fun i d e => by
        match i, e with
        | 1, e => cases e; exact ⟨.ref q, rfl, .lst rfl h1 (DqL.of_ints ns)⟩
        | 0, e => cases e
        | 2, e => cases e
        | i + 3, e => cases e
      lst := fun i ds e => by
        match i, e with
        | 1, e => cases e
        | 0, e => cases e
        | 2, e => cases e
        | i + 3, e => cases e
      sep := fun i j ds es b _ e => by
        match i, e with
        | 1, e => cases e
        | 0, e => cases e
        | 2, e => cases e
        | i + 3, e => cases e
      ob := fun i b kk fs e => by
        match i, e with
        | 1, e => cases e
        | 0, e => cases e
        | 2, e => cases e
        | i + 3, e => cases e
      exc := fun i e' e => by
        match i, e with
        | 1, e => cases e
        | 0, e => cases e
        | 2, e => cases e
        | i + 3, e => cases e }
    refine ⟨wZ (fun _ => 0), fun _ => False, H, _, _, fun _ => E, { nx := fun _ => False, rt := fun _ d => ∃ i5, d = .lst [.lst (ns.map D.int), .int 0, .int 0, .int 0, .int 0, .int i5] }, S, L2N.takes_of rfl rfl rfl rfl, ⟨fun _ _ _ _ _ _ z => z.elim, fun R2 H2 σ2 ρ2 v d S2 q2 h => ?_, fun _ _ _ _ _ _ z => z.elim, fun _ _ _ _ _ _ z => z.elim⟩, fun _ _ _ _ _ _ _ _ _ z => z.elim, ?_⟩
    · obtain ⟨i5, rfl⟩ := h
      cases q2 with
      | @lst dr vs _ _ ed qL =>
        cases qL with
        | cons q1 qL =>
        cases q1 with
        | @lst cl us _ _ ec qc =>
        cases qL with
        | cons q1 qL =>
        cases q1
        cases qL with
        | cons q1 qL =>
        cases q1
        cases qL with
        | cons q1 qL =>
        cases q1
        cases qL with
        | cons q1 qL =>
        cases q1
        cases qL with
        | cons q1 qL =>
        cases q1
        cases qL
        rw [qc.ints] at ec
        refine k dr cl H2 i5 (fun z => ?_) ec ed
        subst z
        rw [ed] at ec
        cases ns with
        | nil => cases ec
        | cons n ns => cases ec
    · refine wss_one (ws_ret (we_lst ?_))
      repeat walk_at "v"
      refine we_add ?_
      repeat walk_at "v"
      refine ⟨ns, rfl, _, rfl, ?_⟩
      repeat walk_at "v"
      refine ⟨_, _, rfl, rfl, by decide, ?_⟩
      repeat walk_at "v"
      refine ⟨ns.length, by show some (ns.map D.int).length = _; rw [List.length_map], ?_⟩
      exact ⟨_, _, rfl, rfl, mul_l (by decide) (by decide), _, _, rfl, rfl, _, rfl⟩
end
section
set_option maxHeartbeats 16000000
open PySem PySem.Spec PyProof.Rows L2 Vl
variable {cls : Nat → Addr} {P : Program} {w : World} {K : PySem.W.Frag} {mg : Str → Option Value} {base : Heap}
abbrev s_law : Stmt := top 50
abbrev N_law : List Str := ["_law_script", "_law_draw_here", "_law_worlds", "_law_drills", "_law_turn", "_law_words_here", "_law_rows_here", "_law_handed_here", "_law_drill", "_law_equal"]
theorem sc_law : FnScope N_law ["_law_script"] (defScope s_law) := ⟨rfl, rfl, rfl, by decide +kernel, rfl, by decide +kernel, by decide +kernel⟩
/-- words and rows as the law makes them -/
def goodP (p : Str × List Row) : Prop := (∃ k, goodW k p.1 ∧ 1 ≤ k ∧ k ≤ 4) ∧ ∃ m, madeRows p.1 m p.2 ∧ 1 ≤ m ∧ m ≤ 6
abbrev wsD (ps : List (Str × List Row)) : List D := ps.map fun p => worldD p.1 p.2
abbrev dsD (ps : List (Str × List Row)) : List D := ps.map fun p => dril p.1 p.2
theorem lo_of_lf {d : D} (h : Lf d) : Lo d := by
  induction h with
  | non => exact .non
  | bl b => exact .bl b
  | int i => exact .int i
  | str x => exact .str x
  | tup _ ih => exact .tup ih
theorem lo_dril (z : Str) (rows : List Row) : Lo (dril z rows) := .obj fun f hf => by
  simp only [List.mem_cons, List.not_mem_nil, or_false] at hf
  rcases hf with rfl | rfl
  · exact .str z
  · exact lo_of_lf (lf_rowsT rows)
theorem zip_get {ps : List (Str × List Row)} {i : Nat} {y : D} (h : (zipD (dsD ps) (wsD ps))[i]? = some y) : ∃ p, p ∈ ps ∧ y = .tup [dril p.1 p.2, worldD p.1 p.2] := by
  unfold zipD at h
  rw [List.getElem?_map] at h
  cases e : ((dsD ps).zip (wsD ps))[i]? with
  | none => rw [e] at h; cases h
  | some q =>
    rw [e] at h
    cases h
    obtain ⟨a, b⟩ := q
    have z := List.getElem?_zip_eq_some.mp e
    obtain ⟨h1, h2⟩ := z
    unfold dsD at h1
    unfold wsD at h2
    rw [List.getElem?_map] at h1 h2
    cases ep : ps[i]? with
    | none => rw [ep] at h1; cases h1
    | some p =>
      rw [ep] at h1 h2
      cases h1
      cases h2
      exact ⟨p, List.mem_of_getElem? ep, rfl⟩
theorem letters_lim : ∀ n ∈ letters, n < 0x110000 := by decide +kernel
/-- the slots behind the first loop -/
abbrev rhoL (ps : List (Str × List Row)) (o4 o5 o6 o7 o8 o9 : Option Sv) : Rho := [none, some (.val (.own 1)), some (.val (.lst (wsD ps))), some (.val (.lst (dsD ps))), o4, o5, o6, o7, o8, o9]
section
structure LawDefs (P : Program) (w : World) (K : PySem.W.Frag) (mg : Str → Option Value) (base : Heap) (cls : Nat → Addr) : Prop where
  pick : Df P w K mg base cls "_law_pick" 2 ["_law_draw_here", "_law_many"] fs_pick
  words : Df P w K mg base cls "_law_words" 3 ["_law_draw_here", "_law_many"] fs_words
  rows : Df P w K mg base cls "_law_rows" 3 ["_law_draw_here", "_law_words_here", "_law_many"] fs_rows
  handed : DfF P w K mg base cls "_law_handed" 5 ["_law_draw_here", "_law_rows_here"] ff_handed
  dk : Dk P w K mg base cls "Drill" 25 8 ["words", "standings"] fi_init
  same : Df P w K mg base cls "_law_same" 4 ["_law_one", "_law_two"] (fs_same 3)
  listed : Df P w K mg base cls "_law_listed" 4 ["_law_thing"] (fs_listed 3)
  spoil : DSp P w K mg base "_law_spoil" 4 3
  walks : Df P w K mg base cls "_law_walks" 5 ["_law_drill", "_law_words_here", "_law_rows_here", "_law_calling_here"] fs_walks
  calling : Df P w K mg base cls "_law_calling" 3 ["_law_draw_here", "_law_signs"] fs_calling
  shown : Df P w K mg base cls "_law_shown" 6 ["_law_drill", "_law_words_here", "_law_rows_here"] fs_shown
  tupled : Df P w K mg base cls "_law_tupled" 4 ["_law_thing"] (fs_tupled 3)
  equals : Df P w K mg base cls "_law_equals" 10 ["_law_draw_here", "_law_drill", "_law_words_here", "_law_rows_here"] fs_equals
  refused : Df P w K mg base cls "_law_refused" 11 ["_law_draw_here", "_law_drill", "_law_words_here", "_law_rows_here"] fs_refused
  eq : Dm P w K mg base cls 25 "__eq__" 1 ["self", "other"] fs_eq
theorem walks_mk {z : Str} {m : Nat} {rows : List Row} {c : Str} {rt : D → Prop} {ex : Xd → Prop} (hz : z.length ≤ 100) (h : madeRows z m rows) (m6 : m ≤ 6) (hc : ∀ n ∈ c.cps.toList, n ∈ (dot z).cps.toList) (hl : c.length ≤ 400) (k : rt (.bl true)) : fs_walks [dril z rows, .str z, rowsL rows, .str c] rt ex := by
  unfold fs_walks
  exact ⟨z, rows, c, rfl, by omega, fun r hr => by rw [h.1]; exact h.2.1 r hr, by rw [h.1]; omega, hc, hl, k⟩
theorem shown_mk {z : Str} {m : Nat} {rows : List Row} {rt : D → Prop} {ex : Xd → Prop} (hz : z.length ≤ 100) (h : madeRows z m rows) (m1 : 1 ≤ m) (m6 : m ≤ 6) (k : rt (.bl true)) : fs_shown [dril z rows, .str z, rowsT rows] rt ex := by
  unfold fs_shown
  exact ⟨z, m, rows, rfl, hz, m1, m6, h, k⟩
theorem equals_mk {z : Str} {n m : Nat} {rows : List Row} {rt : D → Prop} {ex : Xd → Prop} (g : goodW n z) (n1 : 1 ≤ n) (n4 : n ≤ 4) (h : madeRows z m rows) (m1 : 1 ≤ m) (m6 : m ≤ 6) (k : rt (.bl true)) : fs_equals [.own 1, dril z rows, .str z, rowsL rows] rt ex := by
  unfold fs_equals
  exact ⟨z, n, m, rows, rfl, g, n1, n4, h, m1, m6, k⟩
theorem refused_mk {z : Str} {n m : Nat} {rows : List Row} {rt : D → Prop} {ex : Xd → Prop} (g : goodW n z) (n1 : 1 ≤ n) (n4 : n ≤ 4) (h : madeRows z m rows) (m1 : 1 ≤ m) (m6 : m ≤ 6) (k : rt (.bl true)) : fs_refused [.own 1, dril z rows, .str z, rowsL rows] rt ex := by
  unfold fs_refused
  exact ⟨z, n, m, rows, rfl, g, n1, n4, h, m1, m6, k⟩
theorem rows_mk {z : Str} {m : Nat} {rt : D → Prop} {ex : Xd → Prop} (hz : z.length ≤ 1000) (m1 : 1 ≤ m) (m6 : m ≤ 6) (k : ∀ rows, madeRows z m rows → rt (rowsL rows)) : fs_rows [.own 1, .str z, .int (m : Nat)] rt ex := by
  unfold fs_rows
  exact ⟨z, m, rfl, hz, m1, m6, k⟩
def spLaw (K : PySem.W.Frag) : Sp := fun vs H Q _ => ∃ (a : Addr) (ns : List Int), vs = [.ref a] ∧ SqL K H a (ns.map V.int) ∧ ns.length ≤ 63 ∧ ∀ H', Q (.bl true) H'
theorem ok_law {f fD : Addr} {fd fdD : FuncData} (nb : NB mg) (I : DrI K mg (cls 25)) (N : DrN K (cls 25)) (L : LawDefs P w K mg base cls) (FD : Fun K "_law_draw" "_law_draw" s_draw fD fdD) (gD : mg "_law_draw" = some (.ref fD)) (bD : Binds K fdD ["_law_script"] []) (F : Fun K "law" "law" s_law f fd) :
    FnOk P w K mg base (L2N.CX P w) 12 f fd ["_law_script"] (spLaw K) := by
  have GD : FnOk P w K mg base (L2N.CX P w) 1 fD fdD ["_law_script"] (spDraw K) := ok_draw nb FD
  refine okN F sc_law (fun vs H Q E h => by obtain ⟨a, ns, rfl, _⟩ := h; rfl) (fun cdv A outer s H vs Q E hr h => ?_)
  obtain ⟨a, ns, rfl, hs, hl, kQ⟩ := h
  have hN := sc_law.nd
  refine ⟨_, pss_cons (ps_set (i := 1) hN rfl (.inl rfl) (pe_call (E := E0) GD (hr.mono (by decide)) rfl gD FD.kp bD .nil passN (pa_cons (pe_var (i := 0) rfl (.inl rfl)) pa_nil)) rfl) (pssLate cls _ _), ?_⟩
  refine ⟨.ref a, rfl, ⟨a, ns, rfl, hs, hl, fun dr cl H1 i5 hne hcl hdr => ?_⟩⟩
  have S : Sl (⟨cxOf (L2N.CX P w) P w K mg base N_law "law" (defScope s_law) f cdv A outer s H E, wDraw cls dr cl ns hne hl, fun _ => False, H1⟩ : Cy cls) (fun _ => False) H1 ((L2.start N_law [.ref a]).set 1 (some (.ref dr))) [none, some (.val (.own 1)), none, none, none, none, none, none, none, none] := {
    ndr := fun _ _ z => z
    ok := ⟨0, 0, 0, 0, i5, by omega, hcl, hdr⟩
    ok0 := fun b z => by
      rcases z with z | z <;> subst z
      · show H1 _ ≠ none
        rw [hdr]; exact fun z => nomatch z
      · show H1 _ ≠ none
        rw [hcl]; exact fun z => nomatch z
    gr := fun _ _ _ e => e
    sub := fun _ z => z.elim
    len := rfl
    val := fun i d e => by
      match i, e with
      | 1, e => cases e; exact ⟨.ref dr, rfl, .own rfl⟩
      | 0, e => cases e
      | i + 2, e =>
        have : ([none, none, none, none, none, none, none, none] : Rho)[i]? = some (some (.val d)) := e
        have := List.mem_of_getElem? this
        simp at this
    lst := fun i ds e => by
      have := List.mem_of_getElem? e
      simp at this
    sep := fun i j ds es b _ e => by
      have := List.mem_of_getElem? e
      simp at this
    ob := fun i b kk fs e => by
      have := List.mem_of_getElem? e
      simp at this
    exc := fun i e' e => by
      have := List.mem_of_getElem? e
      simp at this }
  refine ⟨wDraw cls dr cl ns hne hl, fun _ => False, H1, _, _, fun _ => E, { nx := fun _ => False, rt := fun _ d => d = .bl true }, S, L2N.takes_of rfl rfl rfl rfl, ⟨fun _ _ _ _ _ _ z => z.elim, fun R2 H2 σ2 ρ2 v d S2 q2 h => ?_, fun _ _ _ _ _ _ z => z.elim, fun _ _ _ _ _ _ z => z.elim⟩, fun _ _ _ _ _ _ _ _ _ z => z.elim, ?_⟩
  · subst h
    cases q2
    exact kQ H2
  -- the two worlds
  refine wss_cons (ws_own 2 hN rfl ?_)
  refine wss_cons (ws_own 3 hN rfl ?_)
  refine wss_cons (ws_for rfl (wi_range1 (nb _ (by decide)) ?_))
  repeat walk_at "v"
  refine ⟨2, rfl, by omega, by omega, fun i ρ' => ∃ (ps : List (Str × List Row)) (o4 o5 o6 : Option Sv), ps.length = i ∧ (∀ p ∈ ps, goodP p) ∧ ρ' = [none, some (.val (.own 1)), some (.lst (wsD ps)), some (.lst (dsD ps)), o4, o5, o6, none, none, none], ⟨[], none, none, none, rfl, fun p h => by simp at h, rfl⟩, fun i d ρ' hi hI => ?_, fun ρ' hI => ?_⟩
  · obtain ⟨hlt, rfl⟩ := rangeD_get hi
    have hlt : i < 2 := hlt
    obtain ⟨ps, o4, o5, o6, pl, pg, rfl⟩ := hI
    refine wg_name 4 hN rfl ?_
    refine wss_cons (ws_set 5 hN rfl (we_call L.words (hr.mono (by decide)) ?_))
    repeat walk_at "v"
    refine we_add ?_
    repeat walk_at "v"
    refine we_call L.pick (hr.mono (by decide)) ?_
    repeat walk_at "v"
    refine ⟨4, rfl, by decide, fun r r0 r1 => ⟨_, _, rfl, rfl, ?_⟩⟩
    refine ⟨(1 + r).toNat, by rw [Int.toNat_of_nonneg (by omega)], by omega, by omega, fun z gz => ?_⟩
    have gk : 1 ≤ (1 + r).toNat ∧ (1 + r).toNat ≤ 4 := by omega
    have zl := gz.1
    refine wss_cons (ws_set 6 hN rfl (we_call L.rows (hr.mono (by decide)) ?_))
    repeat walk_at "v"
    refine we_add ?_
    repeat walk_at "v"
    refine we_call L.pick (hr.mono (by decide)) ?_
    repeat walk_at "v"
    refine ⟨6, rfl, by decide, fun q q0 q1 => ⟨_, _, rfl, rfl, ?_⟩⟩
    rw [show (1 + q : Int) = ((1 + q).toNat : Nat) by rw [Int.toNat_of_nonneg (by omega)]]
    have qm : 1 ≤ (1 + q).toNat ∧ (1 + q).toNat ≤ 6 := by omega
    generalize (1 + q).toNat = m at qm
    refine rows_mk (by omega) qm.1 qm.2 fun rows hm => ?_
    have sr := made_small hm (by omega) qm.2
    refine wx_begin 7 hN rfl (by simp) (wf_call L.handed (hr.mono (by decide)) ?_)
    repeat walk_at "v"
    refine ⟨rows, rfl, sr, fun d hd => ?_⟩
    refine wx_appD 3 rfl rfl (by unfold dsD; rw [List.length_map, pl, sizeLine_eq]; omega) (we_make L.dk (hr.mono (by decide)) ?_)
    repeat walk_at "v"
    refine fi_good gz gk.1 gk.2 hd.1 hd.2.1 hm qm.1 qm.2 ?_
    refine ⟨lo_dril z rows, ?_⟩
    refine wx_ifD (wt_not (wt_val (we_call L.same (hr.mono (by decide)) ?_)))
    refine we_call L.listed (hr.mono (by decide)) ?_
    repeat walk_at "v"
    refine ⟨d, rfl, hd.1, ?_⟩
    rw [hd.2.2]
    repeat walk_at "v"
    refine ⟨rowsL rows, rfl, okD_rowsL sr, _, rfl, fun e => Bool.noConfusion e, fun _ => ?_⟩
    refine wx_spoil L.spoil (hr.mono (by decide)) rfl hd.1 ?_
    refine wss_one (ws_app 2 rfl rfl (by unfold wsD; rw [List.length_map, pl, sizeLine_eq]; omega) (we_tup ?_))
    repeat walk_at "v"
    refine ⟨ps ++ [(z, rows)], some (.val (.int (0 + (i : Nat)))), some (.val (.str z)), some (.val (rowsL rows)), by rw [List.length_append, pl]; rfl, fun p hp => ?_, ?_⟩
    · rcases List.mem_append.mp hp with h | h
      · exact pg p h
      · rw [List.mem_singleton] at h
        subst h
        exact ⟨⟨_, gz, gk.1, gk.2⟩, _, hm, qm.1, qm.2⟩
    · unfold wsD dsD
      rw [List.map_append, List.map_append]
      rfl
  · obtain ⟨ps, o4, o5, o6, pl, pg, rfl⟩ := hI
    have pl : ps.length = 2 := pl
    refine wss_pub 2 rfl (wss_pub 3 rfl ?_)
    have wlen : (zipD (dsD ps) (wsD ps)).length ≤ 2 := by unfold zipD dsD wsD; simp [pl]
    have good : ∀ p ∈ ps, ∃ n m, goodW n p.1 ∧ 1 ≤ n ∧ n ≤ 4 ∧ madeRows p.1 m p.2 ∧ 1 ≤ m ∧ m ≤ 6 ∧ p.1.length ≤ 100 := fun p hp => by
      obtain ⟨⟨n, g1, g2, g3⟩, m, h1, h2, h3⟩ := pg p hp
      exact ⟨n, m, g1, g2, g3, h1, h2, h3, by rw [g1.1]; omega⟩
    -- walks, three times
    refine wss_cons (ws_for rfl (wi_range1 (nb _ (by decide)) ?_))
    repeat walk_at "v"
    refine ⟨3, rfl, by omega, by omega, fun i ρ' => ∃ o4 o5 o6 o8, ρ' = rhoL ps o4 o5 o6 none o8 none, ⟨o4, o5, o6, none, rfl⟩, fun i d ρ' hi hI => ?_, fun ρ' hI => ?_⟩
    · obtain ⟨hlt, rfl⟩ := rangeD_get hi
      obtain ⟨o4, o5, o6, o8, rfl⟩ := hI
      refine wg_name 4 hN rfl ?_
      refine wss_one (ws_for rfl (wi_zip (nb _ (by decide)) ?_))
      repeat walk_at "v"
      refine ⟨_, _, rfl, rfl, fun j ρ' => ∃ o5 o6 o8, ρ' = rhoL ps (some (.val (.int (0 + (i : Nat))))) o5 o6 none o8 none, ⟨o5, o6, o8, rfl⟩, fun j y ρ' hj hJ => ?_, fun ρ' hJ => ?_⟩
      · obtain ⟨p, hp, rfl⟩ := zip_get hj
        obtain ⟨z, rows⟩ := p
        obtain ⟨n, m, g1, g2, g3, h1, h2, h3, h4⟩ := good _ hp
        dsimp only at g1 h1 h4
        obtain ⟨o5, o6, o8, rfl⟩ := hJ
        refine wg_tup rfl ⟨_, rfl, rfl, wg_name 8 hN rfl (wg_tup rfl ⟨_, rfl, rfl, wg_name 5 hN rfl (wg_name 6 hN rfl ?_)⟩)⟩
        refine wss_one (ws_if (wt_not (wt_val (we_call L.walks (hr.mono (by decide)) ?_))))
        repeat walk_at "v"
        refine we_call L.calling (hr.mono (by decide)) ?_
        repeat walk_at "v"
        refine we_addS ?_
        repeat walk_at "v"
        refine ⟨_, _, rfl, rfl, by rw [sizeLine_eq, show ("." : Str).length = 1 from rfl]; dsimp only; omega, ?_⟩
        refine ⟨dot z, rfl, by rw [dot_len]; omega, by rw [dot_len]; omega, fun c cm cl' => ?_⟩
        exact walks_mk h4 h1 h3 cm cl' ⟨_, rfl, fun e => Bool.noConfusion e, fun _ => wss_nil ⟨_, _, _, rfl⟩⟩
      · obtain ⟨o5, o6, o8, rfl⟩ := hJ
        exact ⟨_, _, _, _, rfl⟩
    obtain ⟨o4, o5, o6, o8, rfl⟩ := hI
    -- ==
    obtain ⟨⟨z0, r0⟩, ⟨z1, r1⟩, rfl⟩ : ∃ a b, ps = [a, b] := by
      match ps, pl with
      | [a, b], _ => exact ⟨a, b, rfl⟩
    obtain ⟨n0, m0, g01, g02, g03, h01, h02, h03, h04⟩ := good (z0, r0) (by simp)
    obtain ⟨n1, m1, g11, g12, g13, h11, h12, h13, h14⟩ := good (z1, r1) (by simp)
    dsimp only at g01 h01 h04 g11 h11 h14
    have s0 := made_small h01 h04 h03
    have s1 := made_small h11 h14 h13
    have e0 := eqOk_world s0 h04 fun n hn => letters_lim n (g01.2.2 n hn)
    have e1 := eqOk_world s1 h14 fun n hn => letters_lim n (g11.2.2 n hn)
    refine wss_cons (ws_set 9 hN rfl (we_eqD (hr.mono (by decide)) (we_ix ?_)))
    repeat walk_at "v"
    refine ⟨_, _, rfl, item_lst (i := 0) rfl, ?_⟩
    refine we_ix ?_
    repeat walk_at "v"
    refine ⟨_, _, rfl, item_lst (i := 1) rfl, e0, e1, ?_⟩
    rw [eqB_world]
    refine wss_cons (ws_if (wt_wp (wp_or (wt_not (wt_val (we_call L.same (hr.mono (by decide)) ?_))))))
    refine we_eqO (Dm.obm L.eq) (hr.mono (by decide)) (we_ix ?_)
    repeat walk_at "v"
    refine ⟨_, _, rfl, item_lst (i := 0) rfl, ?_⟩
    refine we_ix ?_
    repeat walk_at "v"
    refine ⟨_, _, rfl, item_lst (i := 1) rfl, _, _, rfl, rfl, fun kk fs e => by cases e; exact I.ins, N.nf, eq_drills (K := K) s0 s1 ?_⟩
    repeat walk_at "v"
    refine ⟨_, rfl, okD_atom rfl, _, rfl, fun e => Bool.noConfusion e, fun _ => ?_⟩
    refine wp_or1 (wt_not (wt_val (we_call L.same (hr.mono (by decide)) ?_)))
    refine we_eqO (Dm.obm L.eq) (hr.mono (by decide)) (we_ix ?_)
    repeat walk_at "v"
    refine ⟨_, _, rfl, item_lst (i := 1) rfl, ?_⟩
    refine we_ix ?_
    repeat walk_at "v"
    refine ⟨_, _, rfl, item_lst (i := 0) rfl, _, _, rfl, rfl, fun kk fs e => by cases e; exact I.ins, N.nf, eq_drills (K := K) s1 s0 ?_⟩
    repeat walk_at "v"
    have sym : (decide (z1 = z0) && decide (r1 = r0)) = (decide (z0 = z1) && decide (r0 = r1)) := by
      have a1 : decide (z1 = z0) = decide (z0 = z1) := by rw [decide_eq_decide]; exact ⟨Eq.symm, Eq.symm⟩
      have a2 : decide (r1 = r0) = decide (r0 = r1) := by rw [decide_eq_decide]; exact ⟨Eq.symm, Eq.symm⟩
      rw [a1, a2]
    rw [sym]
    refine ⟨_, rfl, okD_atom rfl, _, rfl, fun e => Bool.noConfusion e, fun _ => wss_nil ?_⟩
    show WSs _ _ (rhoL [(z0, r0), (z1, r1)] o4 o5 o6 none o8 (some (.val (.bl (decide (z0 = z1) && decide (r0 = r1)))))) _
    generalize (D.bl (decide (z0 = z1) && decide (r0 = r1))) = dq
    generalize ([(z0, r0), (z1, r1)] : List (Str × List Row)) = ps at good wlen ⊢
    -- shown, equals
    refine wss_cons (ws_for rfl (wi_zip (nb _ (by decide)) ?_))
    repeat walk_at "v"
    refine ⟨_, _, rfl, rfl, fun j ρ' => ∃ o5 o6 o8, ρ' = rhoL ps o4 o5 o6 none o8 (some (.val dq)), ⟨o5, o6, o8, rfl⟩, fun j y ρ' hj hJ => ?_, fun ρ' hJ => ?_⟩
    · obtain ⟨p, hp, rfl⟩ := zip_get hj
      obtain ⟨z, rows⟩ := p
      obtain ⟨n, m, g1, g2, g3, h1, h2, h3, h4⟩ := good _ hp
      dsimp only at g1 h1 h4
      obtain ⟨o5, o6, o8, rfl⟩ := hJ
      refine wg_tup rfl ⟨_, rfl, rfl, wg_name 8 hN rfl (wg_tup rfl ⟨_, rfl, rfl, wg_name 5 hN rfl (wg_name 6 hN rfl ?_)⟩)⟩
      refine wss_one (ws_if (wt_wp (wp_or (wt_not (wt_val (we_call L.shown (hr.mono (by decide)) ?_))))))
      repeat walk_at "v"
      refine we_call L.tupled (hr.mono (by decide)) ?_
      repeat walk_at "v"
      refine ⟨_, rfl, okD_rowsL (made_small h1 h4 h3), ?_⟩
      rw [tupled_rowsL]
      refine shown_mk h4 h1 h2 h3 ⟨_, rfl, fun e => Bool.noConfusion e, fun _ => ?_⟩
      refine wp_or1 (wt_not (wt_val (we_call L.equals (hr.mono (by decide)) ?_)))
      repeat walk_at "v"
      exact equals_mk g1 g2 g3 h1 h2 h3 ⟨_, rfl, fun e => Bool.noConfusion e, fun _ => wss_nil ⟨_, _, _, rfl⟩⟩
    obtain ⟨o5, o6, o8, rfl⟩ := hJ
    -- refused, twice
    refine wss_cons (ws_for rfl (wi_range1 (nb _ (by decide)) ?_))
    repeat walk_at "v"
    refine ⟨2, rfl, by omega, by omega, fun i ρ' => ∃ o4 o5 o6 o8, ρ' = rhoL ps o4 o5 o6 none o8 (some (.val dq)), ⟨o4, o5, o6, o8, rfl⟩, fun i d ρ' hi hI => ?_, fun ρ' hI => ?_⟩
    · obtain ⟨hlt, rfl⟩ := rangeD_get hi
      obtain ⟨o4, o5, o6, o8, rfl⟩ := hI
      refine wg_name 4 hN rfl ?_
      refine wss_one (ws_for rfl (wi_zip (nb _ (by decide)) ?_))
      repeat walk_at "v"
      refine ⟨_, _, rfl, rfl, fun j ρ' => ∃ o5 o6 o8, ρ' = rhoL ps (some (.val (.int (0 + (i : Nat))))) o5 o6 none o8 (some (.val dq)), ⟨o5, o6, o8, rfl⟩, fun j y ρ' hj hJ => ?_, fun ρ' hJ => ?_⟩
      · obtain ⟨p, hp, rfl⟩ := zip_get hj
        obtain ⟨z, rows⟩ := p
        obtain ⟨n, m, g1, g2, g3, h1, h2, h3, h4⟩ := good _ hp
        dsimp only at g1 h1 h4
        obtain ⟨o5, o6, o8, rfl⟩ := hJ
        refine wg_tup rfl ⟨_, rfl, rfl, wg_name 8 hN rfl (wg_tup rfl ⟨_, rfl, rfl, wg_name 5 hN rfl (wg_name 6 hN rfl ?_)⟩)⟩
        refine wss_one (ws_if (wt_not (wt_val (we_call L.refused hr ?_))))
        repeat walk_at "v"
        exact refused_mk g1 g2 g3 h1 h2 h3 ⟨_, rfl, fun e => Bool.noConfusion e, fun _ => wss_nil ⟨_, _, _, rfl⟩⟩
      · obtain ⟨o5, o6, o8, rfl⟩ := hJ
        exact ⟨_, _, _, _, rfl⟩
    obtain ⟨o4, o5, o6, o8, rfl⟩ := hI
    -- once more
    refine wss_cons (ws_for rfl (wi_zip (nb _ (by decide)) ?_))
    repeat walk_at "v"
    refine ⟨_, _, rfl, rfl, fun j ρ' => ∃ o5 o6 o8, ρ' = rhoL ps o4 o5 o6 none o8 (some (.val dq)), ⟨o5, o6, o8, rfl⟩, fun j y ρ' hj hJ => ?_, fun ρ' hJ => ?_⟩
    · obtain ⟨p, hp, rfl⟩ := zip_get hj
      obtain ⟨z, rows⟩ := p
      obtain ⟨n, m, g1, g2, g3, h1, h2, h3, h4⟩ := good _ hp
      dsimp only at g1 h1 h4
      obtain ⟨o5, o6, o8, rfl⟩ := hJ
      refine wg_tup rfl ⟨_, rfl, rfl, wg_name 8 hN rfl (wg_tup rfl ⟨_, rfl, rfl, wg_name 5 hN rfl (wg_name 6 hN rfl ?_)⟩)⟩
      refine wss_cons (ws_if (wt_not (wt_val (we_call L.shown (hr.mono (by decide)) ?_))))
      repeat walk_at "v"
      refine we_call L.tupled (hr.mono (by decide)) ?_
      repeat walk_at "v"
      refine ⟨_, rfl, okD_rowsL (made_small h1 h4 h3), ?_⟩
      rw [tupled_rowsL]
      refine shown_mk h4 h1 h2 h3 ⟨_, rfl, fun e => Bool.noConfusion e, fun _ => wss_nil ?_⟩
      refine wss_one (ws_if (wt_not (wt_val (we_call L.walks (hr.mono (by decide)) ?_))))
      repeat walk_at "v"
      refine we_call L.calling (hr.mono (by decide)) ?_
      repeat walk_at "v"
      refine we_addS ?_
      repeat walk_at "v"
      refine ⟨_, _, rfl, rfl, by rw [sizeLine_eq, show ("." : Str).length = 1 from rfl]; dsimp only; omega, ?_⟩
      refine ⟨dot z, rfl, by rw [dot_len]; omega, by rw [dot_len]; omega, fun c cm cl' => ?_⟩
      exact walks_mk h4 h1 h3 cm cl' ⟨_, rfl, fun e => Bool.noConfusion e, fun _ => wss_nil ⟨_, _, _, rfl⟩⟩
    obtain ⟨o5, o6, o8, rfl⟩ := hJ
    refine wss_one (ws_ret ?_)
    repeat walk_at "v"
    rfl
end
end
section
set_option maxHeartbeats 4000000
open PySem PySem.Spec PyProof.Rows L2 Vl
theorem clB_ok {K : Fg} (h : clB K = true) : DrC K (clsK K 25) := by
  obtain ⟨h1, h⟩ := He.ba h
  obtain ⟨h2, h⟩ := He.ba h
  obtain ⟨h3, h⟩ := He.ba h
  obtain ⟨h4, h⟩ := He.ba h
  obtain ⟨h5, h6⟩ := He.ba h
  exact ⟨⟨h1, h2, h3, He.eqO_ok h4⟩, He.eqO_ok h5, He.eqO_ok h6⟩
theorem inB_ok {K : Fg} {mg : Str → Option Value} (C : DrC K (clsK K 25)) (g : mg "Drill" = some (.ref (clsK K 25))) (h : inB_ K = true) : DrI K mg (clsK K 25) := by
  obtain ⟨h1, h⟩ := He.ba h
  obtain ⟨h2, h⟩ := He.ba h
  obtain ⟨h3, h⟩ := He.ba h
  obtain ⟨h4, h⟩ := He.ba h
  obtain ⟨h5, h6⟩ := He.ba h
  exact ⟨g, ⟨C.cl, He.eqO_ok h1, He.eqO_ok h2, of_decide_eq_true h3, of_decide_eq_true h4⟩, of_decide_eq_true h5, fun n hn => of_decide_eq_true (List.all_eq_true.mp h6 n hn)⟩
theorem rdB_ok {K : Fg} {mg : Str → Option Value} (g : mg "Drill" = some (.ref (clsK K 25))) (h : rdB K = true) : DrR K mg (clsK K 25) := by
  obtain ⟨h1, h⟩ := He.ba h
  obtain ⟨h2, h⟩ := He.ba h
  obtain ⟨h3, h⟩ := He.ba h
  obtain ⟨h4, h⟩ := He.ba h
  obtain ⟨h5, h6⟩ := He.ba h
  have e : ∃ t, restV K = .int 0 t := by
    cases q : restV K with
    | int j t =>
      rw [q] at h5
      by_cases z : j = 0
      · subst z
        exact ⟨t, rfl⟩
      · exfalso
        revert h5
        cases j with
        | ofNat n =>
          cases n with
          | zero => exact absurd rfl z
          | succ n => exact fun h => Bool.noConfusion h
        | negSucc n => exact fun h => Bool.noConfusion h
    | _ => rw [q] at h5; cases h5
  have rel : RelV (.int 0) (restV K) := e
  have at_ : PySem.W.findCls K (rC K) (.type "type") "REST" = some (.val (restV K)) := by
    cases q : PySem.W.findCls K (rC K) (.type "type") "REST" with
    | none => rw [q] at h3; cases h3
    | some z =>
      rw [q] at h3
      cases z with
      | val u => rw [of_decide_eq_true (show decide (u = restV K) = true from h3)]
      | _ => cases h3
  exact ⟨g, ⟨h1, He.eqO_ok h2⟩, ⟨_, at_, rel⟩, ⟨_, He.eqO_ok h4, rel, He.eqO_ok h6, by decide +kernel⟩⟩
theorem nfB_ok {K : Fg} (h : nfB K = true) : DrN K (clsK K 25) := by
  obtain ⟨h1, h⟩ := He.ba h
  obtain ⟨h2, h3⟩ := He.ba h
  exact ⟨h1, h2, h3⟩
end
section
set_option maxHeartbeats 4000000
open PySem PySem.Spec PyProof.Rows L2 Vl
structure ExV (K : Fg) (mg : Str → Option Value) : Prop where
  nb : NB mg
  it : mg "iter" = none
  ga : ∀ x ∈ glA, mg x = some (.ref (He.ga K x))
  gb : ∀ x ∈ glB, mg x = some (.ref (He.ga K x))
  ms : ∃ t, mg "MOST_STANDINGS" = some (.int 6 t)
  mb : ∃ t, mg "MOST_BEATS" = some (.int 400 t)
  sm : ∃ t, mg "SMALL" = some (.str SMALL t)
  e2 : ErV K 2 "words"
  e3 : ErV K 3 "number"
  e4 : ErV K 4 "number"
  e5 : ErV K 5 "standing"
  kk : ∀ i ∈ errs, ∀ j ∈ errs, PySem.W.kitOne K (.ref (clsK K i)) (.ref (clsK K j)) = some (i == j)
  C : DrC K (clsK K 25)
  I : DrI K mg (clsK K 25)
  R : DrR K mg (clsK K 25)
  N : DrN K (clsK K 25)
  p : PropOf K (clsK K 25) "is_steady" (stP K) (stG K)
  mkD : Mk K (clsK K 25) (ini K 25)
  me : ∀ m ∈ meths, Meth K (clsK K 25) m (mAd m K) ∧ PySem.W.fnIn K (mAd m K) = true
  gt : PySem.W.specialIn K (.builtin "object.__class__") "__get__" = some (some (.builtin "getset_descriptor.__get__"))
  tk : PySem.W.takesIn K (.builtin "object.__class__") = some true
theorem exK_ok {K : Fg} {h : Heap} {mg : Str → Option Value} (X : K.In h) (G : h.Ns mainGlobals mg) (e : exK K = true) : ExV K mg := by
  obtain ⟨h1, e⟩ := He.ba e
  obtain ⟨h2, e⟩ := He.ba e
  obtain ⟨h3, e⟩ := He.ba e
  obtain ⟨h4, e⟩ := He.ba e
  obtain ⟨h5, e⟩ := He.ba e
  obtain ⟨h6, e⟩ := He.ba e
  obtain ⟨h7, e⟩ := He.ba e
  obtain ⟨h8, e⟩ := He.ba e
  obtain ⟨h9, e⟩ := He.ba e
  obtain ⟨h10, e⟩ := He.ba e
  obtain ⟨h11, e⟩ := He.ba e
  obtain ⟨h12, e⟩ := He.ba e
  obtain ⟨h13, e⟩ := He.ba e
  obtain ⟨h14, e⟩ := He.ba e
  obtain ⟨h15, e⟩ := He.ba e
  obtain ⟨h16, e⟩ := He.ba e
  obtain ⟨h17, e⟩ := He.ba e
  obtain ⟨h18, h19⟩ := He.ba e
  have gb : ∀ x ∈ glB, mg x = some (.ref (He.ga K x)) := fun x m => He.glo_ok X G (List.all_eq_true.mp h4 x m)
  have gD : mg "Drill" = some (.ref (clsK K 25)) := gb "Drill" (by decide +kernel)
  have C := clB_ok h13
  have I := inB_ok C gD h14
  exact ⟨fun x m => He.free_ok X G (List.all_eq_true.mp h1 x m), He.free_ok X G h2, fun x m => He.glo_ok X G (List.all_eq_true.mp h3 x m), gb, He.int_ok X G h5, He.int_ok X G h6, He.str_ok X G h7, erB_ok h8, erB_ok h9, erB_ok h10, erB_ok h11,
    fun i mi j mj => of_decide_eq_true (List.all_eq_true.mp (List.all_eq_true.mp h12 i mi) j mj), C, I, rdB_ok gD h15, nfB_ok h16, prB_ok h17, mkB_ok h18, fun m mm => meB_ok (List.all_eq_true.mp h19 m mm), I.ins.hn, I.ins.ht⟩
/-! ### the binding of arguments -/
theorem b_is_integer {K : Fg} {f : Addr} {fd : FuncData} (F : Fun K "is_integer" "is_integer" (top 9) f fd) : Binds K fd ["thing"] [] := F.binds fun _ _ _ _ _ _ us hl => match us, hl with | [_], _ => by kernel_rfl
theorem b_in_bounds {K : Fg} {f : Addr} {fd : FuncData} (F : Fun K "in_bounds" "in_bounds" (top 10) f fd) : Binds K fd ["thing", "least", "most"] [] := F.binds fun _ _ _ _ _ _ us hl => match us, hl with | [_, _, _], _ => by kernel_rfl
theorem b_is_tuple {K : Fg} {f : Addr} {fd : FuncData} (F : Fun K "is_tuple" "is_tuple" (top 11) f fd) : Binds K fd ["thing", "least", "most"] [] := F.binds fun _ _ _ _ _ _ us hl => match us, hl with | [_, _, _], _ => by kernel_rfl
theorem b_is_rising {K : Fg} {f : Addr} {fd : FuncData} (F : Fun K "is_rising" "is_rising" (top 12) f fd) : Binds K fd ["row"] [] := F.binds fun _ _ _ _ _ _ us hl => match us, hl with | [_], _ => by kernel_rfl
theorem b_frozen {K : Fg} {f : Addr} {fd : FuncData} (F : Fun K "frozen" "frozen" (top 13) f fd) : Binds K fd ["thing"] [] := F.binds fun _ _ _ _ _ _ us hl => match us, hl with | [_], _ => by kernel_rfl
theorem b_misplaced {K : Fg} {f : Addr} {fd : FuncData} (F : Fun K "misplaced" "misplaced" (top 14) f fd) : Binds K fd ["text", "letters", "least", "most"] [] := F.binds fun _ _ _ _ _ _ us hl => match us, hl with | [_, _, _, _], _ => by kernel_rfl
theorem b_is_text {K : Fg} {f : Addr} {fd : FuncData} (F : Fun K "is_text" "is_text" (top 15) f fd) : Binds K fd ["thing", "letters", "least", "most"] [] := F.binds fun _ _ _ _ _ _ us hl => match us, hl with | [_, _, _, _], _ => by kernel_rfl
theorem b_are_words {K : Fg} {f : Addr} {fd : FuncData} (F : Fun K "are_words" "are_words" (top 16) f fd) : Binds K fd ["thing"] [] := F.binds fun _ _ _ _ _ _ us hl => match us, hl with | [_], _ => by kernel_rfl
theorem b_check_words {K : Fg} {f : Addr} {fd : FuncData} (F : Fun K "check_words" "check_words" (top 17) f fd) : Binds K fd ["words"] [] := F.binds fun _ _ _ _ _ _ us hl => match us, hl with | [_], _ => by kernel_rfl
theorem b_check_calling {K : Fg} {f : Addr} {fd : FuncData} (F : Fun K "check_calling" "check_calling" (top 18) f fd) : Binds K fd ["words", "calling"] [] := F.binds fun _ _ _ _ _ _ us hl => match us, hl with | [_, _], _ => by kernel_rfl
theorem b_is_standing {K : Fg} {f : Addr} {fd : FuncData} (F : Fun K "is_standing" "is_standing" (top 21) f fd) : Binds K fd ["row", "signs", "many"] [] := F.binds fun _ _ _ _ _ _ us hl => match us, hl with | [_, _, _], _ => by kernel_rfl
theorem b_is_rest {K : Fg} {f : Addr} {fd : FuncData} (F : Fun K "is_rest" "is_rest" (top 22) f fd) : Binds K fd ["row"] [] := F.binds fun _ _ _ _ _ _ us hl => match us, hl with | [_], _ => by kernel_rfl
theorem b_wrong_standing {K : Fg} {f : Addr} {fd : FuncData} (F : Fun K "wrong_standing" "wrong_standing" (top 23) f fd) : Binds K fd ["words", "rows"] [] := F.binds fun _ _ _ _ _ _ us hl => match us, hl with | [_, _], _ => by kernel_rfl
theorem b_led {K : Fg} {f : Addr} {fd : FuncData} (F : Fun K "led" "led" (top 24) f fd) : Binds K fd ["words", "standings", "standing", "signs"] [] := F.binds fun _ _ _ _ _ _ us hl => match us, hl with | [_, _, _, _], _ => by kernel_rfl
theorem b__law_draw {K : Fg} {f : Addr} {fd : FuncData} (F : Fun K "_law_draw" "_law_draw" (top 27) f fd) : Binds K fd ["_law_script"] [] := F.binds fun _ _ _ _ _ _ us hl => match us, hl with | [_], _ => by kernel_rfl
theorem b__law_mix {K : Fg} {f : Addr} {fd : FuncData} (F : Fun K "_law_mix" "_law_mix" (top 28) f fd) : Binds K fd ["_law_cell", "_law_turn"] [] := F.binds fun _ _ _ _ _ _ us hl => match us, hl with | [_, _], _ => by kernel_rfl
theorem b__law_pick {K : Fg} {f : Addr} {fd : FuncData} (F : Fun K "_law_pick" "_law_pick" (top 29) f fd) : Binds K fd ["_law_draw_here", "_law_many"] [] := F.binds fun _ _ _ _ _ _ us hl => match us, hl with | [_, _], _ => by kernel_rfl
theorem b__law_listed {K : Fg} {f : Addr} {fd : FuncData} (F : Fun K "_law_listed" "_law_listed" (top 30) f fd) : Binds K fd ["_law_thing"] [] := F.binds fun _ _ _ _ _ _ us hl => match us, hl with | [_], _ => by kernel_rfl
theorem b__law_tupled {K : Fg} {f : Addr} {fd : FuncData} (F : Fun K "_law_tupled" "_law_tupled" (top 31) f fd) : Binds K fd ["_law_thing"] [] := F.binds fun _ _ _ _ _ _ us hl => match us, hl with | [_], _ => by kernel_rfl
theorem b__law_words {K : Fg} {f : Addr} {fd : FuncData} (F : Fun K "_law_words" "_law_words" (top 32) f fd) : Binds K fd ["_law_draw_here", "_law_many"] [] := F.binds fun _ _ _ _ _ _ us hl => match us, hl with | [_, _], _ => by kernel_rfl
theorem b__law_same {K : Fg} {f : Addr} {fd : FuncData} (F : Fun K "_law_same" "_law_same" (top 33) f fd) : Binds K fd ["_law_one", "_law_two"] [] := F.binds fun _ _ _ _ _ _ us hl => match us, hl with | [_, _], _ => by kernel_rfl
theorem b__law_rows {K : Fg} {f : Addr} {fd : FuncData} (F : Fun K "_law_rows" "_law_rows" (top 34) f fd) : Binds K fd ["_law_draw_here", "_law_words_here", "_law_many"] [] := F.binds fun _ _ _ _ _ _ us hl => match us, hl with | [_, _, _], _ => by kernel_rfl
theorem b__law_handed {K : Fg} {f : Addr} {fd : FuncData} (F : Fun K "_law_handed" "_law_handed" (top 35) f fd) : Binds K fd ["_law_draw_here", "_law_rows_here"] [] := F.binds fun _ _ _ _ _ _ us hl => match us, hl with | [_, _], _ => by kernel_rfl
theorem b__law_spoil {K : Fg} {f : Addr} {fd : FuncData} (F : Fun K "_law_spoil" "_law_spoil" (top 36) f fd) : Binds K fd ["_law_thing"] [] := F.binds fun _ _ _ _ _ _ us hl => match us, hl with | [_], _ => by kernel_rfl
theorem b__law_went {K : Fg} {f : Addr} {fd : FuncData} (F : Fun K "_law_went" "_law_went" (top 37) f fd) : Binds K fd ["_law_rows_here", "_law_words_here", "_law_standing", "_law_calling_here"] [] := F.binds fun _ _ _ _ _ _ us hl => match us, hl with | [_, _, _, _], _ => by kernel_rfl
theorem b__law_walks {K : Fg} {f : Addr} {fd : FuncData} (F : Fun K "_law_walks" "_law_walks" (top 38) f fd) : Binds K fd ["_law_drill", "_law_words_here", "_law_rows_here", "_law_calling_here"] [] := F.binds fun _ _ _ _ _ _ us hl => match us, hl with | [_, _, _, _], _ => by kernel_rfl
theorem b__law_shown {K : Fg} {f : Addr} {fd : FuncData} (F : Fun K "_law_shown" "_law_shown" (top 39) f fd) : Binds K fd ["_law_drill", "_law_words_here", "_law_rows_here"] [] := F.binds fun _ _ _ _ _ _ us hl => match us, hl with | [_, _, _], _ => by kernel_rfl
theorem b__law_calling {K : Fg} {f : Addr} {fd : FuncData} (F : Fun K "_law_calling" "_law_calling" (top 40) f fd) : Binds K fd ["_law_draw_here", "_law_signs"] [] := F.binds fun _ _ _ _ _ _ us hl => match us, hl with | [_, _], _ => by kernel_rfl
theorem b__law_told {K : Fg} {f : Addr} {fd : FuncData} (F : Fun K "_law_told" "_law_told" (top 41) f fd) : Binds K fd ["_law_fault"] [] := F.binds fun _ _ _ _ _ _ us hl => match us, hl with | [_], _ => by kernel_rfl
theorem b__law_making {K : Fg} {f : Addr} {fd : FuncData} (F : Fun K "_law_making" "_law_making" (top 42) f fd) : Binds K fd ["_law_words_here", "_law_thing"] [] := F.binds fun _ _ _ _ _ _ us hl => match us, hl with | [_, _], _ => by kernel_rfl
theorem b__law_asking {K : Fg} {f : Addr} {fd : FuncData} (F : Fun K "_law_asking" "_law_asking" (top 43) f fd) : Binds K fd ["_law_drill", "_law_way", "_law_standing", "_law_calling_here"] [] := F.binds fun _ _ _ _ _ _ us hl => match us, hl with | [_, _, _, _], _ => by kernel_rfl
theorem b__law_bad_words {K : Fg} {f : Addr} {fd : FuncData} (F : Fun K "_law_bad_words" "_law_bad_words" (top 44) f fd) : Binds K fd ["_law_draw_here", "_law_words_here"] [] := F.binds fun _ _ _ _ _ _ us hl => match us, hl with | [_, _], _ => by kernel_rfl
theorem b__law_bad_standing {K : Fg} {f : Addr} {fd : FuncData} (F : Fun K "_law_bad_standing" "_law_bad_standing" (top 45) f fd) : Binds K fd ["_law_draw_here", "_law_words_here", "_law_many", "_law_row", "_law_number"] [] := F.binds fun _ _ _ _ _ _ us hl => match us, hl with | [_, _, _, _, _], _ => by kernel_rfl
theorem b__law_bad_standings {K : Fg} {f : Addr} {fd : FuncData} (F : Fun K "_law_bad_standings" "_law_bad_standings" (top 46) f fd) : Binds K fd ["_law_draw_here", "_law_words_here", "_law_rows_here"] [] := F.binds fun _ _ _ _ _ _ us hl => match us, hl with | [_, _, _], _ => by kernel_rfl
theorem b__law_bad_calling {K : Fg} {f : Addr} {fd : FuncData} (F : Fun K "_law_bad_calling" "_law_bad_calling" (top 47) f fd) : Binds K fd ["_law_draw_here", "_law_words_here"] [] := F.binds fun _ _ _ _ _ _ us hl => match us, hl with | [_, _], _ => by kernel_rfl
theorem b__law_refused {K : Fg} {f : Addr} {fd : FuncData} (F : Fun K "_law_refused" "_law_refused" (top 48) f fd) : Binds K fd ["_law_draw_here", "_law_drill", "_law_words_here", "_law_rows_here"] [] := F.binds fun _ _ _ _ _ _ us hl => match us, hl with | [_, _, _, _], _ => by kernel_rfl
theorem b__law_equals {K : Fg} {f : Addr} {fd : FuncData} (F : Fun K "_law_equals" "_law_equals" (top 49) f fd) : Binds K fd ["_law_draw_here", "_law_drill", "_law_words_here", "_law_rows_here"] [] := F.binds fun _ _ _ _ _ _ us hl => match us, hl with | [_, _, _, _], _ => by kernel_rfl
theorem b_law {K : Fg} {f : Addr} {fd : FuncData} (F : Fun K "law" "law" (top 50) f fd) : Binds K fd ["_law_script"] [] := F.binds fun _ _ _ _ _ _ us hl => match us, hl with | [_], _ => by kernel_rfl
theorem b_D___init__ {K : Fg} {f : Addr} {fd : FuncData} (F : Fun K "__init__" "Drill.__init__" (inClass (top 25) 1) f fd) : Binds K fd ["self", "words", "standings"] [] := F.binds fun _ _ _ _ _ _ us hl => match us, hl with | [_, _, _], _ => by kernel_rfl
theorem b_D___len__ {K : Fg} {f : Addr} {fd : FuncData} (F : Fun K "__len__" "Drill.__len__" (inClass (top 25) 2) f fd) : Binds K fd ["self"] [] := F.binds fun _ _ _ _ _ _ us hl => match us, hl with | [_], _ => by kernel_rfl
theorem b_D___getitem__ {K : Fg} {f : Addr} {fd : FuncData} (F : Fun K "__getitem__" "Drill.__getitem__" (inClass (top 25) 3) f fd) : Binds K fd ["self", "standing"] [] := F.binds fun _ _ _ _ _ _ us hl => match us, hl with | [_, _], _ => by kernel_rfl
theorem b_D___iter__ {K : Fg} {f : Addr} {fd : FuncData} (F : Fun K "__iter__" "Drill.__iter__" (inClass (top 25) 4) f fd) : Binds K fd ["self"] [] := F.binds fun _ _ _ _ _ _ us hl => match us, hl with | [_], _ => by kernel_rfl
theorem b_D___eq__ {K : Fg} {f : Addr} {fd : FuncData} (F : Fun K "__eq__" "Drill.__eq__" (inClass (top 25) 5) f fd) : Binds K fd ["self", "other"] [] := F.binds fun _ _ _ _ _ _ us hl => match us, hl with | [_, _], _ => by kernel_rfl
theorem b_D___call__ {K : Fg} {f : Addr} {fd : FuncData} (F : Fun K "__call__" "Drill.__call__" (inClass (top 25) 6) f fd) : Binds K fd ["self", "standing", "calling"] [] := F.binds fun _ _ _ _ _ _ us hl => match us, hl with | [_, _, _], _ => by kernel_rfl
theorem b_D_is_steady {K : Fg} {f : Addr} {fd : FuncData} (F : Fun K "is_steady" "Drill.is_steady" (inClass (top 25) 7) f fd) : Binds K fd ["self"] [] := F.binds fun _ _ _ _ _ _ us hl => match us, hl with | [_], _ => by kernel_rfl
theorem b_D_walk {K : Fg} {f : Addr} {fd : FuncData} (F : Fun K "walk" "Drill.walk" (inClass (top 25) 8) f fd) : Binds K fd ["self", "standing", "calling"] [] := F.binds fun _ _ _ _ _ _ us hl => match us, hl with | [_, _, _], _ => by kernel_rfl
theorem b_D_check_standing {K : Fg} {f : Addr} {fd : FuncData} (F : Fun K "check_standing" "Drill.check_standing" (inClass (top 25) 9) f fd) : Binds K fd ["self", "standing"] [] := F.binds fun _ _ _ _ _ _ us hl => match us, hl with | [_, _], _ => by kernel_rfl
theorem b_E_2 {K : Fg} {f : Addr} {fd : FuncData} (F : Fun K "__init__" "BadWords.__init__" (inClass (top 2) 0) f fd) : Binds K fd ["self", "words"] [] := F.binds fun _ _ _ _ _ _ us hl => match us, hl with | [_, _], _ => by kernel_rfl
theorem b_E_3 {K : Fg} {f : Addr} {fd : FuncData} (F : Fun K "__init__" "BadStanding.__init__" (inClass (top 3) 0) f fd) : Binds K fd ["self", "number"] [] := F.binds fun _ _ _ _ _ _ us hl => match us, hl with | [_, _], _ => by kernel_rfl
theorem b_E_4 {K : Fg} {f : Addr} {fd : FuncData} (F : Fun K "__init__" "BadCalling.__init__" (inClass (top 4) 0) f fd) : Binds K fd ["self", "number"] [] := F.binds fun _ _ _ _ _ _ us hl => match us, hl with | [_, _], _ => by kernel_rfl
theorem b_E_5 {K : Fg} {f : Addr} {fd : FuncData} (F : Fun K "__init__" "NoStanding.__init__" (inClass (top 5) 0) f fd) : Binds K fd ["self", "standing"] [] := F.binds fun _ _ _ _ _ _ us hl => match us, hl with | [_, _], _ => by kernel_rfl
end
section
set_option maxHeartbeats 16000000
open PySem PySem.Spec PyProof.Rows L2 Vl
theorem scX {y : Str} {sc : Scope} (h : FnScope ["self", y] ["self", y] sc) : FnScope ["self", y] ["self", y] sc := h
theorem sc_e2 : FnScope ["self", "words"] ["self", "words"] (defScope (inClass (top 2) 0)) := ⟨rfl, rfl, rfl, by decide +kernel, rfl, by decide +kernel, by decide +kernel⟩
theorem sc_e3 : FnScope ["self", "number"] ["self", "number"] (defScope (inClass (top 3) 0)) := ⟨rfl, rfl, rfl, by decide +kernel, rfl, by decide +kernel, by decide +kernel⟩
theorem sc_e4 : FnScope ["self", "number"] ["self", "number"] (defScope (inClass (top 4) 0)) := ⟨rfl, rfl, rfl, by decide +kernel, rfl, by decide +kernel, by decide +kernel⟩
theorem sc_e5 : FnScope ["self", "standing"] ["self", "standing"] (defScope (inClass (top 5) 0)) := ⟨rfl, rfl, rfl, by decide +kernel, rfl, by decide +kernel, by decide +kernel⟩
section
variable {P : Program} {w : World} {K : PySem.W.Frag} {mg : Str → Option Value} {base : Heap}
theorem er_mk {k : Nat} {f x : Str} {fd : FuncData} {ps : List Str} (V : ErV K k f) (nm : mg x = some (.ref (clsK K k))) (F : FnOk P w K mg base (L2N.CX P w) 1 (ini K k) fd ps (spX (clsK K k) [f])) (b : Binds K fd ps []) : Er P w K mg base (clsK K) x k [f] :=
  ⟨V.o, nm, _, _, _, V.ini, V.ty, F, b⟩
theorem xf_mk (V : ExV K mg) : ErF K mg (clsK K) := by
  have nm : ∀ x ∈ glB, mg x = some (.ref (He.ga K x)) := V.gb
  have ec : ∀ {k : Nat} {f : Str}, ErV K k f → ExcC K (clsK K k) := fun {k f} E => ⟨E.xf.ga, E.xf.gg, E.xf.exC, E.xf.hdC, E.cl, V.gt, V.tk, E.mro⟩
  exact ⟨nm "BadWords" (by decide +kernel), nm "BadStanding" (by decide +kernel), nm "BadCalling" (by decide +kernel), nm "NoStanding" (by decide +kernel), nm "TailError" (by decide +kernel),
    fun k hk => by
      simp only [List.mem_cons, List.not_mem_nil, or_false] at hk
      rcases hk with rfl | rfl | rfl | rfl
      · exact ec V.e2
      · exact ec V.e3
      · exact ec V.e4
      · exact ec V.e5,
    fun k hk => by
      simp only [List.mem_cons, List.not_mem_nil, or_false] at hk
      rcases hk with rfl | rfl | rfl | rfl
      · exact V.e2.xf
      · exact V.e3.xf
      · exact V.e4.xf
      · exact V.e5.xf,
    V.kk,
    fun k hk => by
      simp only [List.mem_cons, List.not_mem_nil, or_false] at hk
      rcases hk with rfl | rfl | rfl | rfl
      · exact V.e2.kv
      · exact V.e3.kv
      · exact V.e4.kv
      · exact V.e5.kv,
    V.e2.fl, V.e3.fl, V.e4.fl, V.e5.fl, fun k hk => by
      simp only [List.mem_cons, List.not_mem_nil, or_false] at hk
      rcases hk with rfl | rfl | rfl | rfl
      · exact V.e2.em
      · exact V.e3.em
      · exact V.e4.em
      · exact V.e5.em⟩
end
theorem b_lawTo {K : PySem.W.Frag} {f : Addr} {fd : FuncData} {s : Shared} {v : Value} (F : Fun K "law" "law" (top 50) f fd) : BindsTo s fd ⟨[v], []⟩ [("_law_script", v)] := by
  obtain ⟨oc, od, kV, doc, pm, an, cdv, ct, osl, rfl, lk, hcd⟩ := F.ex
  exact BindsTo.of_eq (by kernel_rfl)
theorem facts {P : Program} {w : World} {K : PySem.W.Frag} {h : Heap} {mg : Str → Option Value} {f : Addr} (X : K.In h) (G : h.Ns mainGlobals mg) (hfa : mg ("law" : Str) = some (.ref f)) (c : SaysK exK fnK K) :
    ∃ fd : FuncData, (∀ (s : Shared) (v : Value), BindsTo s fd ⟨[v], []⟩ [("_law_script", v)]) ∧ ∀ base : Heap, K.In base → base.Ns mainGlobals mg → FnOk P w K mg base (L2N.CX P w) 12 f fd ["_law_script"] (spLaw K) := by
  have V := exK_ok X G c.exs
  have nb := V.nb
  have g_is_integer : mg "is_integer" = some (.ref (He.ga K "is_integer")) := V.ga "is_integer" (by decide +kernel)
  have g_in_bounds : mg "in_bounds" = some (.ref (He.ga K "in_bounds")) := V.ga "in_bounds" (by decide +kernel)
  have g_is_tuple : mg "is_tuple" = some (.ref (He.ga K "is_tuple")) := V.ga "is_tuple" (by decide +kernel)
  have g_is_rising : mg "is_rising" = some (.ref (He.ga K "is_rising")) := V.ga "is_rising" (by decide +kernel)
  have g_frozen : mg "frozen" = some (.ref (He.ga K "frozen")) := V.ga "frozen" (by decide +kernel)
  have g_misplaced : mg "misplaced" = some (.ref (He.ga K "misplaced")) := V.ga "misplaced" (by decide +kernel)
  have g_is_text : mg "is_text" = some (.ref (He.ga K "is_text")) := V.ga "is_text" (by decide +kernel)
  have g_are_words : mg "are_words" = some (.ref (He.ga K "are_words")) := V.ga "are_words" (by decide +kernel)
  have g_check_words : mg "check_words" = some (.ref (He.ga K "check_words")) := V.ga "check_words" (by decide +kernel)
  have g_check_calling : mg "check_calling" = some (.ref (He.ga K "check_calling")) := V.ga "check_calling" (by decide +kernel)
  have g_is_standing : mg "is_standing" = some (.ref (He.ga K "is_standing")) := V.ga "is_standing" (by decide +kernel)
  have g_is_rest : mg "is_rest" = some (.ref (He.ga K "is_rest")) := V.ga "is_rest" (by decide +kernel)
  have g_wrong_standing : mg "wrong_standing" = some (.ref (He.ga K "wrong_standing")) := V.ga "wrong_standing" (by decide +kernel)
  have g_led : mg "led" = some (.ref (He.ga K "led")) := V.ga "led" (by decide +kernel)
  have g__law_draw : mg "_law_draw" = some (.ref (He.ga K "_law_draw")) := V.ga "_law_draw" (by decide +kernel)
  have g__law_mix : mg "_law_mix" = some (.ref (He.ga K "_law_mix")) := V.ga "_law_mix" (by decide +kernel)
  have g__law_pick : mg "_law_pick" = some (.ref (He.ga K "_law_pick")) := V.ga "_law_pick" (by decide +kernel)
  have g__law_listed : mg "_law_listed" = some (.ref (He.ga K "_law_listed")) := V.ga "_law_listed" (by decide +kernel)
  have g__law_tupled : mg "_law_tupled" = some (.ref (He.ga K "_law_tupled")) := V.ga "_law_tupled" (by decide +kernel)
  have g__law_words : mg "_law_words" = some (.ref (He.ga K "_law_words")) := V.ga "_law_words" (by decide +kernel)
  have g__law_same : mg "_law_same" = some (.ref (He.ga K "_law_same")) := V.ga "_law_same" (by decide +kernel)
  have g__law_rows : mg "_law_rows" = some (.ref (He.ga K "_law_rows")) := V.ga "_law_rows" (by decide +kernel)
  have g__law_handed : mg "_law_handed" = some (.ref (He.ga K "_law_handed")) := V.ga "_law_handed" (by decide +kernel)
  have g__law_spoil : mg "_law_spoil" = some (.ref (He.ga K "_law_spoil")) := V.ga "_law_spoil" (by decide +kernel)
  have g__law_went : mg "_law_went" = some (.ref (He.ga K "_law_went")) := V.ga "_law_went" (by decide +kernel)
  have g__law_walks : mg "_law_walks" = some (.ref (He.ga K "_law_walks")) := V.ga "_law_walks" (by decide +kernel)
  have g__law_shown : mg "_law_shown" = some (.ref (He.ga K "_law_shown")) := V.ga "_law_shown" (by decide +kernel)
  have g__law_calling : mg "_law_calling" = some (.ref (He.ga K "_law_calling")) := V.ga "_law_calling" (by decide +kernel)
  have g__law_told : mg "_law_told" = some (.ref (He.ga K "_law_told")) := V.ga "_law_told" (by decide +kernel)
  have g__law_making : mg "_law_making" = some (.ref (He.ga K "_law_making")) := V.ga "_law_making" (by decide +kernel)
  have g__law_asking : mg "_law_asking" = some (.ref (He.ga K "_law_asking")) := V.gb "_law_asking" (by decide +kernel)
  have g__law_bad_words : mg "_law_bad_words" = some (.ref (He.ga K "_law_bad_words")) := V.gb "_law_bad_words" (by decide +kernel)
  have g__law_bad_standing : mg "_law_bad_standing" = some (.ref (He.ga K "_law_bad_standing")) := V.gb "_law_bad_standing" (by decide +kernel)
  have g__law_bad_standings : mg "_law_bad_standings" = some (.ref (He.ga K "_law_bad_standings")) := V.gb "_law_bad_standings" (by decide +kernel)
  have g__law_bad_calling : mg "_law_bad_calling" = some (.ref (He.ga K "_law_bad_calling")) := V.gb "_law_bad_calling" (by decide +kernel)
  have g__law_refused : mg "_law_refused" = some (.ref (He.ga K "_law_refused")) := V.gb "_law_refused" (by decide +kernel)
  have g__law_equals : mg "_law_equals" = some (.ref (He.ga K "_law_equals")) := V.gb "_law_equals" (by decide +kernel)
  have g_law : mg "law" = some (.ref (He.ga K "law")) := V.gb "law" (by decide +kernel)
  have e := hfa.symm.trans g_law
  cases e
  obtain ⟨d_is_integer, F_is_integer⟩ := c.fn 0 (d := _) rfl
  obtain ⟨d_in_bounds, F_in_bounds⟩ := c.fn 1 (d := _) rfl
  obtain ⟨d_is_tuple, F_is_tuple⟩ := c.fn 2 (d := _) rfl
  obtain ⟨d_is_rising, F_is_rising⟩ := c.fn 3 (d := _) rfl
  obtain ⟨d_frozen, F_frozen⟩ := c.fn 4 (d := _) rfl
  obtain ⟨d_misplaced, F_misplaced⟩ := c.fn 5 (d := _) rfl
  obtain ⟨d_is_text, F_is_text⟩ := c.fn 6 (d := _) rfl
  obtain ⟨d_are_words, F_are_words⟩ := c.fn 7 (d := _) rfl
  obtain ⟨d_check_words, F_check_words⟩ := c.fn 8 (d := _) rfl
  obtain ⟨d_check_calling, F_check_calling⟩ := c.fn 9 (d := _) rfl
  obtain ⟨d_is_standing, F_is_standing⟩ := c.fn 10 (d := _) rfl
  obtain ⟨d_is_rest, F_is_rest⟩ := c.fn 11 (d := _) rfl
  obtain ⟨d_wrong_standing, F_wrong_standing⟩ := c.fn 12 (d := _) rfl
  obtain ⟨d_led, F_led⟩ := c.fn 13 (d := _) rfl
  obtain ⟨d__law_draw, F__law_draw⟩ := c.fn 14 (d := _) rfl
  obtain ⟨d__law_mix, F__law_mix⟩ := c.fn 15 (d := _) rfl
  obtain ⟨d__law_pick, F__law_pick⟩ := c.fn 16 (d := _) rfl
  obtain ⟨d__law_listed, F__law_listed⟩ := c.fn 17 (d := _) rfl
  obtain ⟨d__law_tupled, F__law_tupled⟩ := c.fn 18 (d := _) rfl
  obtain ⟨d__law_words, F__law_words⟩ := c.fn 19 (d := _) rfl
  obtain ⟨d__law_same, F__law_same⟩ := c.fn 20 (d := _) rfl
  obtain ⟨d__law_rows, F__law_rows⟩ := c.fn 21 (d := _) rfl
  obtain ⟨d__law_handed, F__law_handed⟩ := c.fn 22 (d := _) rfl
  obtain ⟨d__law_spoil, F__law_spoil⟩ := c.fn 23 (d := _) rfl
  obtain ⟨d__law_went, F__law_went⟩ := c.fn 24 (d := _) rfl
  obtain ⟨d__law_walks, F__law_walks⟩ := c.fn 25 (d := _) rfl
  obtain ⟨d__law_shown, F__law_shown⟩ := c.fn 26 (d := _) rfl
  obtain ⟨d__law_calling, F__law_calling⟩ := c.fn 27 (d := _) rfl
  obtain ⟨d__law_told, F__law_told⟩ := c.fn 28 (d := _) rfl
  obtain ⟨d__law_making, F__law_making⟩ := c.fn 29 (d := _) rfl
  obtain ⟨d__law_asking, F__law_asking⟩ := c.fn 30 (d := _) rfl
  obtain ⟨d__law_bad_words, F__law_bad_words⟩ := c.fn 31 (d := _) rfl
  obtain ⟨d__law_bad_standing, F__law_bad_standing⟩ := c.fn 32 (d := _) rfl
  obtain ⟨d__law_bad_standings, F__law_bad_standings⟩ := c.fn 33 (d := _) rfl
  obtain ⟨d__law_bad_calling, F__law_bad_calling⟩ := c.fn 34 (d := _) rfl
  obtain ⟨d__law_refused, F__law_refused⟩ := c.fn 35 (d := _) rfl
  obtain ⟨d__law_equals, F__law_equals⟩ := c.fn 36 (d := _) rfl
  obtain ⟨d_law, F_law⟩ := c.fn 37 (d := _) rfl
  obtain ⟨d_Drill___init__, F_Drill___init__⟩ := c.fn 38 (d := _) rfl
  obtain ⟨d_Drill___len__, F_Drill___len__⟩ := c.fn 39 (d := _) rfl
  obtain ⟨d_Drill___getitem__, F_Drill___getitem__⟩ := c.fn 40 (d := _) rfl
  obtain ⟨d_Drill___iter__, F_Drill___iter__⟩ := c.fn 41 (d := _) rfl
  obtain ⟨d_Drill___eq__, F_Drill___eq__⟩ := c.fn 42 (d := _) rfl
  obtain ⟨d_Drill___call__, F_Drill___call__⟩ := c.fn 43 (d := _) rfl
  obtain ⟨d_Drill_is_steady, F_Drill_is_steady⟩ := c.fn 44 (d := _) rfl
  obtain ⟨d_Drill_walk, F_Drill_walk⟩ := c.fn 45 (d := _) rfl
  obtain ⟨d_Drill_check_standing, F_Drill_check_standing⟩ := c.fn 46 (d := _) rfl
  obtain ⟨d_BadWords___init__, F_BadWords___init__⟩ := c.fn 47 (d := _) rfl
  obtain ⟨d_BadStanding___init__, F_BadStanding___init__⟩ := c.fn 48 (d := _) rfl
  obtain ⟨d_BadCalling___init__, F_BadCalling___init__⟩ := c.fn 49 (d := _) rfl
  obtain ⟨d_NoStanding___init__, F_NoStanding___init__⟩ := c.fn 50 (d := _) rfl
  refine ⟨d_law, fun s v => ?_, fun base _ _ => ?_⟩
  · exact b_lawTo F_law
  have C := V.C
  have XF := xf_mk V
  have X2 : Er P w K mg base (clsK K) "BadWords" 2 ["words"] := er_mk V.e2 XF.n2 (xinit1 F_BadWords___init__ sc_e2 V.e2.o V.e2.fl (by rfl)) (b_E_2 F_BadWords___init__)
  have X3 : Er P w K mg base (clsK K) "BadStanding" 3 ["number"] := er_mk V.e3 XF.n3 (xinit1 F_BadStanding___init__ sc_e3 V.e3.o V.e3.fl (by rfl)) (b_E_3 F_BadStanding___init__)
  have X4 : Er P w K mg base (clsK K) "BadCalling" 4 ["number"] := er_mk V.e4 XF.n4 (xinit1 F_BadCalling___init__ sc_e4 V.e4.o V.e4.fl (by rfl)) (b_E_4 F_BadCalling___init__)
  have X5 : Er P w K mg base (clsK K) "NoStanding" 5 ["standing"] := er_mk V.e5 XF.n5 (xinit1 F_NoStanding___init__ sc_e5 V.e5.o V.e5.fl (by rfl)) (b_E_5 F_NoStanding___init__)
  have Dint : Df P w K mg base (clsK K) "is_integer" 1 ["thing"] fs_is_integer := ⟨_, _, ok_is_integer nb F_is_integer, g_is_integer, F_is_integer.kp, b_is_integer F_is_integer⟩
  have Dinb : Df P w K mg base (clsK K) "in_bounds" 2 ["thing", "least", "most"] fs_in_bounds := ⟨_, _, ok_in_bounds nb Dint F_in_bounds, g_in_bounds, F_in_bounds.kp, b_in_bounds F_in_bounds⟩
  have Dtup : Df P w K mg base (clsK K) "is_tuple" 1 ["thing", "least", "most"] fs_is_tuple := ⟨_, _, ok_is_tuple nb F_is_tuple, g_is_tuple, F_is_tuple.kp, b_is_tuple F_is_tuple⟩
  have Dris : Df P w K mg base (clsK K) "is_rising" 1 ["row"] fs_is_rising := ⟨_, _, ok_is_rising nb F_is_rising, g_is_rising, F_is_rising.kp, b_is_rising F_is_rising⟩
  have Dfro : Df P w K mg base (clsK K) "frozen" 7 ["thing"] (fs_frozen 6) := ⟨_, _, ok_frozen nb F_frozen g_frozen (b_frozen F_frozen) 6, g_frozen, F_frozen.kp, b_frozen F_frozen⟩
  have Dmis : Df P w K mg base (clsK K) "misplaced" 1 ["text", "letters", "least", "most"] fs_misplaced := ⟨_, _, ok_misplaced nb F_misplaced, g_misplaced, F_misplaced.kp, b_misplaced F_misplaced⟩
  have Dtxt : Df P w K mg base (clsK K) "is_text" 2 ["thing", "letters", "least", "most"] fs_is_text := ⟨_, _, ok_is_text Dmis F_is_text, g_is_text, F_is_text.kp, b_is_text F_is_text⟩
  obtain ⟨tS, hS⟩ := V.sm
  obtain ⟨tB, hB⟩ := V.mb
  obtain ⟨tM, hM⟩ := V.ms
  have Dwor : Df P w K mg base (clsK K) "are_words" 3 ["thing"] fs_are_words := ⟨_, _, ok_are_words hS Dtxt Dris F_are_words, g_are_words, F_are_words.kp, b_are_words F_are_words⟩
  have Dchw : Df P w K mg base (clsK K) "check_words" 4 ["words"] fs_check_words := ⟨_, _, ok_check_words Dwor X2 F_check_words, g_check_words, F_check_words.kp, b_check_words F_check_words⟩
  have Dchc : Df P w K mg base (clsK K) "check_calling" 3 ["words", "calling"] fs_check_calling := ⟨_, _, ok_check_calling hB Dmis X4 F_check_calling, g_check_calling, F_check_calling.kp, b_check_calling F_check_calling⟩
  have Dsta : Df P w K mg base (clsK K) "is_standing" 3 ["row", "signs", "many"] fs_is_standing := ⟨_, _, ok_is_standing nb Dtup Dinb F_is_standing, g_is_standing, F_is_standing.kp, b_is_standing F_is_standing⟩
  have Dres : Df P w K mg base (clsK K) "is_rest" 1 ["row"] fs_is_rest := ⟨_, _, ok_is_rest F_is_rest, g_is_rest, F_is_rest.kp, b_is_rest F_is_rest⟩
  have Dwro : Df P w K mg base (clsK K) "wrong_standing" 4 ["words", "rows"] fs_wrong := ⟨_, _, ok_wrong nb hM Dtup Dsta Dres F_wrong_standing, g_wrong_standing, F_wrong_standing.kp, b_wrong_standing F_wrong_standing⟩
  have Dled : Df P w K mg base (clsK K) "led" 1 ["words", "standings", "standing", "signs"] fs_led := ⟨_, _, ok_led F_led, g_led, F_led.kp, b_led F_led⟩
  have Mchk : Dm P w K mg base (clsK K) 25 "check_standing" 3 ["self", "standing"] fs_check := ⟨_, _, ok_check nb C Dinb X5 F_Drill_check_standing, (V.me "check_standing" (by decide +kernel)).1, (V.me "check_standing" (by decide +kernel)).2, b_D_check_standing F_Drill_check_standing⟩
  have Mlen : Dm P w K mg base (clsK K) 25 "__len__" 1 ["self"] fs_len := ⟨_, _, ok_len nb C F_Drill___len__, (V.me "__len__" (by decide +kernel)).1, (V.me "__len__" (by decide +kernel)).2, b_D___len__ F_Drill___len__⟩
  have Mget : Dm P w K mg base (clsK K) 25 "__getitem__" 4 ["self", "standing"] fs_get := ⟨_, _, ok_get C Mchk F_Drill___getitem__, (V.me "__getitem__" (by decide +kernel)).1, (V.me "__getitem__" (by decide +kernel)).2, b_D___getitem__ F_Drill___getitem__⟩
  have Mcal : Dm P w K mg base (clsK K) 25 "__call__" 4 ["self", "standing", "calling"] (fs_go goD) := ⟨_, _, ok_call C Mchk Dchc Dled F_Drill___call__, (V.me "__call__" (by decide +kernel)).1, (V.me "__call__" (by decide +kernel)).2, b_D___call__ F_Drill___call__⟩
  have Mwal : Dm P w K mg base (clsK K) 25 "walk" 4 ["self", "standing", "calling"] (fs_go walkD) := ⟨_, _, ok_walk nb C Mchk Dchc Dled F_Drill_walk, (V.me "walk" (by decide +kernel)).1, (V.me "walk" (by decide +kernel)).2, b_D_walk F_Drill_walk⟩
  have Meq : Dm P w K mg base (clsK K) 25 "__eq__" 1 ["self", "other"] fs_eq := ⟨_, _, ok_eq nb C V.I F_Drill___eq__, (V.me "__eq__" (by decide +kernel)).1, (V.me "__eq__" (by decide +kernel)).2, b_D___eq__ F_Drill___eq__⟩
  have Pst : Dp P w K mg base (clsK K) 25 "is_steady" 1 fs_steady := ⟨_, _, _, _, ok_steady nb C F_Drill_is_steady, V.p, b_D_is_steady F_Drill_is_steady⟩
  have DK : Dk P w K mg base (clsK K) "Drill" 25 8 ["words", "standings"] fi_init := ⟨V.I.nm, _, _, ok_init C Dchw Dfro Dwro X3 F_Drill___init__, V.mkD, b_D___init__ F_Drill___init__⟩
  have IT : ∃ f fd, FnN P w K mg base (L2N.CX P w) 1 f fd ["self"] (spIt K (clsK K 25) "standings") ∧ Meth K (clsK K 25) "__iter__" f ∧ Binds K fd ["self"] [] := ⟨_, _, iter_ok F_Drill___iter__ sc_iter V.it C.cl C.nS (by rfl) (fun _ _ => by rfl), (V.me "__iter__" (by decide +kernel)).1, b_D___iter__ F_Drill___iter__⟩
  have Lmix : Df P w K mg base (clsK K) "_law_mix" 1 ["_law_cell", "_law_turn"] fs_mix := ⟨_, _, ok_mix nb F__law_mix, g__law_mix, F__law_mix.kp, b__law_mix F__law_mix⟩
  have Lpick : Df P w K mg base (clsK K) "_law_pick" 2 ["_law_draw_here", "_law_many"] fs_pick := ⟨_, _, ok_pick nb Lmix F__law_pick, g__law_pick, F__law_pick.kp, b__law_pick F__law_pick⟩
  have Llis3 : Df P w K mg base (clsK K) "_law_listed" 4 ["_law_thing"] (fs_listed 3) := ⟨_, _, ok_listed nb F__law_listed g__law_listed (b__law_listed F__law_listed) 3, g__law_listed, F__law_listed.kp, b__law_listed F__law_listed⟩
  have Llis2 : Df P w K mg base (clsK K) "_law_listed" 3 ["_law_thing"] (fs_listed 2) := ⟨_, _, ok_listed nb F__law_listed g__law_listed (b__law_listed F__law_listed) 2, g__law_listed, F__law_listed.kp, b__law_listed F__law_listed⟩
  have LlisF : DfF P w K mg base (clsK K) "_law_listed" 4 ["_law_thing"] (ff_listed 3) := ⟨_, _, ok_listedF nb F__law_listed g__law_listed (b__law_listed F__law_listed) 3, g__law_listed, F__law_listed.kp, b__law_listed F__law_listed⟩
  have Ltup3 : Df P w K mg base (clsK K) "_law_tupled" 4 ["_law_thing"] (fs_tupled 3) := ⟨_, _, ok_tupled nb F__law_tupled g__law_tupled (b__law_tupled F__law_tupled) 3, g__law_tupled, F__law_tupled.kp, b__law_tupled F__law_tupled⟩
  have Ltup4 : Df P w K mg base (clsK K) "_law_tupled" 5 ["_law_thing"] (fs_tupled 4) := ⟨_, _, ok_tupled nb F__law_tupled g__law_tupled (b__law_tupled F__law_tupled) 4, g__law_tupled, F__law_tupled.kp, b__law_tupled F__law_tupled⟩
  have Lsam3 : Df P w K mg base (clsK K) "_law_same" 4 ["_law_one", "_law_two"] (fs_same 3) := ⟨_, _, ok_same nb F__law_same g__law_same (b__law_same F__law_same) 3, g__law_same, F__law_same.kp, b__law_same F__law_same⟩
  have Lsam0 : Df P w K mg base (clsK K) "_law_same" 1 ["_law_one", "_law_two"] (fs_same 0) := ⟨_, _, ok_same nb F__law_same g__law_same (b__law_same F__law_same) 0, g__law_same, F__law_same.kp, b__law_same F__law_same⟩
  have Lwor : Df P w K mg base (clsK K) "_law_words" 3 ["_law_draw_here", "_law_many"] fs_words := ⟨_, _, ok_words nb Lpick F__law_words, g__law_words, F__law_words.kp, b__law_words F__law_words⟩
  have Lrow : Df P w K mg base (clsK K) "_law_rows" 3 ["_law_draw_here", "_law_words_here", "_law_many"] fs_rows := ⟨_, _, ok_rows nb Lpick F__law_rows, g__law_rows, F__law_rows.kp, b__law_rows F__law_rows⟩
  have Lhan : DfF P w K mg base (clsK K) "_law_handed" 5 ["_law_draw_here", "_law_rows_here"] ff_handed := ⟨_, _, ok_handed nb Lpick Ltup3 LlisF LlisF F__law_handed, g__law_handed, F__law_handed.kp, b__law_handed F__law_handed⟩
  have Lspo : DSp P w K mg base "_law_spoil" 4 3 := ⟨_, _, _, ok_spoil nb F__law_spoil g__law_spoil (b__law_spoil F__law_spoil) 3, g__law_spoil, F__law_spoil.kp, b__law_spoil F__law_spoil⟩
  have Lwen : Df P w K mg base (clsK K) "_law_went" 1 ["_law_rows_here", "_law_words_here", "_law_standing", "_law_calling_here"] fs_went := ⟨_, _, ok_went F__law_went, g__law_went, F__law_went.kp, b__law_went F__law_went⟩
  have Lwal : Df P w K mg base (clsK K) "_law_walks" 5 ["_law_drill", "_law_words_here", "_law_rows_here", "_law_calling_here"] fs_walks := ⟨_, _, ok_walks nb C Mcal Mwal Lwen Lsam0 F__law_walks, g__law_walks, F__law_walks.kp, b__law_walks F__law_walks⟩
  have Lsho : Df P w K mg base (clsK K) "_law_shown" 6 ["_law_drill", "_law_words_here", "_law_rows_here"] fs_shown := ⟨_, _, ok_shown nb C V.R Lsam3 Mlen Mget Pst IT F__law_shown, g__law_shown, F__law_shown.kp, b__law_shown F__law_shown⟩
  have Lcal : Df P w K mg base (clsK K) "_law_calling" 3 ["_law_draw_here", "_law_signs"] fs_calling := ⟨_, _, ok_calling nb Lpick F__law_calling, g__law_calling, F__law_calling.kp, b__law_calling F__law_calling⟩
  have Ltol : Dh P w K mg base (clsK K) "_law_told" fx_told := ⟨_, _, _, told_body nb XF F__law_told, g__law_told, F__law_told.kp, b__law_told F__law_told⟩
  have Lmak : Df P w K mg base (clsK K) "_law_making" 10 ["_law_words_here", "_law_thing"] fs_making := ⟨_, _, ok_making XF DK Ltol F__law_making, g__law_making, F__law_making.kp, b__law_making F__law_making⟩
  have Lask : Df P w K mg base (clsK K) "_law_asking" 6 ["_law_drill", "_law_way", "_law_standing", "_law_calling_here"] fs_asking := ⟨_, _, ok_asking C XF Mget Mcal Mwal Ltol F__law_asking, g__law_asking, F__law_asking.kp, b__law_asking F__law_asking⟩
  have Lbw : Df P w K mg base (clsK K) "_law_bad_words" 4 ["_law_draw_here", "_law_words_here"] fs_bad_words := ⟨_, _, ok_bad_words nb Lpick Lwor F__law_bad_words, g__law_bad_words, F__law_bad_words.kp, b__law_bad_words F__law_bad_words⟩
  have Lbs : Df P w K mg base (clsK K) "_law_bad_standing" 3 ["_law_draw_here", "_law_words_here", "_law_many", "_law_row", "_law_number"] fs_bad_standing := ⟨_, _, ok_bad_standing nb Lpick F__law_bad_standing, g__law_bad_standing, F__law_bad_standing.kp, b__law_bad_standing F__law_bad_standing⟩
  have Lbt : Df P w K mg base (clsK K) "_law_bad_standings" 6 ["_law_draw_here", "_law_words_here", "_law_rows_here"] fs_bad_standings := ⟨_, _, ok_bad_standings nb Lpick Lbs Llis2 Ltup4 F__law_bad_standings, g__law_bad_standings, F__law_bad_standings.kp, b__law_bad_standings F__law_bad_standings⟩
  have Lbc : Df P w K mg base (clsK K) "_law_bad_calling" 3 ["_law_draw_here", "_law_words_here"] fs_bad_calling := ⟨_, _, ok_bad_calling nb Lpick F__law_bad_calling, g__law_bad_calling, F__law_bad_calling.kp, b__law_bad_calling F__law_bad_calling⟩
  have Lequ : Df P w K mg base (clsK K) "_law_equals" 10 ["_law_draw_here", "_law_drill", "_law_words_here", "_law_rows_here"] fs_equals := ⟨_, _, ok_equals nb V.I V.N Lpick Lsam0 LlisF Lwor Lhan DK Meq F__law_equals, g__law_equals, F__law_equals.kp, b__law_equals F__law_equals⟩
  have Lref : Df P w K mg base (clsK K) "_law_refused" 11 ["_law_draw_here", "_law_drill", "_law_words_here", "_law_rows_here"] fs_refused := ⟨_, _, ok_refused nb Lpick Lsam3 Llis3 Lbw Lbt Lmak Lbc Lcal Lask Lwen F__law_refused, g__law_refused, F__law_refused.kp, b__law_refused F__law_refused⟩
  exact ok_law nb V.I V.N ⟨Lpick, Lwor, Lrow, Lhan, DK, Lsam3, Llis3, Lspo, Lwal, Lcal, Lsho, Ltup3, Lequ, Lref, Meq⟩ F__law_draw g__law_draw (b__law_draw F__law_draw) F_law
end
section
set_option maxHeartbeats 0
open PySem PySem.Spec PyProof.Rows L2 Vl
abbrev LW : PySem.W.OpenLaw := PySem.Challenge.rw_tailheard_k01_drills_led
theorem topName : (HandSHeadRun.topDef RR.prog 50).name = ("law" : Str) := by kernel_rfl
/-- a law whose exceptions are those of the world it runs in -/
theorem walkW {q : Program} {lo : List Str} {XP : (Str → Option Value) → Heap → Prop} {d : DefRec} (hd0 : d.params.defaults = []) (dn : d.name = ("law" : Str)) : PySem.W.WalkO q lo XP hkR.says LW.row.toRowW d [] (fun g us => PySem.call g us) := by
  refine Att.attach_call (l := LW) (n := 63) rfl hd0 fun w sA sB mg mB fA oA pA cA dA aA vA nA GA YA h1 h2 h3 h4 h5 h6 h7 h8 => ?_
  obtain ⟨K, KX, c⟩ := YA
  rw [dn] at h4
  obtain ⟨fd, hb, hF⟩ := facts (P := LW.prog) (w := w) KX GA.T.g h4 c
  exact law_call KX GA.T.g GA.T.b GA.T.builtins GA.T.nolimit h8 h5 h6 (Nat.le_trans h7 (by decide)) ⟨rfl, by decide, by decide⟩ hF hb (fun H hO hS => ⟨aA, nA, rfl, hS, h7, fun _ => rfl⟩) fun H e s' z => by
    obtain ⟨_, _, _, _, _, _, _, _, _, _, _, _, no⟩ := z
    exact no.elim
end
end K01
set_option maxHeartbeats 0
open PySem PySem.W PySem.Calls PyProof.Rows
theorem PySem.Challenge.cw_tailheard_k01_drills_led_holds : PySem.Challenge.rw_tailheard_k01_drills_led.Holds := by
  w_on; o_law
  refine HandSHeadRun.head_any (r := K01.RR) (q := view K01.RR.prog [50]) (H := K01.hkR) (ob := K01.obR) (M := 6000) (loose := K01.nms) (d := HandSHeadRun.topDef K01.RR.prog 50) (kwd := []) K01.obR_eq
    (by kernel_rfl) (fun s => by kernel_rfl) K01.runR (by kernel_rfl) (by kernel_rfl) (by kernel_rfl) (by rfl) (by first | assumption | decide +kernel) (by decide +kernel) ⟨rfl, rfl, rfl, rfl, rfl, by decide +kernel⟩ ?hw ?hc
  case hw => w_witness2
  case hc => exact K01.walkW (by kernel_rfl) K01.topName
